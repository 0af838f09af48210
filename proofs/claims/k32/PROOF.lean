import PyProof.Rows.All
import Wide.All
import OpenK.AllK
import Wide.FinOn
import HandS.HeadHook4
import HandS.HeadWalk
import HandS.Head2
import PyProof.EqAt
import PyProof.EqKinds
import PyProof.TupleCall
import HandS.ForMost
import HandS.IsInst
import HandS.Flow
import HandS.Walk
import HandS.CallLocal
import HandS.StrMore
import Wide.Txt
import HandS.NoneIn
import HandS.TupAny
import HandS.Zip
import HandS.Zip0
import HandS.More
import PyProof.AutoSeq1
import PyProof.Rows.StrPartPair
import HandS.ListItems
import KE.KDictList
import HandS.Lambda
import HandS.SortKw
import KE.SortKeyHeap
import HandS.Words
import HandS.DictComp
import HandS.Strs
import HandS.OwnEq
import OpenK.KOps
import HandS.Base
import HandS.Call
import HandS.Exc
import HandS.ForExc
import HandS.ExcInit
import HandS.ExcIs
import KE.GoesEnum
import HandS.Conv
import HandS.CallSlots
import HandS.EndTab
import KE.KNestM
import HandS.HeadHook2
import HandS.HeadHook3
import KE.KStateDown
import HandS.Head0
import HandS.Head1
import PySem.Challenge.RW_callwarrant_k32_bounds_of_links
set_option Elab.async false
set_option linter.all false
set_option maxRecDepth 100000
set_option maxHeartbeats 2000000
/-! # CwHook: a head by one run of the top: facts by names, defs by their rows, a Bool of one's own, dicts with text keys, defs whose tables are empty -/
namespace CwHk
open PySem PySem.Spec PyProof.Rows L2 He
/-- the part of the heap that is looked at -/
def look (as : List Addr) (g : Addr → Option Obj) : PySem.W.Frag := frT g as
abbrev Seen : Type := Al × (Bool × List (Option (List (Option (Str × Int)))))
section
variable (as : List Addr) (fa : List Fa) (fn : List FnD) (ex : PySem.W.Frag → Bool) (tf : List Defn) (ds : List (Str × List Str))
def seen (g : Addr → Option Obj) : Seen := (obsE fa fn (look as g), ex (look as g) && tabsB g tf (look as g), ds.map fun p => dicW (look as g) (ga (look as g) p.1))
def due (w : World) : Seen := (valE fn, true, ds.map fun p => some (keysIn w.params p.2))
structure Told (w : World) (h : Heap) (K : PySem.W.Frag) : Prop where
  e : SaysE fa fn K
  x : ex K = true
  d : ∀ p, p ∈ ds → dicW K (ga K p.1) = some (keysIn w.params p.2)
  c : ∀ p, p ∈ tf → PySem.W.codeHdIn K (cT K p).1 (cT K p).2 = true ∧ K.lookup (cT K p).2 = none ∧ h.get? (cT K p).2 = some { cls := .none, data := .fields #[] }
variable {as fa fn ex tf ds}
theorem told_of {w : World} {h : Heap} (q : seen as fa fn ex tf ds h.get? = due fn ds w) : Told fa fn ex tf ds w h (look as h.get?) := by
  have q1 := congrArg (fun z : Seen => z.1) q
  have q2 : (ex (look as h.get?) && tabsB h.get? tf (look as h.get?)) = true := congrArg (fun z : Seen => z.2.1) q
  have q3 : (ds.map fun p => dicW (look as h.get?) (ga (look as h.get?) p.1)) = ds.map fun p => some (keysIn w.params p.2) := congrArg (fun z : Seen => z.2.2) q
  obtain ⟨y1, y2⟩ := ba q2
  refine ⟨q1, y1, fun p hp => List.map_inj_left.mp q3 p hp, fun p hp => ?_⟩
  obtain ⟨y3, y4⟩ := ba (List.all_eq_true.mp y2 p hp)
  cases r : h.get? (cT (look as h.get?) p).2 with
  | none => rw [r] at y4; cases y4
  | some o =>
    rw [r] at y4
    exact ⟨y3, frT_none r y4, congrArg some (emptyTab_eq y4)⟩
variable (as fa fn ex tf ds)
def hook : PySem.W.Hook where
  α := Seen
  obs := fun s => seen as fa fn ex tf ds s.heap.get?
  val := due fn ds
  says := fun w h => ∃ K : PySem.W.Frag, K.In h ∧ Told fa fn ex tf ds w h K
  of := fun _ _ q => ⟨_, frT_in, told_of q⟩
  keeps := fun _ _ _ ⟨K, i, t⟩ k => ⟨K, PySem.W.Frag.In.keeps i k, t.e, t.x, t.d, fun p hp => ⟨(t.c p hp).1, (t.c p hp).2.1, k _ _ (t.c p hp).2.2⟩⟩
theorem seen_hook (s : PySem.W.SharedT) : seen as fa fn ex tf ds (HandSHeadRun.getT s) = (hook as fa fn ex tf ds).obs s.abs := by
  have e : HandSHeadRun.getT s = s.abs.heap.get? := funext (HandSHeadRun.getT_eq s)
  rw [e]
  rfl
end
end CwHk

set_option Elab.async false
set_option linter.all false
set_option maxRecDepth 100000
set_option maxHeartbeats 4000000
namespace Cw
open PySem PySem.Spec PyProof.Rows L2
def topS (i : Nat) : Stmt := PySem.Challenge.pw_callwarrant_k32_bounds_of_links.main.body.getD i (.Pass ⟨0, 0, 0, 0⟩)
abbrev sNum : Stmt := topS 110
theorem scNum : FnScope ["script", "row", "cell", "left", "k", "mixed"] ["script"] (defScope sNum) := ⟨rfl, rfl, rfl, by decide +kernel, rfl, by decide +kernel, by decide +kernel⟩
theorem same_upd {H : Hp} {p : Addr} {o : HO} (h : H p = none) : Same H (upd H p o) := fun b x e => by
  rw [upd_ne (ne_of_none e h)]
  exact e
/-- H' keeps what H tracks, p (new to H) apart -/
theorem same_mut {H H' : Hp} {p : Addr} {o : HO} (s : Same H H') (h : H p = none) : Same H (upd H' p o) := fun b x e => by
  rw [upd_ne (ne_of_none e h)]
  exact s b x e
def spNum (K : PySem.W.Frag) : Sp := fun vs H Q _ => ∃ (a : Addr) (ns : List Int), vs = [.ref a] ∧ SqL K H a (ns.map V.int) ∧ ns.length ≤ 63 ∧
  ∀ H' p (row : List Int), Same H H' → H p = none → H' p = some (.lst (row.map V.int)) → row ≠ [] → row.length ≤ 4000 → Q (.ref p) H'
section
variable {P : Program} {w : World} {K : PySem.W.Frag} {mg : Str → Option Value} {base : Heap}
theorem ok_num {f : Addr} {fd : FuncData} {k : Nat} (F : Fun K "_law_numbers" "_law_numbers" sNum f fd) (mr : mg "range" = none) (mi : mg "int" = none) (ml : mg "len" = none) : FnOk P w K mg base CX0 (k + 1) f fd ["script"] (spNum K) := by
  refine F.ok scNum (fun vs H Q E h => ?_) (fun cdv A outer s H vs Q E hr h => ?_)
  · obtain ⟨a, ns, rfl, _⟩ := h
    rfl
  · obtain ⟨a, ns, rfl, hS, hlen, q⟩ := h
    refine ⟨_, pss_cons (ps_set (i := 1) scNum.nd rfl (.inl rfl) (pe_lst pa_nil))
      (pss_cons (ps_for PassesOwn.never rfl (pi_list (pe_slice sl_list (pv 0) po_none (po_some pe_int))) (pg_name (i := 2) scNum.nd rfl (.inl rfl))
        (pss_one (ps_if (pt_cmpR op_ge (pv 2) (pe_op op_pow pe_int pe_int) (nomark _))
          (pss_cons (ps_set (i := 3) scNum.nd rfl (.inl rfl) (pv 2))
            (pss_one (ps_for PassesOwn.never rfl (pi_range1 rfl mr (pa_cons pe_int pa_nil)) (pg_name (i := 4) scNum.nd rfl (.inl rfl))
              (pss_cons (ps_if (pt_cmpR op_eq (pv 3) pe_int (nomark _)) (pss_one ps_break) pss_nil)
              (pss_cons (ps_expr (pe_bm PySem.F.plainAttrs_list PySem.F.slot_list_append PySem.F.type_list_append mt_append (pv 1) (pa_cons (pe_op op_mod (pe_callTy call_int1 (by rfl) mi (by decide +kernel) (pa_cons (pv 3) pa_nil)) pe_int) pa_nil)))
              (pss_one (ps_set (i := 3) scNum.nd rfl (.inl rfl) (pe_op op_fdiv (pv 3) pe_int))))))))
          (pss_one (ps_for PassesOwn.never rfl (pi_range1 rfl mr (pa_cons pe_int pa_nil)) (pg_name (i := 4) scNum.nd rfl (.inl rfl))
              (pss_cons (ps_set (i := 5) scNum.nd rfl (.inl rfl) (pe_op op_mod (pe_callTy call_int1 (by rfl) mi (by decide +kernel) (pa_cons (pe_op op_add (pe_op op_add (pe_op op_mul (pv 2) pe_int) (pe_op op_mul (pv 4) pe_int)) pe_int) pa_nil)) pe_int))
              (pss_one (ps_expr (pe_bm PySem.F.plainAttrs_list PySem.F.slot_list_append PySem.F.type_list_append mt_append (pv 1) (pa_cons (pe_op op_mod (pe_callTy call_int1 (by rfl) mi (by decide +kernel) (pa_cons (pe_op op_add (pe_op op_mul (pv 5) pe_int) (pv 4)) pa_nil)) pe_int) pa_nil))))))))))
      (pss_cons (ps_if (pt_cmpR op_eq (pe_callB call_len_seq (by rfl) ml PySem.boot_len (pa_cons (pv 1) pa_nil)) pe_int (nomark _)) (pss_one (ps_expr (pe_bm PySem.F.plainAttrs_list PySem.F.slot_list_append PySem.F.type_list_append mt_append (pv 1) (pa_cons pe_int pa_nil)))) pss_nil)
      (pss_one (ps_ret (pv 1))))), ?_⟩
    refine ⟨Nat.zero_le _, fun o no => ?_⟩
    have s1 : Same H (upd H o (.lst [])) := same_upd no
    have cut : ∃ ms : List Int, cutV (ns.map V.int) none (some 63) = ms.map V.int ∧ ms.length ≤ 63 :=
      ⟨_, by unfold cutV; rw [← List.map_drop, ← List.map_take], by rw [List.length_take, List.length_drop]; omega⟩
    obtain ⟨ms, ems, lms⟩ := cut
    refine ⟨.ref a, rfl, 63, rfl, a, ns.map V.int, rfl, s1.seq hS, fun c nc => ?_⟩
    rw [ems]
    have oc : o ≠ c := fun z => by rw [← z, upd_same] at nc; cases nc
    have nc0 : H c = none := by rw [upd_ne (Ne.symm oc)] at nc; exact nc
    refine ⟨c, rfl, ⟨_, .inl (.inl upd_same)⟩, for_list (xs := ms.map V.int)
      (fun i σ H' => ∃ c2 c3 c4 c5, σ = [some (.ref a), some (.ref o), c2, c3, c4, c5] ∧ ∃ row : List Int, Same H H' ∧ H' c = some (.lst (ms.map V.int)) ∧ H' o = some (.lst (row.map V.int)) ∧ row.length ≤ 60 * i)
      ⟨none, none, none, none, rfl, [], same_mut s1 nc0, upd_same, by rw [upd_ne oc]; exact upd_same, Nat.le_refl _⟩
      (fun i σ H' _ hp => by obtain ⟨_, _, _, _, _, _, _, e, _⟩ := hp; exact .inl (.inl e)) ?_ ?_⟩
    · rintro i x σ H' hx ⟨c2, c3, c4, c5, rfl, row, sm, hc, ho, hl⟩
      have hi : i < 63 := by
        have := (List.getElem?_eq_some_iff.mp hx).1
        rw [List.length_map] at this
        omega
      obtain ⟨z, rfl⟩ : ∃ z, x = V.int z := by
        rw [List.getElem?_map] at hx
        cases e : ms[i]? with
        | none => rw [e] at hx; cases hx
        | some z => rw [e] at hx; exact ⟨z, (Option.some.inj hx).symm⟩
      refine ⟨_, rfl, 10, 18, rfl, rfl, ⟨by decide, by decide, by decide⟩, z, _, rfl, rfl, _, rfl, ite2 (fun _ => ?_) (fun _ => ?_)⟩
      · refine ⟨_, rfl, 60, rfl, by decide, by decide, for_range (lo := 0) (n := 60)
          (fun j σ H2 => ∃ l c4 c5, σ = [some (.ref a), some (.ref o), some (.int z), some (.int l), c4, c5] ∧ ∃ row : List Int, Same H H2 ∧ H2 c = some (.lst (ms.map V.int)) ∧ H2 o = some (.lst (row.map V.int)) ∧ row.length ≤ 60 * i + j)
          ⟨z, _, _, rfl, row, sm, hc, ho, hl⟩ ?_ ?_⟩
        · rintro j σ H2 hj ⟨l, d4, d5, rfl, row2, sm2, hc2, ho2, hl2⟩
          refine ⟨_, rfl, rfl, _, rfl, ite2 (fun _ => ?_) (fun _ => ?_)⟩
          · exact ⟨_, _, _, _, rfl, row2, sm2, hc2, ho2, by omega⟩
          · refine ⟨.ref o, rfl, .inl ⟨rfl, _, .inl (.inl ho2)⟩, .int l, rfl, .inl ⟨l, rfl, l, 997, rfl, rfl, by show (0 : Int) < 997; decide, o, _, _, rfl, rfl, ho2, ?_, ?_⟩⟩
            · rw [List.length_map]
              exact Nat.lt_of_lt_of_le (show row2.length < 4000 by omega) (by decide)
            · refine ⟨_, rfl, l, 997, rfl, rfl, ⟨by decide, by decide⟩, ?_⟩
              exact ⟨_, _, _, rfl, row2 ++ [l % 997], same_mut sm2 no, by rw [upd_ne (Ne.symm oc)]; exact hc2, by rw [upd_same, List.map_append]; rfl, by rw [List.length_append]; show row2.length + 1 ≤ _; omega⟩
        · rintro σ H2 ⟨l, d4, d5, rfl, row2, sm2, hc2, ho2, hl2⟩
          exact ⟨_, _, _, _, rfl, row2, sm2, hc2, ho2, by omega⟩
      · refine ⟨4, rfl, by decide, by decide, for_range (lo := 0) (n := 4)
          (fun j σ H2 => ∃ c3 c4 c5, σ = [some (.ref a), some (.ref o), some (.int z), c3, c4, c5] ∧ ∃ row : List Int, Same H H2 ∧ H2 c = some (.lst (ms.map V.int)) ∧ H2 o = some (.lst (row.map V.int)) ∧ row.length ≤ 60 * i + j)
          ⟨_, _, _, rfl, row, sm, hc, ho, hl⟩ ?_ ?_⟩
        · rintro j σ H2 hj ⟨d3, d4, d5, rfl, row2, sm2, hc2, ho2, hl2⟩
          refine ⟨_, rfl, z, 48271, rfl, rfl, .inr (by decide), _, rfl, _, 69621, rfl, rfl, .inr (by decide), _, _, rfl, rfl, _, _, rfl, rfl, .inl ⟨_, rfl, _, 2147483647, rfl, rfl, by show (0 : Int) < 2147483647; decide, ?_⟩⟩
          refine ⟨.ref o, rfl, .inl ⟨rfl, _, .inl (.inl ho2)⟩, _, rfl, _, 16807, rfl, rfl, .inr (by decide), _, rfl, _, _, rfl, rfl, .inl ⟨_, rfl, _, 2147483629, rfl, rfl, by show (0 : Int) < 2147483629; decide, o, _, _, rfl, rfl, ho2, ?_, ?_⟩⟩
          · rw [List.length_map]
            exact Nat.lt_of_lt_of_le (show row2.length < 4000 by omega) (by decide)
          · exact ⟨_, _, _, rfl, row2 ++ [_], same_mut sm2 no, by rw [upd_ne (Ne.symm oc)]; exact hc2, by rw [upd_same, List.map_append]; rfl, by rw [List.length_append]; show row2.length + 1 ≤ _; omega⟩
        · rintro σ H2 ⟨d3, d4, d5, rfl, row2, sm2, hc2, ho2, hl2⟩
          exact ⟨_, _, _, _, rfl, row2, sm2, hc2, ho2, by omega⟩
    · rintro σ H' ⟨c2, c3, c4, c5, rfl, row, sm, hc, ho, hl⟩
      rw [List.length_map] at hl
      refine ⟨.ref o, rfl, o, _, rfl, .inl (.inl (.inl ho)), rfl, _, rfl, ite2 (fun e => ?_) (fun e => ?_)⟩
      · refine ⟨.ref o, rfl, .inl ⟨rfl, _, .inl (.inl ho)⟩, o, _, _, rfl, rfl, ho, ?_, ?_⟩
        · rw [List.length_map]
          exact Nat.lt_of_lt_of_le (show row.length < 4000 by omega) (by decide)
        · exact ⟨.ref o, rfl, q _ o (row ++ [0]) (same_mut sm no) no (by rw [upd_same, List.map_append]; rfl) (by simp) (by rw [List.length_append]; show row.length + 1 ≤ _; omega)⟩
      · refine ⟨.ref o, rfl, q _ o row sm no ho (fun z => ?_) (by omega)⟩
        subst z
        exact e rfl
end
end Cw
set_option Elab.async false
set_option linter.all false
set_option maxRecDepth 100000
set_option maxHeartbeats 4000000
namespace Cw
open PySem PySem.Spec PyProof.Rows L2
abbrev sDraw : Stmt := topS 111
abbrev sTake : Stmt := topS 112
theorem scDraw : FnScope ["row", "at", "limit", "mixed"] ["row", "at", "limit"] (defScope sDraw) := ⟨rfl, rfl, rfl, by decide +kernel, rfl, by decide +kernel, by decide +kernel⟩
theorem scTake : FnScope ["row", "spot", "limit"] ["row", "spot", "limit"] (defScope sTake) := ⟨rfl, rfl, rfl, by decide +kernel, rfl, by decide +kernel, by decide +kernel⟩
def spDraw (K : PySem.W.Frag) : Sp := fun vs H Q _ => ∃ (r : Addr) (row : List Int) (i lim : Int), vs = [.ref r, .int i, .int lim] ∧ SqL K H r (row.map V.int) ∧ row ≠ [] ∧ 0 ≤ i ∧ 0 < lim ∧ ∀ z : Int, 0 ≤ z → z < lim → Q (.int z) H
def spTake (K : PySem.W.Frag) : Sp := fun vs H Q _ => ∃ (r sp : Addr) (row : List Int) (n : Nat) (lim : Int), vs = [.ref r, .ref sp, .int lim] ∧ H r = some (.lst (row.map V.int)) ∧ row ≠ [] ∧ r ≠ sp ∧ H sp = some (.lst [.int (n : Int)]) ∧ 0 < lim ∧
  ∀ z : Int, 0 ≤ z → z < lim → Q (.int z) (upd H sp (.lst [.int ((n + 1 : Nat) : Int)]))
theorem at_int {l : List Int} {i : Int} (h0 : 0 ≤ i) (h : i < (l.length : Int)) : ∃ z, atI (l.map V.int) i = some (.int z) := by
  obtain ⟨j, rfl⟩ := Int.eq_ofNat_of_zero_le h0
  have hj : j < l.length := Int.ofNat_lt.mp h
  exact ⟨l[j], atI_nat (by rw [List.getElem?_map, List.getElem?_eq_getElem hj]; rfl)⟩
section
variable {P : Program} {w : World} {K : PySem.W.Frag} {mg : Str → Option Value} {base : Heap}
theorem ok_draw {f : Addr} {fd : FuncData} {k : Nat} (F : Fun K "_law_draw" "_law_draw" sDraw f fd) (mi : mg "int" = none) (ml : mg "len" = none) : FnOk P w K mg base CX0 (k + 1) f fd ["row", "at", "limit"] (spDraw K) := by
  refine F.ok scDraw (fun vs H Q E h => ?_) (fun cdv A outer s H vs Q E hr h => ?_)
  · obtain ⟨_, _, _, _, rfl, _⟩ := h
    rfl
  · obtain ⟨r, row, i, lim, rfl, hS, hne, hi, hl, q⟩ := h
    refine ⟨_, pss_cons (ps_if (pt_cmpR op_lt (pv 1) (pe_callB call_len_seq (by rfl) ml PySem.boot_len (pa_cons (pv 0) pa_nil)) (nomark _))
        (pss_one (ps_ret (pe_op op_mod (pe_callTy call_int1 (by rfl) mi (by decide +kernel) (pa_cons (pe_ix ix_list (pv 0) (pv 1) (fun _ _ => rfl)) pa_nil)) (pv 2)))) pss_nil)
      (pss_cons (ps_set (i := 3) scDraw.nd rfl (.inl rfl) (pe_op op_mod (pe_callTy call_int1 (by rfl) mi (by decide +kernel) (pa_cons (pe_op op_add (pe_op op_add
          (pe_op op_mul (pe_ix ix_list (pv 0) (pe_op op_mod (pe_callTy call_int1 (by rfl) mi (by decide +kernel) (pa_cons (pv 1) pa_nil)) (pe_callB call_len_seq (by rfl) ml PySem.boot_len (pa_cons (pv 0) pa_nil))) (fun _ _ => rfl)) pe_int)
          (pe_op op_mul (pv 1) pe_int)) pe_int) pa_nil)) pe_int))
      (pss_one (ps_ret (pe_op op_mod (pe_callTy call_int1 (by rfl) mi (by decide +kernel) (pa_cons (pe_op op_mod (pe_callTy call_int1 (by rfl) mi (by decide +kernel) (pa_cons (pe_op op_add (pe_op op_mul (pv 3) pe_int) (pv 1)) pa_nil)) pe_int) pa_nil)) (pv 2))))), ?_⟩
    have pos : 0 < row.length := List.length_pos_iff.mpr hne
    refine ⟨_, rfl, .ref r, rfl, r, _, rfl, .inl hS, i, _, rfl, rfl, _, rfl, ite2 (fun e => ?_) (fun e => ?_)⟩
    · have e1 : i < ((row.map V.int).length : Int) := of_decide_eq_true e
      rw [List.length_map] at e1
      obtain ⟨z, hz⟩ := at_int hi e1
      exact ⟨.ref r, rfl, _, rfl, r, _, i, _, rfl, rfl, hS, hz, .inl ⟨z, rfl, _, rfl, z, lim, rfl, rfl, hl, q _ (Int.emod_nonneg _ (by omega)) (Int.emod_lt_of_pos _ hl)⟩⟩
    · have lp : (0 : Int) < ((row.map V.int).length : Int) := by rw [List.length_map]; omega
      obtain ⟨z, hz⟩ := at_int (l := row) (i := i % ((row.map V.int).length : Int)) (Int.emod_nonneg _ (by omega)) (by have := Int.emod_lt_of_pos i lp; rw [List.length_map] at this ⊢; exact this)
      refine ⟨.ref r, rfl, _, rfl, .inl ⟨i, rfl, .ref r, rfl, r, _, rfl, .inl hS, i, _, rfl, rfl, lp, r, _, _, _, rfl, rfl, hS, hz, z, 40692, rfl, rfl, .inr (by decide), _, rfl, i, 7919, rfl, rfl, .inr (by decide), _, _, rfl, rfl, _, 3, rfl, rfl, .inl ⟨_, rfl, _, 2147483399, rfl, rfl, by show (0 : Int) < 2147483399; decide, ?_⟩⟩⟩
      exact ⟨_, rfl, _, 48271, rfl, rfl, .inr (by decide), _, rfl, _, i, rfl, rfl, .inl ⟨_, rfl, _, 2147483647, rfl, rfl, by show (0 : Int) < 2147483647; decide, .inl ⟨_, rfl, _, rfl, _, lim, rfl, rfl, hl, q _ (Int.emod_nonneg _ (by omega)) (Int.emod_lt_of_pos _ hl)⟩⟩⟩
theorem ok_take {f fD : Addr} {fd fdD : FuncData} {k : Nat} (F : Fun K "_law_take" "_law_take" sTake f fd) (FD : Fun K "_law_draw" "_law_draw" sDraw fD fdD) (bD : Binds K fdD ["row", "at", "limit"] []) (gD : mg "_law_draw" = some (.ref fD)) (mi : mg "int" = none) (ml : mg "len" = none) :
    FnOk P w K mg base CX0 (k + 2) f fd ["row", "spot", "limit"] (spTake K) := by
  have GD : FnOk P w K mg base CX0 (k + 1) fD fdD ["row", "at", "limit"] (spDraw K) := ok_draw FD mi ml
  refine F.ok scTake (fun vs H Q E h => ?_) (fun cdv A outer s H vs Q E hr h => ?_)
  · obtain ⟨_, _, _, _, _, rfl, _⟩ := h
    rfl
  · obtain ⟨r, sp, row, n, lim, rfl, hR, hne, hrs, hs, hl, q⟩ := h
    refine ⟨_, pss_cons (ps_asg (pe_op op_add (pe_ix ix_list (pv 1) pe_int (fun _ _ => rfl)) pe_int) (pg_sub (pv 1) pe_int set_list))
      (pss_one (ps_ret (pe_call GD hr (by rfl) gD FD.kp bD .nil pass0 (pa_cons (pv 0) (pa_cons (pe_op op_sub (pe_ix ix_list (pv 1) pe_int (fun _ _ => rfl)) pe_int) (pa_cons (pv 2) pa_nil)))))), ?_⟩
    refine ⟨.ref sp, rfl, sp, [.int (n : Int)], 0, _, rfl, rfl, SqL.of hs, atI_nat (j := 0) rfl, n, 1, rfl, rfl, .ref sp, rfl, sp, [.int (n : Int)], 0, 0, rfl, rfl, hs, rfl, ?_⟩
    have h1 : ([V.int (n : Int)].set 0 (V.int ((n : Int) + 1))) = [V.int ((n + 1 : Nat) : Int)] := rfl
    refine ⟨.ref r, rfl, .ref sp, rfl, sp, _, 0, .int ((n : Int) + 1), rfl, rfl, SqL.of upd_same, atI_nat (j := 0) rfl, (n : Int) + 1, 1, rfl, rfl, .int lim, rfl, r, row, _, lim, rfl, ?_, hne, by omega, hl, fun z z0 z1 => ?_⟩
    · exact SqL.of (by rw [upd_ne hrs]; exact hR)
    · exact q z z0 z1
end
end Cw
set_option Elab.async false
set_option linter.all false
set_option maxRecDepth 100000
set_option maxHeartbeats 4000000
namespace Cw
open PySem PySem.Spec PyProof.Rows L2
/-! ### data: what a value's class is, and what it is equal to -/
def tyName : PyData → String
  | .none => "NoneType" | .bool _ => "bool" | .int _ => "int" | .str _ => "str" | .list _ => "list" | .tuple _ => "tuple" | .dict _ => "dict"
def isTy (n : String) (d : PyData) : Bool := (kitB (tyName d) n).getD false
theorem ty_dp {K : PySem.W.Frag} {H : Hp} {x : V} {d : PyData} (h : Dp K H x d) : TyX K H x (.type (tyName d)) := by
  cases h with
  | non => exact .base .non
  | bl b => exact .base (.bl b)
  | int i => exact .base (.int i)
  | str s => exact .base (.str s)
  | lst hs _ =>
    rcases hs with (e | ⟨o, e⟩) | ⟨o, its, n, e, c, _⟩
    · exact .base (.lst e)
    · exact .base (.frz e)
    · exact .kList e c
  | tup hs _ =>
    rcases hs with (e | ⟨o, e⟩) | ⟨o, its, n, e, c, _⟩
    · exact .base (.tup e)
    · exact .fTuple e
    · exact .kTuple e c
theorem dp_get {K : PySem.W.Frag} {H : Hp} : ∀ {xs : List V} {ds : List PyData}, DpAll K H xs ds → xs.length = ds.length ∧ ∀ (i : Nat) (d : PyData), ds[i]? = some d → ∃ x, xs[i]? = some x ∧ Dp K H x d
  | _, _, .nil => ⟨rfl, fun (i : Nat) d h => by simp at h⟩
  | _, _, .cons h t => by
    obtain ⟨l, g⟩ := dp_get t
    refine ⟨congrArg Nat.succ l, fun i d e => ?_⟩
    cases i with
    | zero => obtain rfl := Option.some.inj e; exact ⟨_, rfl, h⟩
    | succ j => exact g j d e
theorem dp_scal {K : PySem.W.Frag} {H : Hp} {x y : V} {b c : Bool} (h : Dp K H x (.bool b)) (g : Dp K H y (.bool c)) : x = .bl b ∧ y = .bl c := by
  cases h; cases g; exact ⟨rfl, rfl⟩
def isN : PyData → Bool | .none => true | _ => false
/-- the law's own equality: found, meant -/
def so : Nat → PyData → PyData → Bool
  | _, f, .none => isN f
  | _, f, .bool b => match f with | .bool c => c == b | _ => false
  | _, f, .int i => match f with | .int j => j == i | _ => false
  | _, f, .str s => match f with | .str t => t == s | _ => false
  | 0, _, .tuple _ => false
  | n + 1, f, .tuple ms => match f with | .tuple fs => fs.length == ms.length && (List.range ms.length).all (fun i => so n (fs.getD i .none) (ms.getD i .none)) | _ => false
  | _, _, .list _ => false
  | _, _, .dict _ => false
theorem so_none (n : Nat) (f : PyData) : so n f .none = isN f := by cases n <;> rfl
theorem so_bool (n : Nat) (f : PyData) (b : Bool) : so n f (.bool b) = (match f with | .bool c => c == b | _ => false) := by cases n <;> rfl
theorem so_int (n : Nat) (f : PyData) (i : Int) : so n f (.int i) = (match f with | .int j => j == i | _ => false) := by cases n <;> rfl
theorem so_str (n : Nat) (f : PyData) (x : Str) : so n f (.str x) = (match f with | .str t => t == x | _ => false) := by cases n <;> rfl
theorem so_list (n : Nat) (f : PyData) (l : List PyData) : so n f (.list l) = false := by cases n <;> rfl
def fits : Nat → PyData → Prop
  | 0, .tuple _ => False
  | n + 1, .tuple ds => ds.length ≤ 1000 ∧ ∀ d, d ∈ ds → fits n d
  | _, _ => True
def isTu : PyData → Bool | .tuple _ => true | _ => false
def isBo : PyData → Bool | .bool _ => true | _ => false
def isIn : PyData → Bool | .bool _ => true | .int _ => true | _ => false
def isSt : PyData → Bool | .str _ => true | _ => false
theorem kb_tu (d : PyData) : kitB (tyName d) "tuple" = some (isTu d) := match d with
  | .none => (by decide +kernel : kitB "NoneType" "tuple" = some false)
  | .bool _ => (by decide +kernel : kitB "bool" "tuple" = some false)
  | .int _ => (by decide +kernel : kitB "int" "tuple" = some false)
  | .str _ => (by decide +kernel : kitB "str" "tuple" = some false)
  | .list _ => (by decide +kernel : kitB "list" "tuple" = some false)
  | .tuple _ => (by decide +kernel : kitB "tuple" "tuple" = some true)
  | .dict _ => (by decide +kernel : kitB "dict" "tuple" = some false)
theorem kb_bo (d : PyData) : kitB (tyName d) "bool" = some (isBo d) := match d with
  | .none => (by decide +kernel : kitB "NoneType" "bool" = some false)
  | .bool _ => (by decide +kernel : kitB "bool" "bool" = some true)
  | .int _ => (by decide +kernel : kitB "int" "bool" = some false)
  | .str _ => (by decide +kernel : kitB "str" "bool" = some false)
  | .list _ => (by decide +kernel : kitB "list" "bool" = some false)
  | .tuple _ => (by decide +kernel : kitB "tuple" "bool" = some false)
  | .dict _ => (by decide +kernel : kitB "dict" "bool" = some false)
theorem kb_in (d : PyData) : kitB (tyName d) "int" = some (isIn d) := match d with
  | .none => (by decide +kernel : kitB "NoneType" "int" = some false)
  | .bool _ => (by decide +kernel : kitB "bool" "int" = some true)
  | .int _ => (by decide +kernel : kitB "int" "int" = some true)
  | .str _ => (by decide +kernel : kitB "str" "int" = some false)
  | .list _ => (by decide +kernel : kitB "list" "int" = some false)
  | .tuple _ => (by decide +kernel : kitB "tuple" "int" = some false)
  | .dict _ => (by decide +kernel : kitB "dict" "int" = some false)
theorem kb_st (d : PyData) : kitB (tyName d) "str" = some (isSt d) := match d with
  | .none => (by decide +kernel : kitB "NoneType" "str" = some false)
  | .bool _ => (by decide +kernel : kitB "bool" "str" = some false)
  | .int _ => (by decide +kernel : kitB "int" "str" = some false)
  | .str _ => (by decide +kernel : kitB "str" "str" = some true)
  | .list _ => (by decide +kernel : kitB "list" "str" = some false)
  | .tuple _ => (by decide +kernel : kitB "tuple" "str" = some false)
  | .dict _ => (by decide +kernel : kitB "dict" "str" = some false)
theorem r_isi {K : PySem.W.Frag} {σ : L2.St} {H : Hp} {x : V} {d : PyData} {n : String} {b : Bool} {i : Nat} {Q : Bool → Hp → Prop} (e : σ[i]? = some (some x)) (h : Dp K H x d) (kb : kitB (tyName d) n = some b) (q : Q b H) :
    tB (tCB (rIsi K) (tCons (tVar i) (tCons (tC (.ty n)) tNil))) σ H Q := ⟨x, e, x, .ty n, .type (tyName d), .type n, b, rfl, .ty n, ty_dp h, kit_ty kb, b, rfl, q⟩
theorem v_isi {K : PySem.W.Frag} {σ : L2.St} {H : Hp} {x : V} {d : PyData} {n : String} {b : Bool} {i : Nat} {Q : VK} (e : σ[i]? = some (some x)) (h : Dp K H x d) (kb : kitB (tyName d) n = some b) (q : Q (.bl b) H) :
    tCB (rIsi K) (tCons (tVar i) (tCons (tC (.ty n)) tNil)) σ H Q := ⟨x, e, x, .ty n, .type (tyName d), .type n, b, rfl, .ty n, ty_dp h, kit_ty kb, q⟩
theorem dp_non {K : PySem.W.Frag} {H : Hp} {x : V} {d : PyData} (h : Dp K H x d) : decide (x = V.non) = isN d := by
  cases h <;> rfl
abbrev sSo : Stmt := topS 109
theorem scSo : FnScope ["found", "meant", "k"] ["found", "meant"] (defScope sSo) := ⟨rfl, rfl, rfl, by decide +kernel, rfl, by decide +kernel, by decide +kernel⟩
def spSo (K : PySem.W.Frag) : Nat → Sp
  | 0 => fun _ _ _ _ => False
  | n + 1 => fun vs H Q _ => ∃ x y f m, vs = [x, y] ∧ Dp K H x f ∧ Dp K H y m ∧ fits n m ∧ Q (.bl (so n f m)) H
section
variable {P : Program} {w : World} {K : PySem.W.Frag} {mg : Str → Option Value} {base : Heap}
theorem ok_so {f : Addr} {fd : FuncData} {k : Nat} (F : Fun K "_law_so" "_law_so" sSo f fd) (bF : Binds K fd ["found", "meant"] []) (gF : mg "_law_so" = some (.ref f))
    (ms : mg "isinstance" = none) (ml : mg "len" = none) (mr : mg "range" = none) (m1 : mg "tuple" = none) (m2 : mg "bool" = none) (m3 : mg "int" = none) (m4 : mg "str" = none) : ∀ n, FnOk P w K mg base CX0 (k + n) f fd ["found", "meant"] (spSo K n)
  | 0 => ⟨fun _ _ _ _ h => h.elim, fun _ _ _ _ _ _ _ _ _ _ _ _ _ h => h.elim⟩
  | n + 1 => by
    have G := ok_so (k := k) F bF gF ms ml mr m1 m2 m3 m4 n
    refine F.ok scSo (fun vs H Q E h => ?_) (fun cdv A outer s H vs Q E hr h => ?_)
    · obtain ⟨_, _, _, _, rfl, _⟩ := h
      rfl
    · obtain ⟨x, y, f, m, rfl, hx, hy, hf, q⟩ := h
      refine ⟨_, pss_cons (ps_if (pt_cmpR op_isN (pv 1) pe_non (nomark _)) (pss_one (ps_ret (pe_cmpR op_isN (pv 0) pe_non (nomark _)))) pss_nil)
        (pss_cons (ps_if (pt_val (pe_callB call_isi (by rfl) ms (by decide +kernel) (pa_cons (pv 1) (pa_cons (pe_bltn (v := .ty "tuple") (by rfl) m1 (by decide +kernel) rfl) pa_nil))))
          (pss_cons (ps_if (PW.pt (pw_or (pt_not (pt_val (pe_callB call_isi (by rfl) ms (by decide +kernel) (pa_cons (pv 0) (pa_cons (pe_bltn (v := .ty "tuple") (by rfl) m1 (by decide +kernel) rfl) pa_nil)))))
              (pw_or1 (pt_cmpR op_ne (pe_callB call_len_seq (by rfl) ml PySem.boot_len (pa_cons (pv 0) pa_nil)) (pe_callB call_len_seq (by rfl) ml PySem.boot_len (pa_cons (pv 1) pa_nil)) (nomark _)))))
            (pss_one (ps_ret pe_bl)) pss_nil)
          (pss_cons (ps_for PassesOwn.never rfl (pi_range1 rfl mr (pa_cons (pe_callB call_len_seq (by rfl) ml PySem.boot_len (pa_cons (pv 1) pa_nil)) pa_nil)) (pg_name (i := 2) scSo.nd rfl (.inl rfl))
            (pss_one (ps_if (pt_not (pt_val (pe_call G hr (by rfl) gF F.kp bF .nil pass0 (pa_cons (pe_ix ix_tup (pv 0) (pv 2) (fun _ _ => rfl)) (pa_cons (pe_ix ix_tup (pv 1) (pv 2) (fun _ _ => rfl)) pa_nil))))) (pss_one (ps_ret pe_bl)) pss_nil)))
          (pss_one (ps_ret pe_bl)))) pss_nil)
        (pss_cons (ps_if (PW.pt (pw_or (pt_val (pe_callB call_isi (by rfl) ms (by decide +kernel) (pa_cons (pv 1) (pa_cons (pe_bltn (v := .ty "bool") (by rfl) m2 (by decide +kernel) rfl) pa_nil))))
            (pw_or1 (pt_val (pe_callB call_isi (by rfl) ms (by decide +kernel) (pa_cons (pv 0) (pa_cons (pe_bltn (v := .ty "bool") (by rfl) m2 (by decide +kernel) rfl) pa_nil)))))))
          (pss_one (ps_ret (pe_and (pe_callB call_isi (by rfl) ms (by decide +kernel) (pa_cons (pv 1) (pa_cons (pe_bltn (v := .ty "bool") (by rfl) m2 (by decide +kernel) rfl) pa_nil)))
            (pe_and (pe_callB call_isi (by rfl) ms (by decide +kernel) (pa_cons (pv 0) (pa_cons (pe_bltn (v := .ty "bool") (by rfl) m2 (by decide +kernel) rfl) pa_nil))) (pe_one (pe_cmpR op_eq (pv 0) (pv 1) (nomark _))))))) pss_nil)
        (pss_cons (ps_if (pt_val (pe_callB call_isi (by rfl) ms (by decide +kernel) (pa_cons (pv 1) (pa_cons (pe_bltn (v := .ty "int") (by rfl) m3 (by decide +kernel) rfl) pa_nil))))
          (pss_one (ps_ret (pe_and (pe_callB call_isi (by rfl) ms (by decide +kernel) (pa_cons (pv 0) (pa_cons (pe_bltn (v := .ty "int") (by rfl) m3 (by decide +kernel) rfl) pa_nil))) (pe_one (pe_cmpR op_eq (pv 0) (pv 1) (nomark _)))))) pss_nil)
        (pss_one (ps_ret (pe_and (pe_callB call_isi (by rfl) ms (by decide +kernel) (pa_cons (pv 1) (pa_cons (pe_bltn (v := .ty "str") (by rfl) m4 (by decide +kernel) rfl) pa_nil)))
            (pe_and (pe_callB call_isi (by rfl) ms (by decide +kernel) (pa_cons (pv 0) (pa_cons (pe_bltn (v := .ty "str") (by rfl) m4 (by decide +kernel) rfl) pa_nil))) (pe_one (pe_cmpR op_eq (pv 0) (pv 1) (nomark _)))))))))), ?_⟩
      refine ⟨_, rfl, rfl, _, rfl, ?_⟩
      rw [dp_non hy]
      cases hy with
      | non =>
        refine iteT ⟨x, rfl, rfl, ?_⟩
        rw [dp_non hx]
        rw [so_none] at q
        exact q
      | bl b =>
        rw [so_bool] at q
        refine iteF (r_isi rfl (.bl b) (b := false) (by first | exact kb_tu _ | exact kb_bo _ | exact kb_in _ | exact kb_st _) (iteF (r_isi rfl (.bl b) (b := true) (by first | exact kb_tu _ | exact kb_bo _ | exact kb_in _ | exact kb_st _) (iteT (iteT ?_)))))
        refine v_isi rfl (.bl b) (b := true) (by first | exact kb_tu _ | exact kb_bo _ | exact kb_in _ | exact kb_st _) ⟨true, rfl, iteT ?_⟩
        cases hx with
        | bl c =>
          refine v_isi rfl (.bl c) (b := true) (by first | exact kb_tu _ | exact kb_bo _ | exact kb_in _ | exact kb_st _) ⟨true, rfl, iteT ⟨_, rfl, _, rfl, rfl, ?_⟩⟩
          rw [dec_bl]
          exact q
        | non => exact v_isi rfl (.non) (b := false) (by first | exact kb_tu _ | exact kb_bo _ | exact kb_in _ | exact kb_st _) ⟨false, rfl, iteF q⟩
        | int i => exact v_isi rfl (.int i) (b := false) (by first | exact kb_tu _ | exact kb_bo _ | exact kb_in _ | exact kb_st _) ⟨false, rfl, iteF q⟩
        | str s => exact v_isi rfl (.str s) (b := false) (by first | exact kb_tu _ | exact kb_bo _ | exact kb_in _ | exact kb_st _) ⟨false, rfl, iteF q⟩
        | lst h1 h2 => exact v_isi rfl (.lst h1 h2) (b := false) (by first | exact kb_tu _ | exact kb_bo _ | exact kb_in _ | exact kb_st _) ⟨false, rfl, iteF q⟩
        | tup h1 h2 => exact v_isi rfl (.tup h1 h2) (b := false) (by first | exact kb_tu _ | exact kb_bo _ | exact kb_in _ | exact kb_st _) ⟨false, rfl, iteF q⟩
      | int i =>
        rw [so_int] at q
        refine iteF (r_isi rfl (.int i) (b := false) (by first | exact kb_tu _ | exact kb_bo _ | exact kb_in _ | exact kb_st _) (iteF (r_isi rfl (.int i) (b := false) (by first | exact kb_tu _ | exact kb_bo _ | exact kb_in _ | exact kb_st _) (iteF ?_))))
        cases hx with
        | bl c => exact r_isi rfl (.bl c) (b := true) (by first | exact kb_tu _ | exact kb_bo _ | exact kb_in _ | exact kb_st _) (iteT (v_isi rfl (.int i) (b := false) (by first | exact kb_tu _ | exact kb_bo _ | exact kb_in _ | exact kb_st _) ⟨false, rfl, iteF q⟩))
        | int j =>
          refine r_isi rfl (.int j) (b := false) (by first | exact kb_tu _ | exact kb_bo _ | exact kb_in _ | exact kb_st _) (iteF (r_isi rfl (.int i) (b := true) (by first | exact kb_tu _ | exact kb_bo _ | exact kb_in _ | exact kb_st _) (iteT (v_isi rfl (.int j) (b := true) (by first | exact kb_tu _ | exact kb_bo _ | exact kb_in _ | exact kb_st _) ⟨true, rfl, iteT ⟨_, rfl, _, rfl, rfl, ?_⟩⟩))))
          rw [dec_int]
          exact q
        | non => exact r_isi rfl (.non) (b := false) (by first | exact kb_tu _ | exact kb_bo _ | exact kb_in _ | exact kb_st _) (iteF (r_isi rfl (.int i) (b := true) (by first | exact kb_tu _ | exact kb_bo _ | exact kb_in _ | exact kb_st _) (iteT (v_isi rfl (.non) (b := false) (by first | exact kb_tu _ | exact kb_bo _ | exact kb_in _ | exact kb_st _) ⟨false, rfl, iteF q⟩))))
        | str s => exact r_isi rfl (.str s) (b := false) (by first | exact kb_tu _ | exact kb_bo _ | exact kb_in _ | exact kb_st _) (iteF (r_isi rfl (.int i) (b := true) (by first | exact kb_tu _ | exact kb_bo _ | exact kb_in _ | exact kb_st _) (iteT (v_isi rfl (.str s) (b := false) (by first | exact kb_tu _ | exact kb_bo _ | exact kb_in _ | exact kb_st _) ⟨false, rfl, iteF q⟩))))
        | lst h1 h2 => exact r_isi rfl (.lst h1 h2) (b := false) (by first | exact kb_tu _ | exact kb_bo _ | exact kb_in _ | exact kb_st _) (iteF (r_isi rfl (.int i) (b := true) (by first | exact kb_tu _ | exact kb_bo _ | exact kb_in _ | exact kb_st _) (iteT (v_isi rfl (.lst h1 h2) (b := false) (by first | exact kb_tu _ | exact kb_bo _ | exact kb_in _ | exact kb_st _) ⟨false, rfl, iteF q⟩))))
        | tup h1 h2 => exact r_isi rfl (.tup h1 h2) (b := false) (by first | exact kb_tu _ | exact kb_bo _ | exact kb_in _ | exact kb_st _) (iteF (r_isi rfl (.int i) (b := true) (by first | exact kb_tu _ | exact kb_bo _ | exact kb_in _ | exact kb_st _) (iteT (v_isi rfl (.tup h1 h2) (b := false) (by first | exact kb_tu _ | exact kb_bo _ | exact kb_in _ | exact kb_st _) ⟨false, rfl, iteF q⟩))))
      | str z =>
        rw [so_str] at q
        refine iteF (r_isi rfl (.str z) (b := false) (by first | exact kb_tu _ | exact kb_bo _ | exact kb_in _ | exact kb_st _) (iteF (r_isi rfl (.str z) (b := false) (by first | exact kb_tu _ | exact kb_bo _ | exact kb_in _ | exact kb_st _) (iteF ?_))))
        cases hx with
        | bl c => exact r_isi rfl (.bl c) (b := true) (by first | exact kb_tu _ | exact kb_bo _ | exact kb_in _ | exact kb_st _) (iteT (v_isi rfl (.str z) (b := false) (by first | exact kb_tu _ | exact kb_bo _ | exact kb_in _ | exact kb_st _) ⟨false, rfl, iteF q⟩))
        | str j =>
          refine r_isi rfl (.str j) (b := false) (by first | exact kb_tu _ | exact kb_bo _ | exact kb_in _ | exact kb_st _) (iteF (r_isi rfl (.str z) (b := false) (by first | exact kb_tu _ | exact kb_bo _ | exact kb_in _ | exact kb_st _) (iteF (v_isi rfl (.str z) (b := true) (by first | exact kb_tu _ | exact kb_bo _ | exact kb_in _ | exact kb_st _) ⟨true, rfl, iteT (v_isi rfl (.str j) (b := true) (by first | exact kb_tu _ | exact kb_bo _ | exact kb_in _ | exact kb_st _) ⟨true, rfl, iteT ⟨_, rfl, _, rfl, rfl, ?_⟩⟩)⟩))))
          rw [show decide (V.str j = V.str z) = (j == z) by rw [dec_str]]
          exact q
        | non => exact r_isi rfl (.non) (b := false) (by first | exact kb_tu _ | exact kb_bo _ | exact kb_in _ | exact kb_st _) (iteF (r_isi rfl (.str z) (b := false) (by first | exact kb_tu _ | exact kb_bo _ | exact kb_in _ | exact kb_st _) (iteF (v_isi rfl (.str z) (b := true) (by first | exact kb_tu _ | exact kb_bo _ | exact kb_in _ | exact kb_st _) ⟨true, rfl, iteT (v_isi rfl (.non) (b := false) (by first | exact kb_tu _ | exact kb_bo _ | exact kb_in _ | exact kb_st _) ⟨false, rfl, iteF q⟩)⟩))))
        | int s => exact r_isi rfl (.int s) (b := false) (by first | exact kb_tu _ | exact kb_bo _ | exact kb_in _ | exact kb_st _) (iteF (r_isi rfl (.str z) (b := false) (by first | exact kb_tu _ | exact kb_bo _ | exact kb_in _ | exact kb_st _) (iteF (v_isi rfl (.str z) (b := true) (by first | exact kb_tu _ | exact kb_bo _ | exact kb_in _ | exact kb_st _) ⟨true, rfl, iteT (v_isi rfl (.int s) (b := false) (by first | exact kb_tu _ | exact kb_bo _ | exact kb_in _ | exact kb_st _) ⟨false, rfl, iteF q⟩)⟩))))
        | lst h1 h2 => exact r_isi rfl (.lst h1 h2) (b := false) (by first | exact kb_tu _ | exact kb_bo _ | exact kb_in _ | exact kb_st _) (iteF (r_isi rfl (.str z) (b := false) (by first | exact kb_tu _ | exact kb_bo _ | exact kb_in _ | exact kb_st _) (iteF (v_isi rfl (.str z) (b := true) (by first | exact kb_tu _ | exact kb_bo _ | exact kb_in _ | exact kb_st _) ⟨true, rfl, iteT (v_isi rfl (.lst h1 h2) (b := false) (by first | exact kb_tu _ | exact kb_bo _ | exact kb_in _ | exact kb_st _) ⟨false, rfl, iteF q⟩)⟩))))
        | tup h1 h2 => exact r_isi rfl (.tup h1 h2) (b := false) (by first | exact kb_tu _ | exact kb_bo _ | exact kb_in _ | exact kb_st _) (iteF (r_isi rfl (.str z) (b := false) (by first | exact kb_tu _ | exact kb_bo _ | exact kb_in _ | exact kb_st _) (iteF (v_isi rfl (.str z) (b := true) (by first | exact kb_tu _ | exact kb_bo _ | exact kb_in _ | exact kb_st _) ⟨true, rfl, iteT (v_isi rfl (.tup h1 h2) (b := false) (by first | exact kb_tu _ | exact kb_bo _ | exact kb_in _ | exact kb_st _) ⟨false, rfl, iteF q⟩)⟩))))
      | @lst la lx ld h1 h2 =>
        rw [so_list] at q
        refine iteF (r_isi rfl (.lst h1 h2) (b := false) (by first | exact kb_tu _ | exact kb_bo _ | exact kb_in _ | exact kb_st _) (iteF (r_isi rfl (.lst h1 h2) (b := false) (by first | exact kb_tu _ | exact kb_bo _ | exact kb_in _ | exact kb_st _) (iteF ?_))))
        have other : ∀ c, c = (match f with | .bool _ => true | _ => false) → kitB (tyName f) "bool" = some c := fun c e => by subst e; cases hx <;> exact kb_bo _
        refine r_isi rfl hx (other _ rfl) ?_
        cases hx with
        | bl c => exact iteT (v_isi rfl (.lst h1 h2) (b := false) (by first | exact kb_tu _ | exact kb_bo _ | exact kb_in _ | exact kb_st _) ⟨false, rfl, iteF q⟩)
        | non => exact iteF (r_isi rfl (.lst h1 h2) (b := false) (by first | exact kb_tu _ | exact kb_bo _ | exact kb_in _ | exact kb_st _) (iteF (v_isi rfl (.lst h1 h2) (b := false) (by first | exact kb_tu _ | exact kb_bo _ | exact kb_in _ | exact kb_st _) ⟨false, rfl, iteF q⟩)))
        | int s => exact iteF (r_isi rfl (.lst h1 h2) (b := false) (by first | exact kb_tu _ | exact kb_bo _ | exact kb_in _ | exact kb_st _) (iteF (v_isi rfl (.lst h1 h2) (b := false) (by first | exact kb_tu _ | exact kb_bo _ | exact kb_in _ | exact kb_st _) ⟨false, rfl, iteF q⟩)))
        | str s => exact iteF (r_isi rfl (.lst h1 h2) (b := false) (by first | exact kb_tu _ | exact kb_bo _ | exact kb_in _ | exact kb_st _) (iteF (v_isi rfl (.lst h1 h2) (b := false) (by first | exact kb_tu _ | exact kb_bo _ | exact kb_in _ | exact kb_st _) ⟨false, rfl, iteF q⟩)))
        | lst g1 g2 => exact iteF (r_isi rfl (.lst h1 h2) (b := false) (by first | exact kb_tu _ | exact kb_bo _ | exact kb_in _ | exact kb_st _) (iteF (v_isi rfl (.lst h1 h2) (b := false) (by first | exact kb_tu _ | exact kb_bo _ | exact kb_in _ | exact kb_st _) ⟨false, rfl, iteF q⟩)))
        | tup g1 g2 => exact iteF (r_isi rfl (.lst h1 h2) (b := false) (by first | exact kb_tu _ | exact kb_bo _ | exact kb_in _ | exact kb_st _) (iteF (v_isi rfl (.lst h1 h2) (b := false) (by first | exact kb_tu _ | exact kb_bo _ | exact kb_in _ | exact kb_st _) ⟨false, rfl, iteF q⟩)))
      | @tup ta tx td h1 h2 =>
        refine iteF (r_isi rfl (.tup h1 h2) (b := true) (by first | exact kb_tu _ | exact kb_bo _ | exact kb_in _ | exact kb_st _) (iteT ?_))
        cases n with
        | zero => exact hf.elim
        | succ n =>
          obtain ⟨hlen, hall⟩ := hf
          obtain ⟨l2, g2⟩ := dp_get h2
          cases hx with
          | bl c => exact r_isi rfl (.bl c) (b := false) (by first | exact kb_tu _ | exact kb_bo _ | exact kb_in _ | exact kb_st _) (iteT (iteT q))
          | non => exact r_isi rfl (.non) (b := false) (by first | exact kb_tu _ | exact kb_bo _ | exact kb_in _ | exact kb_st _) (iteT (iteT q))
          | int s => exact r_isi rfl (.int s) (b := false) (by first | exact kb_tu _ | exact kb_bo _ | exact kb_in _ | exact kb_st _) (iteT (iteT q))
          | str s => exact r_isi rfl (.str s) (b := false) (by first | exact kb_tu _ | exact kb_bo _ | exact kb_in _ | exact kb_st _) (iteT (iteT q))
          | lst g1 g2 => exact r_isi rfl (.lst g1 g2) (b := false) (by first | exact kb_tu _ | exact kb_bo _ | exact kb_in _ | exact kb_st _) (iteT (iteT q))
          | @tup fa fx fd' k1 k2 =>
            obtain ⟨l1, g1⟩ := dp_get k2
            refine r_isi rfl (.tup k1 k2) (b := true) (by first | exact kb_tu _ | exact kb_bo _ | exact kb_in _ | exact kb_st _) (iteF ⟨_, rfl, fa, fx, rfl, .inr k1, _, rfl, ta, tx, rfl, .inr h1, rfl, _, rfl, ?_⟩)
            have en : (!decide (V.int (fx.length : Int) = V.int (tx.length : Int))) = !(fd'.length == td.length) := by
              rw [dec_int, l1, l2]
              congr 1
              rw [Bool.eq_iff_iff, beq_iff_eq, beq_iff_eq]
              omega
            rw [en]
            change Q (.bl (fd'.length == td.length && (List.range td.length).all (fun i => so n (fd'.getD i .none) (td.getD i .none)))) H at q
            by_cases el : fd'.length = td.length
            · have e1 : (fd'.length == td.length) = true := beq_iff_eq.mpr el
              rw [e1] at q ⊢
              refine iteF ⟨_, rfl, ta, tx, rfl, .inr h1, _, rfl, by rw [l2]; omega, by rw [l2]; omega, ?_⟩
              have et : ((tx.length : Int)).toNat = td.length := by rw [l2]; exact Int.toNat_natCast _
              rw [et]
              refine for_range (lo := 0) (n := td.length) (fun i σ H' => H' = H ∧ (∃ c, σ = [some (.ref fa), some (.ref ta), c]) ∧ ∀ j, j < i → so n (fd'.getD j .none) (td.getD j .none) = true)
                ⟨rfl, ⟨none, rfl⟩, fun j hj => absurd hj (Nat.not_lt_zero j)⟩ ?_ ?_
              · rintro i σ H' hi ⟨rfl, ⟨c, rfl⟩, ih⟩
                have e0 : (0 : Int) + (i : Int) = (i : Int) := Int.zero_add _
                rw [e0]
                obtain ⟨vf, a1, a2⟩ := g1 i fd'[i] (List.getElem?_eq_getElem (by omega))
                obtain ⟨vm, b1, b2⟩ := g2 i td[i] (List.getElem?_eq_getElem hi)
                have z1 : fd'.getD i .none = fd'[i] := by rw [List.getD_eq_getElem?_getD, List.getElem?_eq_getElem (by omega)]; rfl
                have z2 : td.getD i .none = td[i] := by rw [List.getD_eq_getElem?_getD, List.getElem?_eq_getElem hi]; rfl
                refine ⟨_, rfl, _, rfl, fa, fx, _, vf, rfl, rfl, k1, atI_nat a1, _, rfl, _, rfl, ta, tx, _, vm, rfl, rfl, h1, atI_nat b1, vf, vm, fd'[i], td[i], rfl, a2, b2, hall _ (List.getElem_mem hi), _, rfl, ?_⟩
                rw [← z1, ← z2]
                cases eb : so n (fd'.getD i .none) (td.getD i .none) with
                | true =>
                  refine iteF ⟨rfl, ⟨_, rfl⟩, fun j hj => ?_⟩
                  by_cases ej : j = i
                  · subst ej; exact eb
                  · exact ih j (by omega)
                | false =>
                  refine iteT ?_
                  have ef : ((List.range td.length).all (fun i => so n (fd'.getD i .none) (td.getD i .none))) = false := by
                    rw [Bool.eq_false_iff]
                    intro z
                    have := List.all_eq_true.mp z i (List.mem_range.mpr hi)
                    rw [eb] at this
                    cases this
                  rw [ef] at q
                  exact q
              · rintro σ H' ⟨rfl, ⟨c, rfl⟩, ih⟩
                have ef : ((List.range td.length).all (fun i => so n (fd'.getD i .none) (td.getD i .none))) = true := List.all_eq_true.mpr fun j hj => ih j (List.mem_range.mp hj)
                rw [ef] at q
                exact q
            · have e1 : (fd'.length == td.length) = false := beq_false_of_ne el
              rw [e1] at q ⊢
              exact iteT q
end
end Cw

set_option Elab.async false
set_option linter.all false
set_option maxRecDepth 100000
set_option maxHeartbeats 4000000
namespace Cw
open PySem PySem.Spec PyProof.Rows L2
/-! ### a def, a constant as the top has written it -/
structure Hd (K : PySem.W.Frag) (mg : Str → Option Value) (x : Str) (st : Stmt) (ps : List Str) (f : Addr) (d : FuncData) : Prop where
  F : Fun K x x st f d
  b : Binds K d ps []
  g : mg x = some (.ref f)
structure Cst (K : PySem.W.Frag) (mg : Str → Option Value) (x : Str) (v : V) (u : Value) : Prop where
  g : mg x = some u
  r : RelV v u
/-! ### sizes -/
inductive Ok : PyData → Prop
  | non : Ok .none
  | bool (b : Bool) : Ok (.bool b)
  | int (i : Int) : Ok (.int i)
  | str (z : Str) (h : z.length ≤ 1000000) : Ok (.str z)
  | list (l : List PyData) (h : l.length ≤ 100000) (t : ∀ d, d ∈ l → Ok d) : Ok (.list l)
  | tuple (l : List PyData) (h : l.length ≤ 100000) (t : ∀ d, d ∈ l → Ok d) : Ok (.tuple l)
theorem ok_str {z : Str} (h : Ok (.str z)) : z.length ≤ sizeLine := by cases h with | str _ h => exact Nat.le_trans h (by decide)
/-- a test of one value -/
def sp1 (K : PySem.W.Frag) (r : PyData → Bool) : Sp := fun vs H Q _ => ∃ x d, vs = [x] ∧ Dp K H x d ∧ Ok d ∧ ∀ H', Same H H' → Q (.bl (r d)) H'
theorem sqt_keep {K : PySem.W.Frag} {H H' : Hp} {a : Addr} {xs : List V} (s : Same H H') (h : SqT K H a xs) : SqT K H' a xs := by
  rcases h with (h | ⟨o, h⟩) | h
  · exact .inl (.inl (s _ _ h))
  · exact .inl (.inr ⟨o, s _ _ h⟩)
  · exact .inr h
mutual
theorem dp_keep {K : PySem.W.Frag} {H H' : Hp} (s : Same H H') : ∀ {x : V} {d : PyData}, Dp K H x d → Dp K H' x d
  | _, _, .non => .non
  | _, _, .bl b => .bl b
  | _, _, .int i => .int i
  | _, _, .str z => .str z
  | _, _, .lst h t => .lst (s.seq h) (dps_keep s t)
  | _, _, .tup h t => .tup (sqt_keep s h) (dps_keep s t)
theorem dps_keep {K : PySem.W.Frag} {H H' : Hp} (s : Same H H') : ∀ {xs : List V} {ds : List PyData}, DpAll K H xs ds → DpAll K H' xs ds
  | _, _, .nil => .nil
  | _, _, .cons h t => .cons (dp_keep s h) (dps_keep s t)
end
/-! ### letters -/
def lowC (c : Nat) : Bool := decide (97 ≤ c ∧ c ≤ 122)
def upC (c : Nat) : Bool := decide (65 ≤ c ∧ c ≤ 90)
theorem low_mem (c : Nat) : decide (c ∈ (PySem.Str.ofString "abcdefghijklmnopqrstuvwxyz").cps.toList) = lowC c := by
  have e : (PySem.Str.ofString "abcdefghijklmnopqrstuvwxyz").cps.toList = [97, 98, 99, 100, 101, 102, 103, 104, 105, 106, 107, 108, 109, 110, 111, 112, 113, 114, 115, 116, 117, 118, 119, 120, 121, 122] := by decide +kernel
  rw [e]
  unfold lowC
  rw [Bool.eq_iff_iff, decide_eq_true_iff, decide_eq_true_iff]
  simp only [List.mem_cons, List.not_mem_nil, or_false]
  omega
theorem up_mem (c : Nat) : decide (c ∈ (PySem.Str.ofString "ABCDEFGHIJKLMNOPQRSTUVWXYZ").cps.toList) = upC c := by
  have e : (PySem.Str.ofString "ABCDEFGHIJKLMNOPQRSTUVWXYZ").cps.toList = [65, 66, 67, 68, 69, 70, 71, 72, 73, 74, 75, 76, 77, 78, 79, 80, 81, 82, 83, 84, 85, 86, 87, 88, 89, 90] := by decide +kernel
  rw [e]
  unfold upC
  rw [Bool.eq_iff_iff, decide_eq_true_iff, decide_eq_true_iff]
  simp only [List.mem_cons, List.not_mem_nil, or_false]
  omega
/-! ### integers, sequences, names -/
def isInteger (lo hi : Int) : PyData → Bool
  | .int i => decide (lo ≤ i) && decide (i ≤ hi)
  | _ => false
def isSeq (lo hi : Int) : PyData → Bool
  | .list l => decide (lo ≤ (l.length : Int)) && decide ((l.length : Int) ≤ hi)
  | .tuple l => decide (lo ≤ (l.length : Int)) && decide ((l.length : Int) ≤ hi)
  | _ => false
def areLower (z : Str) : Bool := z.cps.toList.all lowC
def reserved : List Str := ["module", "uses", "open", "sealed", "abstract", "class", "extends", "generic", "by", "gives", "method", "new", "next", "if", "then", "else", "let", "in"]
def isNameS (z : Str) : Bool := decide (1 ≤ z.length) && decide (z.length ≤ 12) && areLower z && !reserved.contains z
def isName : PyData → Bool
  | .str z => isNameS z
  | _ => false
def isWordS (z : Str) : Bool := decide (1 ≤ z.length) && decide (z.length ≤ 12) && (match z.cps.toList with | c :: r => upC c && r.all lowC | [] => false)
def isWord : PyData → Bool
  | .str z => isWordS z
  | _ => false
end Cw

set_option Elab.async false
set_option linter.all false
set_option maxRecDepth 100000
set_option maxHeartbeats 4000000
namespace Cw
open PySem PySem.Spec PyProof.Rows L2
def isSq : PyData → Bool | .list _ => true | .tuple _ => true | _ => false
theorem kb_sq {K : PySem.W.Frag} (d : PyData) : PySem.W.kitAny K (.type (tyName d)) [.type "list", .type "tuple"] = some (isSq d) := by
  have hl : ∀ t, kitB t "list" = some (t == "list") → kitB t "tuple" = some (t == "tuple") → PySem.W.kitAny K (.type t) [.type "list", .type "tuple"] = some (t == "list" || t == "tuple") := fun t h1 h2 =>
    kitAny_cons (kit_ty h1) (fun e => kitAny_cons (kit_ty h2) (fun e2 => by rw [e, e2]; exact kitAny_nil) (fun e2 => by rw [e2, Bool.or_true])) (fun e => by rw [e, Bool.true_or])
  match d with
  | .none => exact hl "NoneType" (by decide +kernel) (by decide +kernel)
  | .bool _ => exact hl "bool" (by decide +kernel) (by decide +kernel)
  | .int _ => exact hl "int" (by decide +kernel) (by decide +kernel)
  | .str _ => exact hl "str" (by decide +kernel) (by decide +kernel)
  | .list _ => exact hl "list" (by decide +kernel) (by decide +kernel)
  | .tuple _ => exact hl "tuple" (by decide +kernel) (by decide +kernel)
  | .dict _ => exact hl "dict" (by decide +kernel) (by decide +kernel)
theorem isNameS_long {z : Str} (h : ¬ z.length ≤ 12) : isNameS z = false := by
  unfold isNameS
  rw [decide_eq_false h, Bool.and_false, Bool.false_and, Bool.false_and]
theorem isNameS_short {z : Str} (h : ¬ 1 ≤ z.length) : isNameS z = false := by
  unfold isNameS
  rw [decide_eq_false h, Bool.false_and, Bool.false_and, Bool.false_and]
theorem isNameS_low {z : Str} (h : areLower z = false) : isNameS z = false := by
  unfold isNameS
  rw [h, Bool.and_false, Bool.false_and]
theorem isNameS_in {z : Str} (h1 : 1 ≤ z.length) (h2 : z.length ≤ 12) (h3 : areLower z = true) : isNameS z = !reserved.contains z := by
  unfold isNameS
  rw [decide_eq_true h1, decide_eq_true h2, h3, Bool.true_and, Bool.true_and, Bool.true_and]
theorem isWordS_long {z : Str} (h : ¬ z.length ≤ 12) : isWordS z = false := by
  unfold isWordS
  rw [decide_eq_false h, Bool.and_false, Bool.false_and]
theorem isWordS_short {z : Str} (h : ¬ 1 ≤ z.length) : isWordS z = false := by
  unfold isWordS
  rw [decide_eq_false h, Bool.false_and, Bool.false_and]
theorem isWordS_in {z : Str} {c : Nat} {r : List Nat} (h1 : 1 ≤ z.length) (h2 : z.length ≤ 12) (e : z.cps.toList = c :: r) : isWordS z = (upC c && r.all lowC) := by
  unfold isWordS
  rw [decide_eq_true h1, decide_eq_true h2, e, Bool.true_and, Bool.true_and]
theorem cut_tail {z : Str} {c : Nat} {r : List Nat} (e : z.cps.toList = c :: r) : (cutS z (some 1) none).cps.toList = r := by
  have hl : z.length = r.length + 1 := by
    show z.cps.size = _
    rw [← Array.length_toList, e]
    rfl
  show ((z.cps.toList.drop (HT.sIx z.length 0 (some 1))).take (HT.sIx z.length z.length none - HT.sIx z.length 0 (some 1))).toArray.toList = r
  rw [show HT.sIx z.length 0 (some 1) = min 1 z.length from HT.sIx_nat z.length 0 1, HT.sIx_none, e, hl, List.toList_toArray, show min 1 (r.length + 1) = 1 by omega]
  show (r.take (r.length + 1 - 1)) = r
  rw [Nat.add_sub_cancel, List.take_length]
def isCname : PyData → Bool
  | .str z => isName (.str (Txt.partition z ".").1) && isWord (.str (Txt.partition z ".").2.2)
  | _ => false
def isGname : PyData → Bool
  | .str z => isName (.str (Txt.partition z ".").1) && isName (.str (Txt.partition z ".").2.2)
  | _ => false
theorem part_len (z : Str) : (Txt.partition z ".").1.length ≤ z.length ∧ (Txt.partition z ".").2.2.length ≤ z.length := by
  rcases PyProof.Rows.partition_whole z "." with ⟨e, _⟩ | ⟨i, e, hi, _⟩
  · rw [e]
    exact ⟨Nat.le_refl _, Nat.zero_le _⟩
  · rw [e]
    constructor
    · show (z.cps.extract 0 i).size ≤ z.cps.size
      rw [Array.size_extract]
      omega
    · show (z.cps.extract _ _).size ≤ z.cps.size
      rw [Array.size_extract]
      show min z.cps.size z.cps.size - _ ≤ z.cps.size
      omega
theorem reserved_flat : (reserved.map V.str).all flatV = true := by decide
theorem reserved_in {z : Str} : (if true = true then !inV (.str z) (reserved.map V.str) else inV (.str z) (reserved.map V.str)) = !reserved.contains z := by
  rw [if_pos rfl]
  congr 1
  unfold inV
  rw [List.any_map, List.contains_eq_any_beq]
  congr 1
  funext y
  show (y == z) = (z == y)
  rw [Bool.eq_iff_iff, beq_iff_eq, beq_iff_eq]
  exact ⟨Eq.symm, Eq.symm⟩
theorem low_cont : (PySem.Str.ofString "abcdefghijklmnopqrstuvwxyz").cps.contains = lowC := by
  funext c
  rw [← low_mem c, Array.contains_eq_mem]
  simp
theorem strip_nil (g : Nat → Bool) (z : Str) : (PySem.W.stripped g true true z).cps.toList = [] ↔ z.cps.toList.all g = true := by
  unfold PySem.W.stripped
  simp only [if_true, Builtin.Str.strSub, Str.length, Array.toList_extract, List.extract_eq_drop_take]
  obtain ⟨⟨l⟩⟩ := z
  simp only [List.size_toArray]
  have key : ∀ l : List Nat, l.all g = true ∨ ∃ a c r, l = a ++ c :: r ∧ a.all g = true ∧ g c = false := by
    intro l
    induction l with
    | nil => exact .inl rfl
    | cons x l ih =>
      by_cases hx : g x = true
      · rcases ih with h | ⟨a, c, r, e, h1, h2⟩
        · exact .inl (by rw [List.all_cons, hx, h]; rfl)
        · exact .inr ⟨x :: a, c, r, by rw [e]; rfl, by rw [List.all_cons, hx, h1]; rfl, h2⟩
      · exact .inr ⟨[], x, l, rfl, rfl, by simpa using hx⟩
  have tw : ∀ (a b : List Nat), a.all g = true → (a ++ b).takeWhile g = a ++ b.takeWhile g := by
    intro a
    induction a with
    | nil => intro b _; rfl
    | cons x a ih =>
      intro b h
      rw [List.all_cons, Bool.and_eq_true] at h
      rw [List.cons_append, List.takeWhile_cons, if_pos h.1, ih b h.2]
      rfl
  have tl : ∀ (a : List Nat) (c : Nat) (b : List Nat), g c = false → ((a ++ c :: b).takeWhile g).length ≤ a.length := by
    intro a
    induction a with
    | nil => intro c b h; rw [List.nil_append, List.takeWhile_cons, h]; exact Nat.le_refl _
    | cons x a ih =>
      intro c b h
      rw [List.cons_append, List.takeWhile_cons]
      cases g x with
      | true => exact Nat.succ_le_succ (ih c b h)
      | false => exact Nat.zero_le _
  rcases key l with h | ⟨a, c, r, e, h1, h2⟩
  · have e1 := tw l [] h
    rw [List.append_nil, List.takeWhile_nil, List.append_nil] at e1
    rw [e1, h]
    simp
  · subst e
    rw [tw a (c :: r) h1, List.takeWhile_cons, h2]
    have hf : ¬ ((a ++ c :: r).all g = true) := by
      rw [List.all_append, List.all_cons, h2]
      simp
    constructor
    · intro e
      exfalso
      have e2 := congrArg List.length e
      have e3 := tl r.reverse c [] h2
      rw [List.length_reverse] at e3
      simp only [Bool.false_eq_true, if_false, List.append_nil, List.drop_left, List.reverse_cons] at e2
      simp only [List.length_take, List.length_drop, List.length_append, List.length_cons, List.length_nil] at e2
      have e4 : (List.takeWhile g (r.reverse ++ [c])).length ≤ r.length := e3
      generalize (List.takeWhile g (r.reverse ++ [c])).length = m at e2 e4
      clear e3 e
      rw [Nat.min_def] at e2
      split at e2 <;> omega
    · exact fun e => absurd e hf
theorem strip_low (z : Str) : decide (V.str (Txt.stripChars z "abcdefghijklmnopqrstuvwxyz") = V.str "") = areLower z := by
  have e := strip_nil (PySem.Str.ofString "abcdefghijklmnopqrstuvwxyz").cps.contains z
  have e0 : Txt.stripChars z "abcdefghijklmnopqrstuvwxyz" = PySem.W.stripped (PySem.Str.ofString "abcdefghijklmnopqrstuvwxyz").cps.contains true true z := PySem.W.stripBy_eq (x := z) _ _ _
  unfold areLower
  rw [e0, Bool.eq_iff_iff, decide_eq_true_iff]
  rw [low_cont] at e ⊢
  rw [← e]
  constructor
  · intro h
    rw [show PySem.W.stripped lowC true true z = ("" : Str) from V.str.inj h]
    rfl
  · intro h
    refine congrArg V.str ?_
    revert h
    generalize PySem.W.stripped lowC true true z = y
    obtain ⟨⟨l⟩⟩ := y
    intro h
    have h : l = [] := h
    rw [h]
    rfl
def spInteger (K : PySem.W.Frag) : Sp := fun vs H Q _ => ∃ x d lo hi, vs = [x, .int lo, .int hi] ∧ Dp K H x d ∧ ∀ H', Same H H' → Q (.bl (isInteger lo hi d)) H'
def spSeq (K : PySem.W.Frag) : Sp := fun vs H Q _ => ∃ x d lo hi, vs = [x, .int lo, .int hi] ∧ Dp K H x d ∧ ∀ H', Same H H' → Q (.bl (isSeq lo hi d)) H'
def spLower : Sp := fun vs H Q _ => ∃ z : Str, vs = [.str z] ∧ z.length ≤ sizeLine ∧ ∀ H', Same H H' → Q (.bl (areLower z)) H'
section
variable {P : Program} {w : World} {K : PySem.W.Frag} {mg : Str → Option Value} {base : Heap}
abbrev s_is_integer : Stmt := topS 25
theorem sc_is_integer : FnScope ["value", "least", "most"] ["value", "least", "most"] (defScope s_is_integer) := ⟨rfl, rfl, rfl, by decide +kernel, rfl, by decide +kernel, by decide +kernel⟩
theorem ok_is_integer {f : Addr} {fd : FuncData} (F : Fun K "is_integer" "is_integer" s_is_integer f fd) (m_isinstance : mg "isinstance" = none) (m_int : mg "int" = none) (m_bool : mg "bool" = none) : FnOk P w K mg base CX0 1 f fd ["value", "least", "most"] (spInteger K) := by
  refine F.ok sc_is_integer (fun vs H Q E h => ?_) (fun cdv A outer s H vs Q E hr h => ?_)
  · obtain ⟨_, _, _, _, rfl, _⟩ := h
    rfl
  · obtain ⟨x, d, lo, hi, rfl, hx, q⟩ := h
    refine ⟨_, (pss_one (ps_ret (pe_and (pe_callB call_isi (by rfl) m_isinstance (by decide +kernel) (pa_cons (pv 0) (pa_cons (pe_bltn (v := .ty "int") (by rfl) m_int (by decide +kernel) rfl) pa_nil))) (pe_and (pe_not (pe_callB call_isi (by rfl) m_isinstance (by decide +kernel) (pa_cons (pv 0) (pa_cons (pe_bltn (v := .ty "bool") (by rfl) m_bool (by decide +kernel) rfl) pa_nil)))) (pe_one (pe_chain op_le op_le (pv 1) (pv 0) (pv 2))))))), ?_⟩
    refine v_isi rfl hx (kb_in d) ⟨_, rfl, ?_⟩
    cases hx with
    | int i => exact iteT (v_isi rfl (.int i) (b := false) (kb_bo _) ⟨false, rfl, true, rfl, iteT ⟨_, rfl, _, rfl, lo, i, rfl, rfl, _, rfl, ite2 (fun e => ⟨_, rfl, i, hi, rfl, rfl, by
        have z := q H (Same.refl H)
        rw [show isInteger lo hi (.int i) = (decide (lo ≤ i) && decide (i ≤ hi)) from rfl, e, Bool.true_and] at z
        exact z⟩) (fun e => by
        have z := q H (Same.refl H)
        rw [show isInteger lo hi (.int i) = (decide (lo ≤ i) && decide (i ≤ hi)) from rfl, Bool.eq_false_iff.mpr e, Bool.false_and] at z
        exact z)⟩⟩)
    | bl b => exact iteT (v_isi rfl (.bl b) (b := true) (kb_bo _) ⟨true, rfl, false, rfl, iteF (q H (Same.refl H))⟩)
    | non => exact iteF (q H (Same.refl H))
    | str z => exact iteF (q H (Same.refl H))
    | lst h1 h2 => exact iteF (q H (Same.refl H))
    | tup h1 h2 => exact iteF (q H (Same.refl H))
abbrev s_is_sequence : Stmt := topS 26
theorem sc_is_sequence : FnScope ["value", "least", "most"] ["value", "least", "most"] (defScope s_is_sequence) := ⟨rfl, rfl, rfl, by decide +kernel, rfl, by decide +kernel, by decide +kernel⟩
theorem ok_is_sequence {f : Addr} {fd : FuncData} (F : Fun K "is_sequence" "is_sequence" s_is_sequence f fd) (m_isinstance : mg "isinstance" = none) (m_list : mg "list" = none) (m_tuple : mg "tuple" = none) (m_len : mg "len" = none) : FnOk P w K mg base CX0 1 f fd ["value", "least", "most"] (spSeq K) := by
  refine F.ok sc_is_sequence (fun vs H Q E h => ?_) (fun cdv A outer s H vs Q E hr h => ?_)
  · obtain ⟨_, _, _, _, rfl, _⟩ := h
    rfl
  · obtain ⟨x, d, lo, hi, rfl, hx, q⟩ := h
    refine ⟨_, (pss_one (ps_ret (pe_and (pe_callB call_isiT (by rfl) m_isinstance (by decide +kernel) (pa_cons (pv 0) (pa_cons (pe_tup (pa_cons (pe_bltn (v := .ty "list") (by rfl) m_list (by decide +kernel) rfl) (pa_cons (pe_bltn (v := .ty "tuple") (by rfl) m_tuple (by decide +kernel) rfl) pa_nil))) pa_nil))) (pe_one (pe_chain op_le op_le (pv 1) (pe_callB call_len_seq (by rfl) m_len PySem.boot_len (pa_cons (pv 0) pa_nil)) (pv 2)))))), ?_⟩
    refine ⟨x, rfl, by show 2 ≤ sizeLine; decide, fun tp ntp => ?_⟩
    have s1 := same_upd (o := .tup [.ty "list", .ty "tuple"]) ntp
    have hx1 := dp_keep s1 hx
    refine ⟨x, tp, [.ty "list", .ty "tuple"], _, [.type "list", .type "tuple"], isSq d, rfl, upd_same, .cons (.ty _) (.cons (.ty _) .nil), ty_dp hx1, kb_sq d, _, rfl, ?_⟩
    cases hx1 with
    | @lst la lx ld h1 h2 =>
      have el := (dp_get h2).1
      refine iteT ⟨_, rfl, .ref la, rfl, la, lx, rfl, .inl h1, lo, _, rfl, rfl, _, rfl, ite2 (fun e => ⟨_, rfl, _, hi, rfl, rfl, ?_⟩) (fun e => ?_)⟩
      · have z := q _ s1
        rw [show isSeq lo hi (.list ld) = (decide (lo ≤ (ld.length : Int)) && decide ((ld.length : Int) ≤ hi)) from rfl, ← el, e, Bool.true_and] at z
        exact z
      · have z := q _ s1
        rw [show isSeq lo hi (.list ld) = (decide (lo ≤ (ld.length : Int)) && decide ((ld.length : Int) ≤ hi)) from rfl, ← el, Bool.eq_false_iff.mpr e, Bool.false_and] at z
        exact z
    | @tup la lx ld h1 h2 =>
      have el := (dp_get h2).1
      refine iteT ⟨_, rfl, .ref la, rfl, la, lx, rfl, .inr h1, lo, _, rfl, rfl, _, rfl, ite2 (fun e => ⟨_, rfl, _, hi, rfl, rfl, ?_⟩) (fun e => ?_)⟩
      · have z := q _ s1
        rw [show isSeq lo hi (.tuple ld) = (decide (lo ≤ (ld.length : Int)) && decide ((ld.length : Int) ≤ hi)) from rfl, ← el, e, Bool.true_and] at z
        exact z
      · have z := q _ s1
        rw [show isSeq lo hi (.tuple ld) = (decide (lo ≤ (ld.length : Int)) && decide ((ld.length : Int) ≤ hi)) from rfl, ← el, Bool.eq_false_iff.mpr e, Bool.false_and] at z
        exact z
    | bl b => exact iteF (q _ s1)
    | non => exact iteF (q _ s1)
    | str z => exact iteF (q _ s1)
    | int z => exact iteF (q _ s1)
abbrev s_are_lower : Stmt := topS 27
theorem sc_are_lower : FnScope ["text"] ["text"] (defScope s_are_lower) := ⟨rfl, rfl, rfl, by decide +kernel, rfl, by decide +kernel, by decide +kernel⟩
theorem ok_are_lower {f : Addr} {fd : FuncData} (F : Fun K "are_lower" "are_lower" s_are_lower f fd) {u_LOWER : Value} (h_LOWER : Cst K mg "LOWER" (.str "abcdefghijklmnopqrstuvwxyz") u_LOWER) : FnOk P w K mg base CX0 1 f fd ["text"] (spLower) := by
  refine F.ok sc_are_lower (fun vs H Q E h => ?_) (fun cdv A outer s H vs Q E hr h => ?_)
  · obtain ⟨_, rfl, _⟩ := h
    rfl
  · obtain ⟨z, rfl, hz, q⟩ := h
    refine ⟨_, (pss_one (ps_ret (pe_cmpR op_eq (pe_bm PySem.F.plainAttrs_str PySem.F.slot_str_strip PySem.F.type_str_strip mt_stripChars (pv 0) (pa_cons (pe_glob (v := .str "abcdefghijklmnopqrstuvwxyz") rfl h_LOWER.g h_LOWER.r) pa_nil)) pe_str (nomark _)))), ?_⟩
    refine ⟨.str z, rfl, rfl, z, _, rfl, rfl, hz, rfl, ?_⟩
    have e := q H (Same.refl H)
    rw [← strip_low] at e
    exact e
abbrev s_is_name : Stmt := topS 28
theorem sc_is_name : FnScope ["value"] ["value"] (defScope s_is_name) := ⟨rfl, rfl, rfl, by decide +kernel, rfl, by decide +kernel, by decide +kernel⟩
theorem ok_is_name {f : Addr} {fd : FuncData} (F : Fun K "is_name" "is_name" s_is_name f fd) {f_are_lower : Addr} {d_are_lower : FuncData} (h_are_lower : Hd K mg "are_lower" s_are_lower ["text"] f_are_lower d_are_lower) (G_are_lower : FnOk P w K mg base CX0 1 f_are_lower d_are_lower ["text"] (spLower)) {u_MOST_LETTERS : Value} (h_MOST_LETTERS : Cst K mg "MOST_LETTERS" (.int 12) u_MOST_LETTERS) {a_RESERVED : Addr} {u_RESERVED : Value} (h_RESERVED : Cst K mg "RESERVED" (.ref a_RESERVED) u_RESERVED) (t_RESERVED : ∀ H : Hp, SqT K H a_RESERVED (reserved.map V.str)) (m_isinstance : mg "isinstance" = none) (m_str : mg "str" = none) (m_len : mg "len" = none) : FnOk P w K mg base CX0 2 f fd ["value"] (sp1 K isName) := by
  refine F.ok sc_is_name (fun vs H Q E h => ?_) (fun cdv A outer s H vs Q E hr h => ?_)
  · obtain ⟨_, _, rfl, _⟩ := h
    rfl
  · obtain ⟨x, d, rfl, hx, hok, q⟩ := h
    refine ⟨_, (pss_cons (ps_if (PW.pt (pw_or (pt_not (pt_val (pe_callB call_isi (by rfl) m_isinstance (by decide +kernel) (pa_cons (pv 0) (pa_cons (pe_bltn (v := .ty "str") (by rfl) m_str (by decide +kernel) rfl) pa_nil))))) (pw_or1 (pt_not (pt_chain op_le op_le pe_int (pe_callB call_len_str (by rfl) m_len PySem.boot_len (pa_cons (pv 0) pa_nil)) (pe_glob (v := .int 12) rfl h_MOST_LETTERS.g h_MOST_LETTERS.r)))))) (pss_one (ps_ret pe_bl)) pss_nil)
  (pss_one (ps_ret (pe_and (pe_call G_are_lower (hr.mono (by decide)) (by rfl) h_are_lower.g h_are_lower.F.kp h_are_lower.b .nil pass0 (pa_cons (pv 0) pa_nil)) (pe_one (pe_cmpR op_notIn_seq (pv 0) (pe_glob (v := .ref a_RESERVED) rfl h_RESERVED.g h_RESERVED.r) (by rfl))))))), ?_⟩
    refine r_isi rfl hx (kb_st d) ?_
    cases hx with
    | str z =>
      have hz := ok_str hok
      have qq : ∀ H', Same H H' → Q (.bl (isNameS z)) H' := q
      refine iteF ⟨.str z, rfl, z, rfl, hz, 1, (z.length : Int), rfl, rfl, _, rfl, ite2 (fun e1 => ⟨(z.length : Int), 12, rfl, rfl, _, rfl, ite2 (fun e2 => ?_) (fun e2 => ?_)⟩) (fun e1 => ⟨false, rfl, iteT ?_⟩)⟩
      · refine qq H (Same.refl H) |> fun z0 => ?_
        have f2 : ¬ z.length ≤ 12 := fun g => by
          have : decide ((z.length : Int) ≤ 12) = true := decide_eq_true (by omega)
          rw [this] at e2
          cases e2
        rw [isNameS_long f2] at z0
        exact z0
      · have g2 : (z.length : Int) ≤ 12 := by
          have : ¬ decide ((z.length : Int) ≤ 12) = false := fun g => e2 (by rw [g]; rfl)
          exact of_decide_eq_true (by simpa using this)
        have g1 : (1 : Int) ≤ (z.length : Int) := of_decide_eq_true e1
        refine ⟨.str z, rfl, z, rfl, hz, fun H1 s1 => ⟨_, rfl, ite2 (fun e3 => ?_) (fun e3 => ?_)⟩⟩
        · refine ⟨.str z, rfl, a_RESERVED, _, rfl, .inr (t_RESERVED H1), rfl, reserved_flat, ?_⟩
          have z0 := qq H1 s1
          rw [isNameS_in (by omega) (by omega) e3] at z0
          rw [reserved_in]
          exact z0
        · have z0 := qq H1 s1
          rw [isNameS_low (Bool.eq_false_iff.mpr e3)] at z0
          exact z0
      · have z0 := qq H (Same.refl H)
        have f1 : ¬ 1 ≤ z.length := fun g => e1 (decide_eq_true (by omega))
        rw [isNameS_short f1] at z0
        exact z0
    | bl b => exact iteT (iteT (q H (Same.refl H)))
    | non => exact iteT (iteT (q H (Same.refl H)))
    | int z => exact iteT (iteT (q H (Same.refl H)))
    | lst h1 h2 => exact iteT (iteT (q H (Same.refl H)))
    | tup h1 h2 => exact iteT (iteT (q H (Same.refl H)))
abbrev s_is_class_word : Stmt := topS 29
theorem sc_is_class_word : FnScope ["value"] ["value"] (defScope s_is_class_word) := ⟨rfl, rfl, rfl, by decide +kernel, rfl, by decide +kernel, by decide +kernel⟩
theorem ok_is_class_word {f : Addr} {fd : FuncData} (F : Fun K "is_class_word" "is_class_word" s_is_class_word f fd) {f_are_lower : Addr} {d_are_lower : FuncData} (h_are_lower : Hd K mg "are_lower" s_are_lower ["text"] f_are_lower d_are_lower) (G_are_lower : FnOk P w K mg base CX0 1 f_are_lower d_are_lower ["text"] (spLower)) {u_MOST_LETTERS : Value} (h_MOST_LETTERS : Cst K mg "MOST_LETTERS" (.int 12) u_MOST_LETTERS) {u_UPPER : Value} (h_UPPER : Cst K mg "UPPER" (.str "ABCDEFGHIJKLMNOPQRSTUVWXYZ") u_UPPER) (m_isinstance : mg "isinstance" = none) (m_str : mg "str" = none) (m_len : mg "len" = none) : FnOk P w K mg base CX0 2 f fd ["value"] (sp1 K isWord) := by
  refine F.ok sc_is_class_word (fun vs H Q E h => ?_) (fun cdv A outer s H vs Q E hr h => ?_)
  · obtain ⟨_, _, rfl, _⟩ := h
    rfl
  · obtain ⟨x, d, rfl, hx, hok, q⟩ := h
    refine ⟨_, (pss_cons (ps_if (PW.pt (pw_or (pt_not (pt_val (pe_callB call_isi (by rfl) m_isinstance (by decide +kernel) (pa_cons (pv 0) (pa_cons (pe_bltn (v := .ty "str") (by rfl) m_str (by decide +kernel) rfl) pa_nil))))) (pw_or1 (pt_not (pt_chain op_le op_le pe_int (pe_callB call_len_str (by rfl) m_len PySem.boot_len (pa_cons (pv 0) pa_nil)) (pe_glob (v := .int 12) rfl h_MOST_LETTERS.g h_MOST_LETTERS.r)))))) (pss_one (ps_ret pe_bl)) pss_nil)
  (pss_one (ps_ret (pe_and (pe_cmpR op_in_sign (pe_ix ix_str (pv 0) pe_int (fun _ _ => rfl)) (pe_glob (v := .str "ABCDEFGHIJKLMNOPQRSTUVWXYZ") rfl h_UPPER.g h_UPPER.r) (by rfl)) (pe_one (pe_call G_are_lower (hr.mono (by decide)) (by rfl) h_are_lower.g h_are_lower.F.kp h_are_lower.b .nil pass0 (pa_cons (pe_slice sl_str (pv 0) (po_some pe_int) po_none) pa_nil))))))), ?_⟩
    refine r_isi rfl hx (kb_st d) ?_
    cases hx with
    | str z =>
      have hz := ok_str hok
      have qq : ∀ H', Same H H' → Q (.bl (isWordS z)) H' := q
      refine iteF ⟨.str z, rfl, z, rfl, hz, 1, (z.length : Int), rfl, rfl, _, rfl, ite2 (fun e1 => ⟨(z.length : Int), 12, rfl, rfl, _, rfl, ite2 (fun e2 => ?_) (fun e2 => ?_)⟩) (fun e1 => ⟨false, rfl, iteT ?_⟩)⟩
      · have z0 := qq H (Same.refl H)
        have f2 : ¬ z.length ≤ 12 := fun g => by
          have : decide ((z.length : Int) ≤ 12) = true := decide_eq_true (by omega)
          rw [this] at e2
          cases e2
        rw [isWordS_long f2] at z0
        exact z0
      · have g2 : (z.length : Int) ≤ 12 := by
          have : ¬ decide ((z.length : Int) ≤ 12) = false := fun g => e2 (by rw [g]; rfl)
          exact of_decide_eq_true (by simpa using this)
        have g1 : (1 : Int) ≤ (z.length : Int) := of_decide_eq_true e1
        obtain ⟨c, r, ecr⟩ : ∃ c r, z.cps.toList = c :: r := by
          cases e : z.cps.toList with
          | nil =>
            have : z.cps.toList.length = 0 := by rw [e]; rfl
            rw [Array.length_toList] at this
            have : z.length = 0 := this
            omega
          | cons c r => exact ⟨c, r, rfl⟩
        refine ⟨.str z, rfl, z, 0, c, rfl, rfl, hz, by rw [ecr]; exact atI_nat (j := 0) rfl, c, _, rfl, rfl, _, rfl, ?_⟩
        have z0 := fun H' s' => qq H' s'
        rw [isWordS_in (by omega) (by omega) ecr] at z0
        rw [up_mem]
        cases ec : upC c with
        | false =>
          rw [ec] at z0
          exact iteF (z0 H (Same.refl H))
        | true =>
          rw [ec] at z0
          refine iteT ⟨.str z, rfl, 1, rfl, z, rfl, hz, cutS z (some 1) none, rfl, Nat.le_trans (cutS_length z _ _) hz, fun H1 s1 => ?_⟩
          have e5 : areLower (cutS z (some 1) none) = r.all lowC := by rw [areLower, cut_tail ecr]
          rw [e5]
          exact z0 H1 s1
      · have z0 := qq H (Same.refl H)
        have f1 : ¬ 1 ≤ z.length := fun g => e1 (decide_eq_true (by omega))
        rw [isWordS_short f1] at z0
        exact z0
    | bl b => exact iteT (iteT (q H (Same.refl H)))
    | non => exact iteT (iteT (q H (Same.refl H)))
    | int z => exact iteT (iteT (q H (Same.refl H)))
    | lst h1 h2 => exact iteT (iteT (q H (Same.refl H)))
    | tup h1 h2 => exact iteT (iteT (q H (Same.refl H)))
abbrev s_is_class_name : Stmt := topS 30
theorem sc_is_class_name : FnScope ["value", "module", "_", "word"] ["value"] (defScope s_is_class_name) := ⟨rfl, rfl, rfl, by decide +kernel, rfl, by decide +kernel, by decide +kernel⟩
theorem ok_is_class_name {f : Addr} {fd : FuncData} (F : Fun K "is_class_name" "is_class_name" s_is_class_name f fd) {f_is_name : Addr} {d_is_name : FuncData} (h_is_name : Hd K mg "is_name" s_is_name ["value"] f_is_name d_is_name) (G_is_name : FnOk P w K mg base CX0 2 f_is_name d_is_name ["value"] (sp1 K isName)) {f_is_class_word : Addr} {d_is_class_word : FuncData} (h_is_class_word : Hd K mg "is_class_word" s_is_class_word ["value"] f_is_class_word d_is_class_word) (G_is_class_word : FnOk P w K mg base CX0 2 f_is_class_word d_is_class_word ["value"] (sp1 K isWord)) (m_isinstance : mg "isinstance" = none) (m_str : mg "str" = none) : FnOk P w K mg base CX0 3 f fd ["value"] (sp1 K isCname) := by
  refine F.ok sc_is_class_name (fun vs H Q E h => ?_) (fun cdv A outer s H vs Q E hr h => ?_)
  · obtain ⟨_, _, rfl, _⟩ := h
    rfl
  · obtain ⟨x, d, rfl, hx, hok, q⟩ := h
    refine ⟨_, (pss_cons (ps_if (pt_not (pt_val (pe_callB call_isi (by rfl) m_isinstance (by decide +kernel) (pa_cons (pv 0) (pa_cons (pe_bltn (v := .ty "str") (by rfl) m_str (by decide +kernel) rfl) pa_nil))))) (pss_one (ps_ret pe_bl)) pss_nil)
  (pss_cons (ps_asg (pe_partition (pv 0) pe_str) (pg_tup (n := 3) (by rfl) (pgs_cons (pg_name (i := 1) sc_is_class_name.nd rfl (.inl rfl)) (pgs_cons (pg_name (i := 2) sc_is_class_name.nd rfl (.inl rfl)) (pgs_cons (pg_name (i := 3) sc_is_class_name.nd rfl (.inl rfl)) pgs_nil)))))
  (pss_one (ps_ret (pe_and (pe_call G_is_name (hr.mono (by decide)) (by rfl) h_is_name.g h_is_name.F.kp h_is_name.b .nil pass0 (pa_cons (pv 1) pa_nil)) (pe_one (pe_call G_is_class_word (hr.mono (by decide)) (by rfl) h_is_class_word.g h_is_class_word.F.kp h_is_class_word.b .nil pass0 (pa_cons (pv 3) pa_nil)))))))), ?_⟩
    refine r_isi rfl hx (kb_st d) ?_
    cases hx with
    | str z =>
      have hz := ok_str hok
      refine iteF ⟨.str z, rfl, ⟨z, rfl⟩, ?_⟩
      obtain ⟨l1, l2⟩ := part_len z
      refine ⟨z, ".", rfl, rfl, rfl, hz, fun p np => ⟨p, _, rfl, .inl (.inl upd_same), rfl, _, _, rfl, _, _, rfl, _, _, rfl, rfl, ?_⟩⟩
      have s1 := same_upd (o := .tup [.str (Txt.partition z ".").1, .str (Txt.partition z ".").2.1, .str (Txt.partition z ".").2.2]) np
      have k1 : Ok (.str (Txt.partition z ".").1) := .str _ (Nat.le_trans l1 (by cases hok with | str _ h => exact h))
      have k2 : Ok (.str (Txt.partition z ".").2.2) := .str _ (Nat.le_trans l2 (by cases hok with | str _ h => exact h))
      refine ⟨_, rfl, _, .str _, rfl, .str _, k1, fun H1 s2 => ⟨_, rfl, ite2 (fun e => ?_) (fun e => ?_)⟩⟩
      · refine ⟨_, rfl, _, .str _, rfl, .str _, k2, fun H2 s3 => ?_⟩
        have z0 := q H2 ((s1.trans s2).trans s3)
        rw [show isCname (.str z) = (isName (.str (Txt.partition z ".").1) && isWord (.str (Txt.partition z ".").2.2)) from rfl, e, Bool.true_and] at z0
        exact z0
      · have z0 := q H1 (s1.trans s2)
        rw [show isCname (.str z) = (isName (.str (Txt.partition z ".").1) && isWord (.str (Txt.partition z ".").2.2)) from rfl, Bool.eq_false_iff.mpr e, Bool.false_and] at z0
        exact z0
    | bl b => exact iteT (q H (Same.refl H))
    | non => exact iteT (q H (Same.refl H))
    | int z => exact iteT (q H (Same.refl H))
    | lst h1 h2 => exact iteT (q H (Same.refl H))
    | tup h1 h2 => exact iteT (q H (Same.refl H))
abbrev s_is_generic_name : Stmt := topS 31
theorem sc_is_generic_name : FnScope ["value", "module", "_", "name"] ["value"] (defScope s_is_generic_name) := ⟨rfl, rfl, rfl, by decide +kernel, rfl, by decide +kernel, by decide +kernel⟩
theorem ok_is_generic_name {f : Addr} {fd : FuncData} (F : Fun K "is_generic_name" "is_generic_name" s_is_generic_name f fd) {f_is_name : Addr} {d_is_name : FuncData} (h_is_name : Hd K mg "is_name" s_is_name ["value"] f_is_name d_is_name) (G_is_name : FnOk P w K mg base CX0 2 f_is_name d_is_name ["value"] (sp1 K isName)) (m_isinstance : mg "isinstance" = none) (m_str : mg "str" = none) : FnOk P w K mg base CX0 3 f fd ["value"] (sp1 K isGname) := by
  refine F.ok sc_is_generic_name (fun vs H Q E h => ?_) (fun cdv A outer s H vs Q E hr h => ?_)
  · obtain ⟨_, _, rfl, _⟩ := h
    rfl
  · obtain ⟨x, d, rfl, hx, hok, q⟩ := h
    refine ⟨_, (pss_cons (ps_if (pt_not (pt_val (pe_callB call_isi (by rfl) m_isinstance (by decide +kernel) (pa_cons (pv 0) (pa_cons (pe_bltn (v := .ty "str") (by rfl) m_str (by decide +kernel) rfl) pa_nil))))) (pss_one (ps_ret pe_bl)) pss_nil)
  (pss_cons (ps_asg (pe_partition (pv 0) pe_str) (pg_tup (n := 3) (by rfl) (pgs_cons (pg_name (i := 1) sc_is_generic_name.nd rfl (.inl rfl)) (pgs_cons (pg_name (i := 2) sc_is_generic_name.nd rfl (.inl rfl)) (pgs_cons (pg_name (i := 3) sc_is_generic_name.nd rfl (.inl rfl)) pgs_nil)))))
  (pss_one (ps_ret (pe_and (pe_call G_is_name (hr.mono (by decide)) (by rfl) h_is_name.g h_is_name.F.kp h_is_name.b .nil pass0 (pa_cons (pv 1) pa_nil)) (pe_one (pe_call G_is_name (hr.mono (by decide)) (by rfl) h_is_name.g h_is_name.F.kp h_is_name.b .nil pass0 (pa_cons (pv 3) pa_nil)))))))), ?_⟩
    refine r_isi rfl hx (kb_st d) ?_
    cases hx with
    | str z =>
      have hz := ok_str hok
      refine iteF ⟨.str z, rfl, ⟨z, rfl⟩, ?_⟩
      obtain ⟨l1, l2⟩ := part_len z
      refine ⟨z, ".", rfl, rfl, rfl, hz, fun p np => ⟨p, _, rfl, .inl (.inl upd_same), rfl, _, _, rfl, _, _, rfl, _, _, rfl, rfl, ?_⟩⟩
      have s1 := same_upd (o := .tup [.str (Txt.partition z ".").1, .str (Txt.partition z ".").2.1, .str (Txt.partition z ".").2.2]) np
      have k1 : Ok (.str (Txt.partition z ".").1) := .str _ (Nat.le_trans l1 (by cases hok with | str _ h => exact h))
      have k2 : Ok (.str (Txt.partition z ".").2.2) := .str _ (Nat.le_trans l2 (by cases hok with | str _ h => exact h))
      refine ⟨_, rfl, _, .str _, rfl, .str _, k1, fun H1 s2 => ⟨_, rfl, ite2 (fun e => ?_) (fun e => ?_)⟩⟩
      · refine ⟨_, rfl, _, .str _, rfl, .str _, k2, fun H2 s3 => ?_⟩
        have z0 := q H2 ((s1.trans s2).trans s3)
        rw [show isGname (.str z) = (isName (.str (Txt.partition z ".").1) && isName (.str (Txt.partition z ".").2.2)) from rfl, e, Bool.true_and] at z0
        exact z0
      · have z0 := q H1 (s1.trans s2)
        rw [show isGname (.str z) = (isName (.str (Txt.partition z ".").1) && isName (.str (Txt.partition z ".").2.2)) from rfl, Bool.eq_false_iff.mpr e, Bool.false_and] at z0
        exact z0
    | bl b => exact iteT (q H (Same.refl H))
    | non => exact iteT (q H (Same.refl H))
    | int z => exact iteT (q H (Same.refl H))
    | lst h1 h2 => exact iteT (q H (Same.refl H))
    | tup h1 h2 => exact iteT (q H (Same.refl H))
end
end Cw

set_option Elab.async false
set_option linter.all false
set_option maxRecDepth 100000
set_option maxHeartbeats 4000000
/-! # CwSeq: sequences of either kind: walked, unpacked, cut, zipped. -/
namespace L2
open PySem PySem.Spec PyProof.Rows
/-- a list or a tuple -/
def SqA (K : PySem.W.Frag) (H : Hp) (a : Addr) (xs : List V) : Prop := SqL K H a xs ∨ SqT K H a xs
theorem SqA.keep {K : PySem.W.Frag} {H H' : Hp} {a : Addr} {xs : List V} (s : Same H H') (h : SqA K H a xs) : SqA K H' a xs := by
  rcases h with h | h
  · exact .inl (s.seq h)
  · right
    rcases h with (h | ⟨o, h⟩) | h
    · exact .inl (.inl (s _ _ h))
    · exact .inl (.inr ⟨o, s _ _ h⟩)
    · exact .inr h
section
variable {X : Cx} {tg : Expr} {pos : Pos}
def iSeq (K : PySem.W.Frag) (tl : TE) : TI := fun σ H R => tl σ H fun x H1 => ∃ a, x = .ref a ∧ (((∃ xs, SqL K H1 a xs) ∧ R (Itl K a) H1) ∨ ((∃ xs, SqT K H1 a xs) ∧ R (Itt K a) H1))
theorem pi_seq {l : Expr} {tl : TE} (hl : PE X l tl) : PI X tg l (iSeq X.K tl) := by
  refine ⟨fun pins s σ H R I h => ?_⟩
  refine thn (hl.run pins s σ H _ I h) fun v s1 ⟨x, H1, J, rx, a, ex, q⟩ => ?_
  subst ex
  obtain rfl : v = Value.ref a := rx
  have spot : ∀ b, b ∈ [s1.heap.objs.size] → b = s1.heap.objs.size := fun b hb => by simpa using hb
  rcases q with ⟨⟨xs, hq⟩, q⟩ | ⟨⟨xs, hq⟩, q⟩
  · obtain ⟨its, rv, pl, _⟩ := J.list hq
    refine wpAny_pyIter_list pl.isList ⟨s1.heap.objs.size, [s1.heap.objs.size], _, _, H1, rfl, J.kept (t' := s1.toks) fun b o e => Heap.get?_push_of_some _ e, turn_list a _, ⟨_, Heap.get?_push_size _ rfl, rfl, rfl⟩, fun b hb => ?_, q⟩
    rw [spot b hb]
    exact J.fpOk (Nat.le_refl _) (J.hok.fresh (Nat.le_refl _))
  · obtain ⟨its, rv, pl, _⟩ := J.tuple hq
    refine wpAny_pyIter_tuple (show s1.heap.IsTuple a its.toArray from pl) ⟨s1.heap.objs.size, [s1.heap.objs.size], _, _, H1, rfl, J.kept (t' := s1.toks) fun b o e => Heap.get?_push_of_some _ e, turn_tuple a _, ⟨_, Heap.get?_push_size _ rfl, rfl, rfl⟩, fun b hb => ?_, q⟩
    rw [spot b hb]
    exact J.fpOk (Nat.le_refl _) (J.hok.fresh (Nat.le_refl _))
/-- how a sequence's walk is read: one answer for both kinds -/
theorem seq_it {K : PySem.W.Frag} {a : Addr} {xs : List V} {H : Hp} {R : It → Hp → Prop} (h : SqA K H a xs) (r : ∀ J G, Walk J xs.length G (YAt xs) → (∀ H', Same H H' → G H') → R J H) :
    ((∃ xs, SqL K H a xs) ∧ R (Itl K a) H) ∨ ((∃ xs, SqT K H a xs) ∧ R (Itt K a) H) := by
  rcases h with h | h
  · exact .inl ⟨⟨xs, h⟩, r _ _ walk_list fun H' s => s.seq h⟩
  · refine .inr ⟨⟨xs, h⟩, r _ _ walk_tup fun H' s => ?_⟩
    rcases SqA.keep s (.inr h : SqA K H a xs) with g | g
    · rcases h with (h | ⟨o, h⟩) | h
      · exact .inl (.inl (s _ _ h))
      · exact .inl (.inr ⟨o, s _ _ h⟩)
      · exact .inr h
    · exact g
theorem sqt_stay {K : PySem.W.Frag} {H H' : Hp} {a : Addr} {xs : List V} (s : Same H H') (h : SqT K H a xs) : SqT K H' a xs := by
  rcases h with (h | ⟨o, h⟩) | h
  · exact .inl (.inl (s _ _ h))
  · exact .inl (.inr ⟨o, s _ _ h⟩)
  · exact .inr h
/-- a built-in's call on one value -/
theorem cb1 {r : List V → Hp → VK → Prop} {t : TE} {σ : St} {H : Hp} {Q : VK} (h : t σ H fun x H1 => r [x] H1 Q) : tCB r (tCons t tNil) σ H Q := h
/-- a comprehension over a sequence of either kind -/
theorem lc_seq {K : PySem.W.Frag} {tl te : TE} {g : TG} {tt : TT} {vs : List Nat} {σ : St} {H : Hp} {Q : VK} {a : Addr} {xs : List V} (e : ∀ R : V → Hp → Prop, R (.ref a) H → tl σ H R) (h : SqA K H a xs) (Pv : Addr → Nat → Hp → Prop)
    (h0 : ∀ D, H D = none → Pv D 0 (upd H D (.lst []))) (hk : ∀ D i H', Pv D i H' → Same H H')
    (hs : ∀ D i x H', H D = none → xs[i]? = some x → Pv D i H' → g x (wipe σ vs) H' fun σ2 H2 => wipe σ2 vs = wipe σ vs ∧ tt σ2 H2 fun b H3 => if b = true then te σ2 H3 fun y H4 => ∃ acc, H4 D = some (.lst acc) ∧ acc.length < sizeLine ∧ Pv D (i + 1) (upd H4 D (.lst (acc ++ [y]))) else Pv D (i + 1) H3)
    (hd : ∀ D H', H D = none → Pv D xs.length H' → Q (.ref D) H') : tLc (iSeq K tl) g tt te vs σ H Q := by
  rcases h with h | h
  · refine e _ ⟨a, rfl, .inl ⟨⟨xs, h⟩, fun D hD => lc_it walk_list (Pv D) (h0 D hD) (fun i H' _ p => (hk D i H' p).seq h) (fun i x H1 H2 _ p y => ?_) (fun H' p => hd D H' hD p)⟩⟩
    obtain ⟨rfl, hy⟩ := y
    exact hs D i x _ hD hy p
  · refine e _ ⟨a, rfl, .inr ⟨⟨xs, h⟩, fun D hD => lc_it walk_tup (Pv D) (h0 D hD) (fun i H' _ p => sqt_stay (hk D i H' p) h) (fun i x H1 H2 _ p y => ?_) (fun H' p => hd D H' hD p)⟩⟩
    obtain ⟨rfl, hy⟩ := y
    exact hs D i x _ hD hy p
def gSeq (K : PySem.W.Frag) (n : Nat) (t : TGs) : TG := fun v σ H Q => ∃ a xs, v = .ref a ∧ SqA K H a xs ∧ xs.length = n ∧ t xs σ H Q
theorem pg_seq {es : List Expr} {k : Nat} {t : TGs} {n : Nat} (hc : X.calm = true) (h : PGs X es t)
    (hn : (assignEach es X.env).length = n := by rfl) (hst : (assignEach es X.env).findIdx? (·.1) = none := by rfl) : PG X (.Tuple es k pos) (gSeq X.K n t) := by
  refine ⟨fun pins s σ H v u Q I r hw => ?_⟩
  obtain ⟨a, xs, e, hq | hq, hl, q⟩ := hw
  · exact (pg_unl (n := n) hc h hn hst).run pins s σ H v u Q I r ⟨a, xs, e, hq, hl, q⟩
  · exact (pg_tup (n := n) hc h hn hst).run pins s σ H v u Q I r ⟨a, xs, e, hq, hl, q⟩
/-! ### x in a tuple of texts, x anything -/
def isOneOf (zs : List Str) : PyData → Bool
  | .str z => zs.any fun y => y == z
  | _ => false
def rInSt (K : PySem.W.Frag) : R2 := fun x y H Q => ∃ d p zs, Dp K H x d ∧ y = .ref p ∧ SqT K H p (zs.map V.str) ∧ Q (.bl (isOneOf zs d)) H
def eqSt (d : PyData) : Value → Bool
  | .str a _ => (match d with | .str z => a == z | _ => false)
  | _ => false
theorem any_eqSt (d : PyData) : ∀ {zs : List Str} {its : List Value}, Vals (zs.map V.str) its → its.any (eqSt d) = isOneOf zs d
  | [], its, r => by
    cases r
    cases d <;> rfl
  | z :: zs, its, r => by
    cases r with
    | cons h t =>
      obtain ⟨tk, rfl⟩ := h
      have ih := any_eqSt d t
      rw [List.any_cons, ih]
      cases d <;> rfl
theorem op_inSt (hu : X.A.units + 1 < cLine) : OpR X (compareOp .In) (rInSt X.K) := by
  intro pins s σ H x y v u Q I rx ry h
  obtain ⟨d, p, zs, hx, rfl, hq, q⟩ := h
  cases ry
  obtain ⟨its, r, pl, hz⟩ := I.tuple hq
  refine SeqAt.in_tupleAt (eqSt d) pl (fun w hw => ?_) ⟨.bl _, H, I, rfl, ?_⟩
  · obtain ⟨z, tk, rfl⟩ : ∃ z tk, w = Value.str z tk := by
      have hw' : w ∈ its := by simpa using hw
      obtain ⟨i, hi⟩ := List.getElem?_of_mem hw'
      have hl : i < (zs.map V.str).length := by rw [r.length]; exact (List.getElem?_eq_some_iff.mp hi).1
      obtain ⟨u, hu1, ru⟩ := r.get (i := i) (x := (zs.map V.str)[i]) (List.getElem?_eq_getElem hl)
      rw [List.getElem_map] at ru
      obtain ⟨tk, e⟩ := ru
      rw [hi] at hu1
      cases hu1
      exact ⟨_, tk, e⟩
    cases hx with
    | non => cases (show v = Value.none from rx); exact SeqAt.EqAt.str_none z tk
    | bl b => cases (show v = Value.bool b from rx); exact SeqAt.EqAt.str_bool z tk b
    | int i => obtain ⟨t2, e⟩ := (show ∃ t, v = Value.int i t from rx); cases e; exact SeqAt.EqAt.str_int z tk i t2
    | str y => obtain ⟨t2, e⟩ := (show ∃ t, v = Value.str y t from rx); cases e; exact SeqAt.EqAt.str_str z tk y t2
    | lst hs _ =>
      cases rx
      obtain ⟨its2, _, pl2, _⟩ := I.list hs
      exact SeqAt.EqAt.str_list z tk pl2.isList hu
    | tup hs _ =>
      cases rx
      obtain ⟨its2, _, pl2, _⟩ := I.tuple hs
      exact SeqAt.EqAt.str_tuple z tk pl2 hu
  · rw [show its.toArray.any (eqSt d) = its.any (eqSt d) by simp, any_eqSt d r]
    exact q
theorem sl_seqA : SlR X (fun x lo hi H Q => rSlL X.K x lo hi H Q ∨ rSlA X.K x lo hi H Q) := SlR.or sl_list sl_tupA
end
end L2

set_option Elab.async false
set_option linter.all false
set_option maxRecDepth 100000
set_option maxHeartbeats 4000000
namespace Cw
open PySem PySem.Spec PyProof.Rows L2
def items : PyData → List PyData | .list l => l | .tuple l => l | _ => []
def get (d : PyData) (i : Nat) : PyData := (items d).getD i .none
def allOf (lo hi : Int) (r : PyData → Bool) (d : PyData) : Bool := isSeq lo hi d && (items d).all r
def isNamed (d : PyData) : Bool := isSeq 2 2 d && (isName (get d 0) && isCname (get d 1))
def isClass (d : PyData) : Bool := isSeq 5 5 d && (isWord (get d 0) && (isOneOf ["open", "sealed"] (get d 1) && (isBo (get d 2) && (allOf 1 12 isCname (get d 3) && allOf 0 3 isNamed (get d 4)))))
def isGeneric (d : PyData) : Bool := isSeq 4 4 d && (isName (get d 0) && (allOf 1 3 isCname (get d 1) && (isInteger 1 ((items (get d 1)).length : Int) (get d 2) && isCname (get d 3))))
theorem ok_len {d : PyData} (h : Ok d) : (items d).length ≤ 100000 := by
  cases h with
  | list l h t => exact h
  | tuple l h t => exact h
  | _ => exact Nat.zero_le _
theorem ok_mem {d z : PyData} (h : Ok d) (m : z ∈ items d) : Ok z := by
  cases h with
  | list l h t => exact t z m
  | tuple l h t => exact t z m
  | _ => cases m
theorem ok_get {d : PyData} (h : Ok d) (i : Nat) : Ok ((items d).getD i .none) := by
  rw [List.getD_eq_getElem?_getD]
  cases e : (items d)[i]? with
  | none => exact .non
  | some z => exact ok_mem h (List.mem_of_getElem? e)
theorem seq_of {K : PySem.W.Frag} {H : Hp} {x : V} {d : PyData} {lo hi : Int} (hx : Dp K H x d) (hok : Ok d) (e : isSeq lo hi d = true) : ∃ a xs, x = .ref a ∧ SqA K H a xs ∧ DpAll K H xs (items d) ∧ xs.length = (items d).length ∧ ∀ z, z ∈ items d → Ok z := by
  cases hx with
  | lst h1 h2 => exact ⟨_, _, rfl, .inl h1, h2, (dp_get h2).1, fun z m => ok_mem hok m⟩
  | tup h1 h2 => exact ⟨_, _, rfl, .inr h1, h2, (dp_get h2).1, fun z m => ok_mem hok m⟩
  | _ => cases e
theorem seq_len {n : Nat} {d : PyData} (e : isSeq (n : Int) (n : Int) d = true) : (items d).length = n := by
  cases d with
  | list l =>
    obtain ⟨h1, h2⟩ := Bool.and_eq_true_iff.mp e
    have h1 := of_decide_eq_true h1
    have h2 := of_decide_eq_true h2
    show l.length = n
    omega
  | tuple l =>
    obtain ⟨h1, h2⟩ := Bool.and_eq_true_iff.mp e
    have h1 := of_decide_eq_true h1
    have h2 := of_decide_eq_true h2
    show l.length = n
    omega
  | _ => cases e
theorem ixA {K : PySem.W.Frag} {H : Hp} {a : Addr} {xs : List V} {i : Int} {v : V} {Q : VK} (h : SqA K H a xs) (e : atI xs i = some v) (q : Q v H) : rIx K (.ref a) (.int i) H Q := by
  rcases h with h | h
  · exact .inl ⟨a, xs, i, v, rfl, rfl, h, e, q⟩
  · exact .inr (.inl ⟨a, xs, i, v, rfl, rfl, h, e, q⟩)
def spAll (K : PySem.W.Frag) (S : Addr → Option Sp) : Sp := fun vs H Q _ => ∃ x d lo hi t r, vs = [x, .int lo, .int hi, .ref t] ∧ Dp K H x d ∧ Ok d ∧ S t = some (sp1 K r) ∧ ∀ H', Same H H' → Q (.bl (allOf lo hi r d)) H'
section
variable {P : Program} {w : World} {K : PySem.W.Frag} {mg : Str → Option Value} {base : Heap} {S : Addr → Option Sp}
abbrev s_are_all : Stmt := topS 48
theorem sc_are_all : FnScope ["value", "least", "most", "test", "one"] ["value", "least", "most", "test"] (defScope s_are_all) := ⟨rfl, rfl, rfl, by decide +kernel, rfl, by decide +kernel, by decide +kernel⟩
theorem ok_are_all {f : Addr} {fd : FuncData} (F : Fun K "are_all" "are_all" s_are_all f fd) {f_is_sequence : Addr} {d_is_sequence : FuncData} (h_is_sequence : Hd K mg "is_sequence" s_is_sequence ["value", "least", "most"] f_is_sequence d_is_sequence) (G_is_sequence : FnOk P w K mg base CX0 1 f_is_sequence d_is_sequence ["value", "least", "most"] (spSeq K)) (m_all : mg "all" = none) {n : Nat} (hn : 1 ≤ n) (A_test : ∀ f sp, S f = some sp → Held P w K mg base n f sp) : FnOk P w K mg base CX0 (n + 1) f fd ["value", "least", "most", "test"] (spAll K S) := by
  refine F.ok sc_are_all (fun vs H Q E h => ?_) (fun cdv A outer s H vs Q E hr h => ?_)
  · obtain ⟨_, _, _, _, _, _, rfl, _⟩ := h
    rfl
  · obtain ⟨x, d, lo, hi, t, r, rfl, hx, hok, hS, q⟩ := h
    refine ⟨_, (pss_one (ps_ret (pe_and (pe_call G_is_sequence (hr.mono (by omega)) (by rfl) h_is_sequence.g h_is_sequence.F.kp h_is_sequence.b .nil pass0 (pa_cons (pv 0) (pa_cons (pv 1) (pa_cons (pv 2) pa_nil)))) (pe_one (pe_callB (cr_all rfl) (by rfl) m_all (by decide +kernel) (pa_cons (pe_lc (own := [("one", 4)]) rfl sc_are_all.nd (pi_seq (pv 0)) (blkOk_by (N := ["value", "least", "most", "test", "one"]) (sc := defScope s_are_all) (by decide +kernel)) (fun _ _ _ _ _ => by exact (pg_name (i := 4) sc_are_all.nd rfl (.inl rfl))) (fun _ _ _ _ _ => by exact pts_nil) (fun _ _ _ _ _ => by exact (pe_callA (i := 3) A_test (hr.mono (by omega)) rfl (by first | exact Or.inl rfl | exact Or.inr (Or.inl rfl) | exact Or.inr (Or.inr rfl)) (pa_cons (pv 4) pa_nil)))) pa_nil)))))), ?_⟩
    refine ⟨x, rfl, .int lo, rfl, .int hi, rfl, x, d, lo, hi, rfl, hx, fun H1 s1 => ⟨_, rfl, ite2 (fun e => ?_) (fun e => ?_)⟩⟩
    · obtain ⟨a, xs, rfl, hq, hd, hl, hi2⟩ := seq_of (dp_keep s1 hx) hok e
      refine cb1 (lc_seq (fun R h => ⟨.ref a, rfl, h⟩) hq (fun D i H' => Same H1 H' ∧ H' D = some (.lst (((items d).take i).map fun z => V.bl (r z)))) (fun D hD => ⟨same_upd hD, upd_same⟩) (fun D i H' p => p.1) ?_ ?_)
      · rintro D i y H2 hD hy ⟨s2, e2⟩
        have hl2 : i < (items d).length := by rw [← hl]; exact (List.getElem?_eq_some_iff.mp hy).1
        obtain ⟨y', hy1, hy2⟩ := (dp_get hd).2 i (items d)[i] (List.getElem?_eq_getElem hl2)
        obtain rfl : y' = y := Option.some.inj (hy1.symm.trans hy)
        refine ⟨rfl, t, _, rfl, hS, _, rfl, _, _, rfl, dp_keep s2 hy2, hi2 _ (List.getElem_mem hl2), fun H4 s4 => ⟨_, s4 _ _ e2, ?_, same_mut (s2.trans s4) hD, ?_⟩⟩
        · rw [List.length_map, List.length_take]
          exact Nat.lt_of_le_of_lt (Nat.min_le_left _ _) (Nat.lt_of_lt_of_le hl2 (Nat.le_trans (ok_len hok) (by decide)))
        · rw [upd_same, List.take_add_one, List.getElem?_eq_getElem hl2, List.map_append]
          rfl
      · rintro D H2 hD ⟨s2, e2⟩
        rw [List.take_of_length_le (by rw [hl]; exact Nat.le_refl _)] at e2
        refine ⟨D, (items d).map r, rfl, SqL.of (by rw [e2, List.map_map]; rfl), ?_⟩
        have z0 := q H2 (s1.trans s2)
        rw [show allOf lo hi r d = (isSeq lo hi d && (items d).all r) from rfl, e, Bool.true_and] at z0
        rw [List.all_map]
        exact z0
    · have z0 := q H1 s1
      rw [show allOf lo hi r d = (isSeq lo hi d && (items d).all r) from rfl, Bool.eq_false_iff.mpr e, Bool.false_and] at z0
      exact z0
abbrev s_is_named_class : Stmt := topS 52
theorem sc_is_named_class : FnScope ["value"] ["value"] (defScope s_is_named_class) := ⟨rfl, rfl, rfl, by decide +kernel, rfl, by decide +kernel, by decide +kernel⟩
theorem ok_is_named_class {f : Addr} {fd : FuncData} (F : Fun K "is_named_class" "is_named_class" s_is_named_class f fd) {f_is_sequence : Addr} {d_is_sequence : FuncData} (h_is_sequence : Hd K mg "is_sequence" s_is_sequence ["value", "least", "most"] f_is_sequence d_is_sequence) (G_is_sequence : FnOk P w K mg base CX0 1 f_is_sequence d_is_sequence ["value", "least", "most"] (spSeq K)) {f_is_name : Addr} {d_is_name : FuncData} (h_is_name : Hd K mg "is_name" s_is_name ["value"] f_is_name d_is_name) (G_is_name : FnOk P w K mg base CX0 2 f_is_name d_is_name ["value"] (sp1 K isName)) {f_is_class_name : Addr} {d_is_class_name : FuncData} (h_is_class_name : Hd K mg "is_class_name" s_is_class_name ["value"] f_is_class_name d_is_class_name) (G_is_class_name : FnOk P w K mg base CX0 3 f_is_class_name d_is_class_name ["value"] (sp1 K isCname)) : FnOk P w K mg base CX0 4 f fd ["value"] (sp1 K isNamed) := by
  refine F.ok sc_is_named_class (fun vs H Q E h => ?_) (fun cdv A outer s H vs Q E hr h => ?_)
  · obtain ⟨_, _, rfl, _⟩ := h
    rfl
  · obtain ⟨x, d, rfl, hx, hok, q⟩ := h
    refine ⟨_, (pss_one (ps_ret (pe_and (pe_call G_is_sequence (hr.mono (by decide)) (by rfl) h_is_sequence.g h_is_sequence.F.kp h_is_sequence.b .nil pass0 (pa_cons (pv 0) (pa_cons pe_int (pa_cons pe_int pa_nil)))) (pe_and (pe_call G_is_name (hr.mono (by decide)) (by rfl) h_is_name.g h_is_name.F.kp h_is_name.b .nil pass0 (pa_cons (pe_ix ix_seq (pv 0) pe_int (fun _ _ => rfl)) pa_nil)) (pe_one (pe_call G_is_class_name (hr.mono (by decide)) (by rfl) h_is_class_name.g h_is_class_name.F.kp h_is_class_name.b .nil pass0 (pa_cons (pe_ix ix_seq (pv 0) pe_int (fun _ _ => rfl)) pa_nil))))))), ?_⟩
    refine ⟨x, rfl, x, d, 2, 2, rfl, hx, fun H1 s1 => ⟨_, rfl, ite2 (fun e => ?_) (fun e => ?_)⟩⟩
    · have hd1 := dp_keep s1 hx
      obtain ⟨a, xs, rfl, hq, hd, hl, hi2⟩ := seq_of hd1 hok e
      have h2 : (items d).length = 2 := seq_len e
      obtain ⟨x0, y0, k0⟩ := (dp_get hd).2 0 (get d 0) (by unfold get; rw [List.getD_eq_getElem?_getD, List.getElem?_eq_getElem (by omega)]; rfl)
      obtain ⟨x1, y1, k1⟩ := (dp_get hd).2 1 (get d 1) (by unfold get; rw [List.getD_eq_getElem?_getD, List.getElem?_eq_getElem (by omega)]; rfl)
      have o0 : Ok (get d 0) := ok_get hok _
      have o1 : Ok (get d 1) := ok_get hok _
      refine ⟨.ref a, rfl, ixA hq (atI_nat (j := 0) y0) ⟨x0, _, rfl, k0, o0, fun H2 s2 => ⟨_, rfl, ite2 (fun e2 => ?_) (fun e2 => ?_)⟩⟩⟩
      · refine ⟨.ref a, rfl, ixA (hq.keep s2) (atI_nat (j := 1) y1) ⟨x1, _, rfl, dp_keep s2 k1, o1, fun H3 s3 => ?_⟩⟩
        have z0 := q H3 ((s1.trans s2).trans s3)
        rw [isNamed, e, e2, Bool.true_and, Bool.true_and] at z0
        exact z0
      · have z0 := q H2 (s1.trans s2)
        rw [isNamed, e, Bool.eq_false_iff.mpr e2, Bool.true_and, Bool.false_and] at z0
        exact z0
    · have z0 := q H1 s1
      rw [isNamed, Bool.eq_false_iff.mpr e, Bool.false_and] at z0
      exact z0
end
end Cw

set_option Elab.async false
set_option linter.all false
set_option maxRecDepth 100000
set_option maxHeartbeats 4000000
/-! # CwZip: zip of a tuple and a list. -/
namespace CwZ
open PySem RZ
section
variable {prog : Program} {w : World} {A : Around} {E : Value → Shared → Prop} {s : Shared} {zz ti ow ja jb la lb : Addr} {m n : Nat} {xs ys : Array Value} {x y p0 q0 : Value}
/-- what a turn finds -/
structure At (h : Heap) (zz ti ow ja jb la lb : Addr) (m n : Nat) (xs ys : Array Value) (p0 q0 : Value) : Prop where
  zip : IsZip h zz ti ow .none
  its : IsPair h ti (.ref ja) (.ref jb)
  own : IsPair h ow p0 q0
  ia : h.IsTupleIter ja la m
  ib : h.IsListIter jb lb n
  ta : h.IsTuple la xs
  lb : h.IsList lb ys
/-- what a turn with an item leaves -/
structure Gone (h h' : Heap) (zz ti ow ja jb la lb : Addr) (m n : Nat) (x y : Value) : Prop where
  zip : IsZip h' zz ti ow (rawInt h.objs.size)
  own : IsPair h' ow x y
  ia : h'.IsTupleIter ja la (m + 1)
  ib : h'.IsListIter jb lb (n + 1)
  new : IsPair h' h.objs.size x y
  size : h'.objs.size = h.objs.size + 1
  rest : ∀ c o, c ≠ zz → c ≠ ow → c ≠ ja → c ≠ jb → h.get? c = some o → h'.get? c = some o
theorem item {Q : Value → Shared → Prop} (D : ZipApart zz ti ow ja jb la lb) (T : At s.heap zz ti ow ja jb la lb m n xs ys p0 q0) (hx : xs[m]? = some x) (hy : ys[n]? = some y)
    (go : ∀ h', Gone s.heap h' zz ti ow ja jb la lb m n x y → Q (.ref s.heap.objs.size) { s with heap := h' }) :
    wpAny (model prog w) A (Builtin.«zip.__next__» ⟨[.ref zz], []⟩) (fun fin s' => ∃ v, fin = .done (.ret v) ∧ Q v s') E s := by
  obtain ⟨hz, hti, how, hja, hjb, hla, hlb⟩ := T
  show wpAny _ _ (field (.ref zz) 2 >>= _) _ _ s
  refine wpAny_bind (wpAny_field hz rfl (x := .bool false) rfl ?_)
  show wpAny _ _ (field (.ref zz) 3 >>= _) _ _ s
  refine wpAny_bind (wpAny_field hz rfl (x := .ref ti) rfl (wpAny_bind (wpAny_seqItems hti rfl ?_)))
  show wpAny _ _ (Builtin.SmallTypes.ownedTupleIsFree (.ref zz) >>= _) _ _ s
  unfold Builtin.SmallTypes.ownedTupleIsFree
  refine wpAny_bind (wpAny_bind (wpAny_field hz rfl (x := .none) rfl (wpAny_pure ?_)))
  simp only [if_true]
  refine wpAny_bind (wpAny_rule (wpAny_bind (wpAny_field hz rfl (x := .ref ow) rfl (wpAny_bind (wpAny_setField_rec hz (by simp) fun g1 z1 t1 => ?_)))))
  have z1' : IsZip g1 zz ti ow .ellipsis := z1
  refine wpAny_bind ?_
  simp only [List.zipIdx_cons, List.zipIdx_nil, List.forIn_cons, List.forIn_nil]
  -- the tuple's side
  refine wpAny_bind (wpAny_bind (wpAny_onRaise ?_))
  show wpAny _ _ (Builtin.SmallTypes.nextOf (.ref ja) >>= _) _ _ { s with heap := g1 }
  refine wpAny_bind (nextOf_tuple_item (hja.extBut t1.extBut D.i1z) (hla.extBut t1.extBut D.l1z) hx fun g2 ja2 t2 => wpAny_pure ?_)
  have ow2 : IsPair g2 ow p0 q0 := t2.extBut _ _ D.TOi1 (t1.extBut _ _ D.TOz how)
  refine wpAny_bind (wpAny_seqItems ow2 rfl (wpAny_bind (wpAny_updateSeq_pair ow2 fun g3 ow3 t3 => wpAny_bind (wpAny_letGo (wpAny_pure ?_)))))
  have ow3' : IsPair g3 ow x q0 := ow3
  -- the list's side
  refine wpAny_bind (wpAny_bind (wpAny_onRaise ?_))
  show wpAny _ _ (Builtin.SmallTypes.nextOf (.ref jb) >>= _) _ _ { s with heap := g3 }
  refine wpAny_bind (wpAny_nextOf_list_item (((hjb.extBut t1.extBut D.i2z).extBut t2.extBut D.i12.symm).extBut t3.extBut D.TOi2.symm) (((hlb.extBut t1.extBut D.l2z).extBut t2.extBut D.l2i1).extBut t3.extBut D.l2TO) hy fun g4 jb4 t4 => wpAny_pure ?_)
  have ow4 : IsPair g4 ow x q0 := t4.extBut _ _ D.TOi2 ow3'
  refine wpAny_bind (wpAny_seqItems ow4 rfl (wpAny_bind (wpAny_updateSeq_pair ow4 fun g5 ow5 t5 => wpAny_bind (wpAny_letGo (wpAny_pure (wpAny_pure ?_))))))
  have ow5' : IsPair g5 ow x y := ow5
  refine wpAny_bind (wpAny_seqItems ow5' rfl (wpAny_bind (wpAny_newTuple ?_)))
  have sz : g5.objs.size = s.heap.objs.size := by rw [t5.1, t4.1, t3.1, t2.1, t1.1]
  have z5 : IsZip g5 zz ti ow .ellipsis := t5.extBut _ _ D.TOz.symm (t4.extBut _ _ D.i2z.symm (t3.extBut _ _ D.TOz.symm (t2.extBut _ _ D.i1z.symm z1')))
  have up5 : ∀ c o, c ≠ zz → c ≠ ow → c ≠ ja → c ≠ jb → s.heap.get? c = some o → g5.get? c = some o := fun c o c1 c2 c3 c4 e => t5.extBut _ _ c2 (t4.extBut _ _ c4 (t3.extBut _ _ c2 (t2.extBut _ _ c3 (t1.extBut _ _ c1 e))))
  have ja5 : g5.IsTupleIter ja la (m + 1) := ((ja2.extBut t3.extBut D.TOi1.symm).extBut t4.extBut D.i12).extBut t5.extBut D.TOi1.symm
  have jb5 : g5.IsListIter jb lb (n + 1) := jb4.extBut t5.extBut D.TOi2.symm
  have zlt : zz < g5.objs.size := Heap.lt_size z5
  show wpAny _ _ (Builtin.SmallTypes.ownedTupleHandOut (.ref zz) (.ref g5.objs.size) >>= _) _ _ { s with heap := g5.push { cls := .type "tuple", data := .seq #[x, y] } }
  unfold Builtin.SmallTypes.ownedTupleHandOut
  have z6 : IsZip (g5.push { cls := .type "tuple", data := .seq #[x, y] }) zz ti ow .ellipsis := Heap.get?_push_of_some _ z5
  refine wpAny_bind (wpAny_bind (wpAny_setField_rec z6 (by simp) fun g7 z7 t7 => ?_))
  have z7' : IsZip g7 zz ti ow (rawInt g5.objs.size) := z7
  refine wpAny_setField_rec z7' (by simp) fun g8 z8 t8 => ?_
  have z8' : IsZip g8 zz ti ow (rawInt g5.objs.size) := z8
  have up8 : ∀ c o, c ≠ zz → g5.get? c = some o → g8.get? c = some o := fun c o c1 e => t8.extBut _ _ c1 (t7.extBut _ _ c1 (Heap.get?_push_of_some _ e))
  have n8 : IsPair g8 g5.objs.size x y := t8.extBut _ _ (Nat.ne_of_gt zlt) (t7.extBut _ _ (Nat.ne_of_gt zlt) (Heap.get?_push_size _ rfl))
  have s8 : g8.objs.size = g5.objs.size + 1 := by rw [t8.1, t7.1, Heap.size_push]
  rw [sz] at z8' n8 s8
  refine wpAny_pure ⟨_, rfl, ?_⟩
  show Q (.ref g5.objs.size) { s with heap := g8 }
  rw [sz]
  exact go g8 ⟨z8', up8 _ _ D.TOz ow5', ja5.at fun o e => up8 _ o D.i1z e, jb5.at fun o e => up8 _ o D.i2z e, n8, s8, fun c o c1 c2 c3 c4 e => up8 c o c1 (up5 c o c1 c2 c3 c4 e)⟩
theorem stop {Q : Fin → Shared → Prop} (hh : A.handled = none) (D : ZipApart zz ti ow ja jb la lb) (T : At s.heap zz ti ow ja jb la lb m n xs ys p0 q0) (over : xs[m]? = none ∨ ys[n]? = none)
    (go : ∀ h' e, (∀ c o, c ≠ zz → c ≠ ow → c ≠ ja → c ≠ jb → s.heap.get? c = some o → h'.get? c = some o) → (∃ o, h'.get? e = some o ∧ o.cls = .type "StopIteration") → E (.ref e) { s with heap := h' }) :
    wpAny (model prog w) A (Builtin.«zip.__next__» ⟨[.ref zz], []⟩) Q E s := by
  obtain ⟨hz, hti, how, hja, hjb, hla, hlb⟩ := T
  show wpAny _ _ (field (.ref zz) 2 >>= _) _ _ s
  refine wpAny_bind (wpAny_field hz rfl (x := .bool false) rfl ?_)
  show wpAny _ _ (field (.ref zz) 3 >>= _) _ _ s
  refine wpAny_bind (wpAny_field hz rfl (x := .ref ti) rfl (wpAny_bind (wpAny_seqItems hti rfl ?_)))
  show wpAny _ _ (Builtin.SmallTypes.ownedTupleIsFree (.ref zz) >>= _) _ _ s
  unfold Builtin.SmallTypes.ownedTupleIsFree
  refine wpAny_bind (wpAny_bind (wpAny_field hz rfl (x := .none) rfl (wpAny_pure ?_)))
  simp only [if_true]
  refine wpAny_bind (wpAny_rule (wpAny_bind (wpAny_field hz rfl (x := .ref ow) rfl (wpAny_bind (wpAny_setField_rec hz (by simp) fun g1 z1 t1 => ?_)))))
  have z1' : IsZip g1 zz ti ow .ellipsis := z1
  refine wpAny_bind ?_
  simp only [List.zipIdx_cons, List.zipIdx_nil, List.forIn_cons, List.forIn_nil]
  refine wpAny_bind (wpAny_bind (wpAny_onRaise ?_))
  show wpAny _ _ (Builtin.SmallTypes.nextOf (.ref ja) >>= _) _ _ { s with heap := g1 }
  have far : ∀ {h : Heap} {e : Addr} {o : Obj}, IsZip h zz ti ow .ellipsis → h.get? e = some o → o.cls = .type "StopIteration" → e ≠ zz := fun {h e o} k1 k2 k3 z => by
    rw [z, k1] at k2
    cases k2
    simp at k3
  cases hx : xs[m]? with
  | none =>
    refine wpAny_bind (nextOf_tuple_end hh (hja.extBut t1.extBut D.i1z) (hla.extBut t1.extBut D.l1z) hx fun g2 e t2 ⟨oe, he, ce⟩ => ?_)
    have z2 : IsZip g2 zz ti ow .ellipsis := t2 _ _ D.i1z.symm z1'
    exact wpAny_setField_rec z2 (by simp) fun g3 _ t3 => go g3 e (fun c o c1 _ c3 _ k => t3.extBut _ _ c1 (t2 _ _ c3 (t1.extBut _ _ c1 k))) ⟨oe, t3.extBut _ _ (far z2 he ce) he, ce⟩
  | some x =>
    have hy : ys[n]? = none := by
      rcases over with k | k
      · rw [hx] at k; cases k
      · exact k
    refine wpAny_bind (nextOf_tuple_item (hja.extBut t1.extBut D.i1z) (hla.extBut t1.extBut D.l1z) hx fun g2 ja2 t2 => wpAny_pure ?_)
    have ow2 : IsPair g2 ow p0 q0 := t2.extBut _ _ D.TOi1 (t1.extBut _ _ D.TOz how)
    refine wpAny_bind (wpAny_seqItems ow2 rfl (wpAny_bind (wpAny_updateSeq_pair ow2 fun g3 ow3 t3 => wpAny_bind (wpAny_letGo (wpAny_pure ?_)))))
    refine wpAny_bind (wpAny_bind (wpAny_onRaise ?_))
    show wpAny _ _ (Builtin.SmallTypes.nextOf (.ref jb) >>= _) _ _ { s with heap := g3 }
    refine wpAny_bind (wpAny_nextOf_list_end hh (((hjb.extBut t1.extBut D.i2z).extBut t2.extBut D.i12.symm).extBut t3.extBut D.TOi2.symm) (((hlb.extBut t1.extBut D.l2z).extBut t2.extBut D.l2i1).extBut t3.extBut D.l2TO) hy fun g4 e t4 ⟨oe, he, ce⟩ => ?_)
    have z4 : IsZip g4 zz ti ow .ellipsis := t4 _ _ D.i2z.symm (t3.extBut _ _ D.TOz.symm (t2.extBut _ _ D.i1z.symm z1'))
    exact wpAny_setField_rec z4 (by simp) fun g5 _ t5 => go g5 e (fun c o c1 c2 c3 c4 k => t5.extBut _ _ c1 (t4 _ _ c4 (t3.extBut _ _ c2 (t2.extBut _ _ c3 (t1.extBut _ _ c1 k))))) ⟨oe, t5.extBut _ _ (far z4 he ce) he, ce⟩
theorem next_item {Q : Option Value → Shared → Prop} (D : ZipApart zz ti ow ja jb la lb) (T : At s.heap zz ti ow ja jb la lb m n xs ys p0 q0) (hx : xs[m]? = some x) (hy : ys[n]? = some y)
    (go : ∀ h', Gone s.heap h' zz ti ow ja jb la lb m n x y → Q (some (.ref s.heap.objs.size)) { s with heap := h' }) : wpAny (model prog w) A (pyNext (.ref zz)) Q E s := by
  have isZ : s.TypeIs (.ref zz) "zip" := ⟨_, T.zip, rfl⟩
  unfold pyNext
  exact wpAny_bind (wpAny_attempt (wpAny_callSpecial?_slot (name := Str.ofString "__next__") isZ F.slot_zip_next (wpAny_call_entry F.slot_zip_next isZ F.entry_zip_next (item D T hx hy fun h' g => wpAny_pure (go h' g)) (F.args_zip_next_1 _))))
theorem next_stop {Q : Option Value → Shared → Prop} (hh : A.handled = none) (D : ZipApart zz ti ow ja jb la lb) (T : At s.heap zz ti ow ja jb la lb m n xs ys p0 q0) (over : xs[m]? = none ∨ ys[n]? = none)
    (go : ∀ h', (∀ c o, c ≠ zz → c ≠ ow → c ≠ ja → c ≠ jb → s.heap.get? c = some o → h'.get? c = some o) → Q none { s with heap := h' }) : wpAny (model prog w) A (pyNext (.ref zz)) Q E s := by
  have isZ : s.TypeIs (.ref zz) "zip" := ⟨_, T.zip, rfl⟩
  unfold pyNext
  refine wpAny_bind (wpAny_attempt (wpAny_callSpecial?_slot (name := Str.ofString "__next__") isZ F.slot_zip_next (wpAny_call_entry F.slot_zip_next isZ F.entry_zip_next (stop hh D T over fun h' e hk ⟨o, ho, hc⟩ => ?_) (F.args_zip_next_1 _))))
  exact wpAny_bind (wpAny_isInstance (T := "StopIteration") (b := true) ⟨o, ho, hc⟩ isSubtype_stop (wpAny_pure (go _ hk)))
end
/-! ### zip(t, l) made -/
abbrev m1 (h : Heap) (la : Addr) : Heap := h.push { cls := .type "tuple_iterator", data := .fields #[.ref la, .int 0 0] }
abbrev m2 (h : Heap) (la lb : Addr) : Heap := (m1 h la).push { cls := .type "list_iterator", data := .fields #[.ref lb, .int 0 0] }
abbrev m3 (h : Heap) (la lb : Addr) : Heap := (m2 h la lb).push { cls := .type "tuple", data := .seq #[.ref h.objs.size, .ref (m1 h la).objs.size] }
abbrev m4 (h : Heap) (la lb : Addr) : Heap := (m3 h la lb).push { cls := .type "tuple", data := .seq #[.none, .none] }
abbrev m5 (h : Heap) (la lb : Addr) : Heap := (m4 h la lb).push { cls := .type "zip", data := .fields #[.none, .bool false, .bool false, .ref (m2 h la lb).objs.size, .ref (m3 h la lb).objs.size] }
theorem meets_new (la lb : Addr) (xs ys : Array Value) :
    Meets (Builtin.«zip.__new__» ⟨[.type "zip", .ref la, .ref lb], []⟩) (fun _ R s => s.heap.IsTuple la xs ∧ s.heap.IsList lb ys ∧ R (.ok (.ret (.ref (m4 s.heap la lb).objs.size))) { s with heap := m5 s.heap la lb }) :=
  .of_wp fun prog w A R s h => by
    obtain ⟨h0, g, d, tk, os⟩ := s
    obtain ⟨ha, hb, h⟩ := h
    have hs := sub_zip
    have fa : Heap.IsTuple (Shared.heap ⟨h0, g, d, tk, os⟩) la xs := ha
    have fb : Heap.IsList (Shared.heap ⟨h0.push { cls := .type "tuple_iterator", data := .fields #[.ref la, .int 0 0] }, g, d, tk, os⟩) lb ys := Heap.IsList.push hb _
    wp_walk using wpAny_pyIter_tuple fa, wpAny_pyIter_list fb
    exact ⟨_, rfl, h⟩
section
variable {prog : Program} {w : World} {A : Around} {E : Value → Shared → Prop} {s : Shared}
theorem made {la lb : Addr} {xs ys : Array Value} {Q : Value → Shared → Prop} (ha : s.heap.IsTuple la xs) (hb : s.heap.IsList lb ys)
    (go : ∀ h', IsZip h' (s.heap.objs.size + 4) (s.heap.objs.size + 2) (s.heap.objs.size + 3) .none → IsPair h' (s.heap.objs.size + 2) (.ref s.heap.objs.size) (.ref (s.heap.objs.size + 1)) → IsPair h' (s.heap.objs.size + 3) .none .none →
      h'.IsTupleIter s.heap.objs.size la 0 → h'.IsListIter (s.heap.objs.size + 1) lb 0 → (∀ c o, s.heap.get? c = some o → h'.get? c = some o) → Q (.ref (s.heap.objs.size + 4)) { s with heap := h' }) :
    wpAny (model prog w) A (call (.type "zip") [.ref la, .ref lb]) Q E s := by
  refine callType_new F.called_zip (by decide) (F.typeCall_zip_2 _ _) (F.newCall_zip_2 _ _) (fun obj => F.args_object_init_3 obj _ _) F.entry_zip_new (meets_new la lb xs ys) ⟨ha, hb, ?_⟩
  have e1 : (m1 s.heap la).objs.size = s.heap.objs.size + 1 := Heap.size_push ..
  have e2 : (m2 s.heap la lb).objs.size = s.heap.objs.size + 2 := by rw [Heap.size_push, e1]
  have e3 : (m3 s.heap la lb).objs.size = s.heap.objs.size + 3 := by rw [Heap.size_push, e2]
  have e4 : (m4 s.heap la lb).objs.size = s.heap.objs.size + 4 := by rw [Heap.size_push, e3]
  have k5 : (m5 s.heap la lb).get? (m4 s.heap la lb).objs.size = some _ := Heap.get?_push_size _ rfl
  have k4 : (m5 s.heap la lb).get? (m3 s.heap la lb).objs.size = some _ := Heap.get?_push_of_some _ (Heap.get?_push_size _ rfl)
  have k3 : (m5 s.heap la lb).get? (m2 s.heap la lb).objs.size = some _ := Heap.get?_push_of_some _ (Heap.get?_push_of_some _ (Heap.get?_push_size _ rfl))
  have k2 : (m5 s.heap la lb).get? (m1 s.heap la).objs.size = some _ := Heap.get?_push_of_some _ (Heap.get?_push_of_some _ (Heap.get?_push_of_some _ (Heap.get?_push_size _ rfl)))
  have k1 : (m5 s.heap la lb).get? s.heap.objs.size = some _ := Heap.get?_push_of_some _ (Heap.get?_push_of_some _ (Heap.get?_push_of_some _ (Heap.get?_push_of_some _ (Heap.get?_push_size _ rfl))))
  show _ ∧ _
  rw [e2, e3, e4] at k5
  rw [e1, e2] at k3
  rw [e3] at k4
  rw [e1] at k2
  rw [e4]
  exact ⟨⟨_, k5, rfl⟩, go _ k5 k3 k4 ⟨_, k1, rfl, rfl⟩ ⟨_, k2, rfl, rfl⟩ fun c o k => Heap.get?_push_of_some _ (Heap.get?_push_of_some _ (Heap.get?_push_of_some _ (Heap.get?_push_of_some _ (Heap.get?_push_of_some _ k))))⟩
end
end CwZ
namespace L2
open PySem PySem.Spec PyProof.Rows
/-- the tuple at a and the list at b as they stand at each turn, the items in new pairs -/
def ItzM (K : PySem.W.Frag) (a b : Addr) : It where
  go := fun i H => ∃ (xs ys : List V) (x y : V), SqT K H a xs ∧ SqL K H b ys ∧ xs[i]? = some x ∧ ys[i]? = some y
  yld := fun i H v H' => ∃ T x y, v = .ref T ∧ H T = none ∧ H' = upd H T (.tup [x, y]) ∧ (∀ xs, SqT K H a xs → xs[i]? = some x) ∧ ∀ ys, SqL K H b ys → ys[i]? = some y
  stop := fun i H => ∃ xs ys : List V, SqT K H a xs ∧ SqL K H b ys ∧ (xs.length ≤ i ∨ ys.length ≤ i)
theorem five {c z t o i j : Addr} (h : c ∈ [z, t, o, i, j]) : c = z ∨ c = t ∨ c = o ∨ c = i ∨ c = j := by simpa using h
theorem turn_zipM {P : Program} {w : World} {K : PySem.W.Frag} {elts : List Expr} {kk : Nat} {tpos : Pos} {a b z ti ow ja jb : Addr} (D : ZipApart z ti ow ja jb a b) :
    Turn P w K (.Tuple elts kk tpos) (ItzM K a b) [z, ti, ow, ja, jb] z (fun i h => IsZip h z ti ow .none ∧ IsPair h ti (.ref ja) (.ref jb) ∧ (∃ x y, IsPair h ow x y) ∧ h.IsTupleIter ja a i ∧ h.IsListIter jb b i) where
  mem := List.mem_cons_self
  obj := fun i h ⟨hz, ht, ⟨x, y, ho⟩, ⟨o1, e1, _, d1⟩, ⟨o2, e2, _, d2⟩⟩ c hc => by
    rcases five hc with rfl | rfl | rfl | rfl | rfl
    · exact ⟨_, hz, fun v q => nomatch q⟩
    · exact ⟨_, ht, fun v q => nomatch q⟩
    · exact ⟨_, ho, fun v q => nomatch q⟩
    · exact ⟨o1, e1, fun v q => by rw [d1] at q; cases q⟩
    · exact ⟨o2, e2, fun v q => by rw [d2] at q; cases q⟩
  keep := fun i h h' ⟨hz, ht, ⟨x, y, ho⟩, h1, h2⟩ k => ⟨k z (by simp) _ hz, k ti (by simp) _ ht, ⟨x, y, k ow (by simp) _ ho⟩, h1.at fun o q => k ja (by simp) o q, h2.at fun o q => k jb (by simp) o q⟩
  item := by
    intro X hP hw hK hc i pins s σ H E I hf ⟨hz, ht, ⟨x0, y0, ho⟩, h1, h2⟩ ⟨xs, ys, x, y, qx, qy, hx, hy⟩
    subst hP hw hK
    obtain ⟨its, rv, p1, _⟩ := I.tuple qx
    obtain ⟨its2, rv2, p2, _⟩ := I.list qy
    obtain ⟨u, hu, ru⟩ := rv.get hx
    obtain ⟨u2, hu2, ru2⟩ := rv2.get hy
    have zl : z < s.heap.objs.size := Heap.lt_size hz
    refine CwZ.next_item D ⟨hz, ht, ho, h1, h2, p1, p2.isList⟩ (x := u) (y := u2) (by simpa using hu) (by simpa using hu2) fun h' g => ⟨_, rfl, wpAny_letOwnedTupleGo_zip (s := { s with heap := h' }) g.zip fun h3 z3 sb => ?_⟩
    have off : ∀ c, c ∉ [z, ti, ow, ja, jb] → c ≠ z ∧ c ≠ ow ∧ c ≠ ja ∧ c ≠ jb := fun c hb => ⟨fun q => hb (by simp [q]), fun q => hb (by simp [q]), fun q => hb (by simp [q]), fun q => hb (by simp [q])⟩
    have pair3 : h3.get? s.heap.objs.size = some { cls := .type "tuple", data := .seq #[u, u2] } := (sb.2 _ (Nat.ne_of_gt zl)).trans g.new
    have fresh : ObjOk X.prog X.w (upd H s.heap.objs.size (.tup [x, y])) h3 s.heap.objs.size (.tup [x, y]) := ⟨by show 2 ≤ sizeLine; decide, [u, u2], .cons ru (.cons ru2 .nil), ⟨_, pair3, rfl, _, rfl⟩⟩
    have J : Inv X pins σ (upd H s.heap.objs.size (.tup [x, y])) { s with heap := h3 } :=
      I.turnedNew (t' := s.toks) (ch := [z, ti, ow, ja, jb]) (fun c o hb q => (sb.2 c (off c hb).1).trans (g.rest c o (off c hb).1 (off c hb).2.1 (off c hb).2.2.1 (off c hb).2.2.2 q)) hf (Nat.le_refl _) fresh
    refine ⟨.ref s.heap.objs.size, _, J, rfl, ⟨_, x, y, rfl, I.hok.fresh (Nat.le_refl _), rfl, fun l hl => by rw [I.tuple_inj hl qx]; exact hx, fun l hl => by rw [I.list_inj hl qy]; exact hy⟩, ⟨z3, (sb.2 _ D.TIz).trans (g.rest _ _ D.TIz D.TITO D.TIi1 D.TIi2 ht), ⟨u, u2, (sb.2 _ D.TOz).trans g.own⟩, g.ia.at fun o q => (sb.2 _ D.i1z).trans q, g.ib.at fun o q => (sb.2 _ D.i2z).trans q⟩, fun c hcm => ?_⟩
    have lt : c < s.heap.objs.size := by
      rcases five hcm with rfl | rfl | rfl | rfl | rfl
      · exact zl
      · exact Heap.lt_size ht
      · exact Heap.lt_size ho
      · obtain ⟨_, e1, _⟩ := h1; exact Heap.lt_size e1
      · obtain ⟨_, e2, _⟩ := h2; exact Heap.lt_size e2
    rw [upd_ne (Nat.ne_of_lt lt)]
    exact (hf c hcm).1
  done := by
    intro X hP hw hK hc i pins s σ H E I hf ⟨hz, ht, ⟨x0, y0, ho⟩, h1, h2⟩ ⟨xs, ys, qx, qy, over⟩
    subst hP hw hK
    obtain ⟨its, rv, p1, _⟩ := I.tuple qx
    obtain ⟨its2, rv2, p2, _⟩ := I.list qy
    have n1 := rv.length
    have n2 := rv2.length
    have over' : its.toArray[i]? = none ∨ its2.toArray[i]? = none := by
      rcases over with q | q
      · exact .inl (by simp; omega)
      · exact .inr (by simp; omega)
    have off : ∀ c, c ∉ [z, ti, ow, ja, jb] → c ≠ z ∧ c ≠ ow ∧ c ≠ ja ∧ c ≠ jb := fun c hb => ⟨fun q => hb (by simp [q]), fun q => hb (by simp [q]), fun q => hb (by simp [q]), fun q => hb (by simp [q])⟩
    exact CwZ.next_stop (I.ok.hd hc) D ⟨hz, ht, ho, h1, h2, p1, p2.isList⟩ over' fun h' hk => ⟨rfl, I.turnedL (t' := s.toks) (ch := [z, ti, ow, ja, jb]) (fun c o hb q => hk c o (off c hb).1 (off c hb).2.1 (off c hb).2.2.1 (off c hb).2.2.2 q) hf⟩
  self := fun A i s Q E st h => wpAny_pyIter_zip st.1 h
/-- zip of a tuple and a sequence of either kind -/
def iZipM (K : PySem.W.Frag) (ta : TA) : TI := fun σ H R => ta σ H fun vs H1 => ∃ a b xs ys, vs = [.ref a, .ref b] ∧ SqT K H1 a xs ∧ ((SqL K H1 b ys ∧ R (ItzM K a b) H1) ∨ (SqT K H1 b ys ∧ R (RZ.ItzT K a b) H1))
theorem pi_zipM {X : Cx} {e e2 : Expr} {ta : TA} {p pos tpos : Pos} {elts : List Expr} {kk : Nat} (hg : Gl X "zip") (hm : X.mg "zip" = none) (ha : PA X [e, e2] ta)
    (hs : starEach [e, e2] X.env = (false, eval e X.env) :: starEach [e2] X.env := by rfl) (hpl : (backTo pos (starEach [e2] X.env)).any (·.1) = false := by rfl) :
    PI X (.Tuple elts kk tpos) (.Call (.Name "zip" p) [e, e2] [] pos) (iZipM X.K ta) := by
  refine ⟨fun pins s σ H R I h => Call_ (ld_blt I hg hm PyProof.Rows.boot_zip (PyProof.Rows.callWith_type1 (thn (ha.run pos pins s σ H _ I h) fun us s1 ⟨vs, H1, J, r1, a, b, xs, ys, ex, qa, q1⟩ => ?_) hs hpl))⟩
  subst ex
  obtain ⟨u1, u2, rfl, r1, r2⟩ := vals2 r1
  obtain rfl : u1 = Value.ref a := r1
  obtain rfl : u2 = Value.ref b := r2
  have free : ∀ c, c ∈ [s1.heap.objs.size + 4, s1.heap.objs.size + 2, s1.heap.objs.size + 3, s1.heap.objs.size, s1.heap.objs.size + 1] → FpOk X pins H1 c := fun c hcm => by
    have le : s1.heap.objs.size ≤ c := by rcases five hcm with rfl | rfl | rfl | rfl | rfl <;> omega
    exact J.fpOk le (J.hok.fresh le)
  obtain ⟨its, rv, p1, _⟩ := J.tuple qa
  obtain ⟨o1, ho1, _⟩ := id p1
  rcases q1 with ⟨qb, q⟩ | ⟨qb, q⟩
  · obtain ⟨its2, rv2, p2, _⟩ := J.list qb
    refine CwZ.made (show s1.heap.IsTuple a its.toArray from p1) p2.isList fun h' hz ht ho h1 h2 hk => wpAny_pyIter_zip hz ?_
    exact ⟨s1.heap.objs.size + 4, _, _, _, H1, rfl, J.kept (t' := s1.toks) hk, turn_zipM (PySem.W.ktu_apart s1.heap.objs.size a b (Heap.lt_size ho1) p2.lt), ⟨hz, ht, ⟨_, _, ho⟩, h1, h2⟩, free, q⟩
  · obtain ⟨its2, rv2, p2, _⟩ := J.tuple qb
    obtain ⟨o2, ho2, _⟩ := id p2
    refine RZ.call_zipT (show s1.heap.IsTuple a its.toArray from p1) (show s1.heap.IsTuple b its2.toArray from p2) fun h' hz ht ho h1 h2 hsz hk => wpAny_pyIter_zip hz ?_
    exact ⟨s1.heap.objs.size + 4, _, _, _, H1, rfl, J.kept (t' := s1.toks) hk, RZ.turn_zipT (PySem.W.ktu_apart s1.heap.objs.size a b (Heap.lt_size ho1) (Heap.lt_size ho2)), ⟨hz, ht, ⟨_, _, ho⟩, h1, h2⟩, free, q⟩
end L2

set_option Elab.async false
set_option linter.all false
set_option maxRecDepth 100000
set_option maxHeartbeats 4000000
namespace Cw
open PySem PySem.Spec PyProof.Rows L2
def isMember (k : Str) (d : PyData) : Bool :=
  if k = "number" then isInteger 0 65535 d else if k = "name" then isName d else if k = "class" then isCname d else if k = "generic" then isGname d else if k = "values" then isSeq 0 12 d else if k = "arguments" then isSeq 1 3 d else true
/-- the kinds that are no parts -/
def Kind6 (k : Str) : Prop := k = "number" ∨ k = "name" ∨ k = "class" ∨ k = "generic" ∨ k = "values" ∨ k = "arguments"
def spMember (K : PySem.W.Frag) : Sp := fun vs H Q _ => ∃ k x d, vs = [.str k, x] ∧ Dp K H x d ∧ Ok d ∧ Kind6 k ∧ ∀ H', Same H H' → Q (.bl (isMember k d)) H'
theorem str_of {k z : Str} (e : decide (V.str k = V.str z) = true) : k = z := V.str.inj (of_decide_eq_true e)
theorem str_to {k z : Str} (e : k = z) : decide (V.str k = V.str z) = true := decide_eq_true (by rw [e])
section
variable {P : Program} {w : World} {K : PySem.W.Frag} {mg : Str → Option Value} {base : Heap} {S : Addr → Option Sp}
abbrev s_is_member : Stmt := topS 54
theorem sc_is_member : FnScope ["kind", "value"] ["kind", "value"] (defScope s_is_member) := ⟨rfl, rfl, rfl, by decide +kernel, rfl, by decide +kernel, by decide +kernel⟩
theorem ok_is_member {f : Addr} {fd : FuncData} (F : Fun K "is_member" "is_member" s_is_member f fd) {f_is_integer : Addr} {d_is_integer : FuncData} (h_is_integer : Hd K mg "is_integer" s_is_integer ["value", "least", "most"] f_is_integer d_is_integer) (G_is_integer : FnOk P w K mg base CX0 1 f_is_integer d_is_integer ["value", "least", "most"] (spInteger K)) {f_is_name : Addr} {d_is_name : FuncData} (h_is_name : Hd K mg "is_name" s_is_name ["value"] f_is_name d_is_name) (G_is_name : FnOk P w K mg base CX0 2 f_is_name d_is_name ["value"] (sp1 K isName)) {f_is_class_name : Addr} {d_is_class_name : FuncData} (h_is_class_name : Hd K mg "is_class_name" s_is_class_name ["value"] f_is_class_name d_is_class_name) (G_is_class_name : FnOk P w K mg base CX0 3 f_is_class_name d_is_class_name ["value"] (sp1 K isCname)) {f_is_generic_name : Addr} {d_is_generic_name : FuncData} (h_is_generic_name : Hd K mg "is_generic_name" s_is_generic_name ["value"] f_is_generic_name d_is_generic_name) (G_is_generic_name : FnOk P w K mg base CX0 3 f_is_generic_name d_is_generic_name ["value"] (sp1 K isGname)) {f_is_sequence : Addr} {d_is_sequence : FuncData} (h_is_sequence : Hd K mg "is_sequence" s_is_sequence ["value", "least", "most"] f_is_sequence d_is_sequence) (G_is_sequence : FnOk P w K mg base CX0 1 f_is_sequence d_is_sequence ["value", "least", "most"] (spSeq K)) {u_LARGEST : Value} (h_LARGEST : Cst K mg "LARGEST" (.int 65535) u_LARGEST) {u_MOST_VALUES : Value} (h_MOST_VALUES : Cst K mg "MOST_VALUES" (.int 12) u_MOST_VALUES) {u_MOST_TAKES : Value} (h_MOST_TAKES : Cst K mg "MOST_TAKES" (.int 3) u_MOST_TAKES) : FnOk P w K mg base CX0 4 f fd ["kind", "value"] (spMember K) := by
  refine F.ok sc_is_member (fun vs H Q E h => ?_) (fun cdv A outer s H vs Q E hr h => ?_)
  · obtain ⟨_, _, _, rfl, _⟩ := h
    rfl
  · obtain ⟨k, x, d, rfl, hx, hok, hk, q⟩ := h
    refine ⟨_, (pss_cons (ps_if (pt_cmpR op_eq (pv 0) pe_str (nomark _)) (pss_one (ps_ret (pe_call G_is_integer (hr.mono (by decide)) (by rfl) h_is_integer.g h_is_integer.F.kp h_is_integer.b .nil pass0 (pa_cons (pv 1) (pa_cons pe_int (pa_cons (pe_glob (v := .int 65535) rfl h_LARGEST.g h_LARGEST.r) pa_nil)))))) pss_nil)
  (pss_cons (ps_if (pt_cmpR op_eq (pv 0) pe_str (nomark _)) (pss_one (ps_ret (pe_call G_is_name (hr.mono (by decide)) (by rfl) h_is_name.g h_is_name.F.kp h_is_name.b .nil pass0 (pa_cons (pv 1) pa_nil)))) pss_nil)
  (pss_cons (ps_if (pt_cmpR op_eq (pv 0) pe_str (nomark _)) (pss_one (ps_ret (pe_call G_is_class_name (hr.mono (by decide)) (by rfl) h_is_class_name.g h_is_class_name.F.kp h_is_class_name.b .nil pass0 (pa_cons (pv 1) pa_nil)))) pss_nil)
  (pss_cons (ps_if (pt_cmpR op_eq (pv 0) pe_str (nomark _)) (pss_one (ps_ret (pe_call G_is_generic_name (hr.mono (by decide)) (by rfl) h_is_generic_name.g h_is_generic_name.F.kp h_is_generic_name.b .nil pass0 (pa_cons (pv 1) pa_nil)))) pss_nil)
  (pss_cons (ps_if (pt_cmpR op_eq (pv 0) pe_str (nomark _)) (pss_one (ps_ret (pe_call G_is_sequence (hr.mono (by decide)) (by rfl) h_is_sequence.g h_is_sequence.F.kp h_is_sequence.b .nil pass0 (pa_cons (pv 1) (pa_cons pe_int (pa_cons (pe_glob (v := .int 12) rfl h_MOST_VALUES.g h_MOST_VALUES.r) pa_nil)))))) pss_nil)
  (pss_one (ps_ret (pe_call G_is_sequence (hr.mono (by decide)) (by rfl) h_is_sequence.g h_is_sequence.F.kp h_is_sequence.b .nil pass0 (pa_cons (pv 1) (pa_cons pe_int (pa_cons (pe_glob (v := .int 3) rfl h_MOST_TAKES.g h_MOST_TAKES.r) pa_nil))))))))))), ?_⟩
    refine ⟨.str k, rfl, rfl, _, rfl, ite2 (fun e => ⟨x, rfl, x, d, 0, 65535, rfl, hx, fun H1 s1 => ?_⟩) (fun e => ?_)⟩
    · have z0 := q H1 s1
      rw [isMember, if_pos (str_of e)] at z0
      exact z0
    have g0 := mt (str_to (z := "number")) e
    refine ⟨.str k, rfl, rfl, _, rfl, ite2 (fun e => ⟨x, rfl, x, d, rfl, hx, hok, fun H1 s1 => ?_⟩) (fun e => ?_)⟩
    · have z0 := q H1 s1
      rw [isMember, if_neg g0, if_pos (str_of e)] at z0
      exact z0
    have g1 := mt (str_to (z := "name")) e
    refine ⟨.str k, rfl, rfl, _, rfl, ite2 (fun e => ⟨x, rfl, x, d, rfl, hx, hok, fun H1 s1 => ?_⟩) (fun e => ?_)⟩
    · have z0 := q H1 s1
      rw [isMember, if_neg g0, if_neg g1, if_pos (str_of e)] at z0
      exact z0
    have g2 := mt (str_to (z := "class")) e
    refine ⟨.str k, rfl, rfl, _, rfl, ite2 (fun e => ⟨x, rfl, x, d, rfl, hx, hok, fun H1 s1 => ?_⟩) (fun e => ?_)⟩
    · have z0 := q H1 s1
      rw [isMember, if_neg g0, if_neg g1, if_neg g2, if_pos (str_of e)] at z0
      exact z0
    have g3 := mt (str_to (z := "generic")) e
    refine ⟨.str k, rfl, rfl, _, rfl, ite2 (fun e => ⟨x, rfl, x, d, 0, 12, rfl, hx, fun H1 s1 => ?_⟩) (fun e => ?_)⟩
    · have z0 := q H1 s1
      rw [isMember, if_neg g0, if_neg g1, if_neg g2, if_neg g3, if_pos (str_of e)] at z0
      exact z0
    have g4 := mt (str_to (z := "values")) e
    have g5 : k = "arguments" := by
      rcases hk with h | h | h | h | h | h
      · exact absurd h g0
      · exact absurd h g1
      · exact absurd h g2
      · exact absurd h g3
      · exact absurd h g4
      · exact h
    refine ⟨x, rfl, x, d, 1, 3, rfl, hx, fun H1 s1 => ?_⟩
    have z0 := q H1 s1
    rw [isMember, if_neg g0, if_neg g1, if_neg g2, if_neg g3, if_neg g4, if_pos g5] at z0
    exact z0
end
end Cw

set_option Elab.async false
set_option linter.all false
set_option maxRecDepth 100000
set_option maxHeartbeats 4000000
/-! # CwZw: walks over zip of a tuple of the written part and a sequence of either kind; the tail of a sequence. -/
namespace L2
open PySem PySem.Spec PyProof.Rows
theorem sameU {H : Hp} {p : Addr} {o : HO} (h : H p = none) : Same H (upd H p o) := fun b x e => by
  by_cases k : b = p
  · rw [k, h] at e
    cases e
  · rw [upd_ne k]
    exact e
theorem seqA_at {K : PySem.W.Frag} {H H' : Hp} {a : Addr} {xs : List V} (s : ∀ o, H a = some o → H' a = some o) (h : SqA K H a xs) : SqA K H' a xs := by
  rcases h with ((h | ⟨o, h⟩) | h) | ((h | ⟨o, h⟩) | h)
  · exact .inl (.inl (.inl (s _ h)))
  · exact .inl (.inl (.inr ⟨o, s _ h⟩))
  · exact .inl (.inr h)
  · exact .inr (.inl (.inl (s _ h)))
  · exact .inr (.inl (.inr ⟨o, s _ h⟩))
  · exact .inr (.inr h)
theorem sql_at {K : PySem.W.Frag} {H H' : Hp} {a : Addr} {xs : List V} (s : ∀ o, H a = some o → H' a = some o) (h : SqL K H a xs) : SqL K H' a xs := by
  rcases h with (h | ⟨o, h⟩) | h
  · exact .inl (.inl (s _ h))
  · exact .inl (.inr ⟨o, s _ h⟩)
  · exact .inr h
theorem sqt_at {K : PySem.W.Frag} {H H' : Hp} {a : Addr} {xs : List V} (s : ∀ o, H a = some o → H' a = some o) (h : SqT K H a xs) : SqT K H' a xs := by
  rcases h with (h | ⟨o, h⟩) | h
  · exact .inl (.inl (s _ h))
  · exact .inl (.inr ⟨o, s _ h⟩)
  · exact .inr h
theorem cutV_one (xs : List V) : cutV xs (some 1) none = xs.drop 1 := by
  unfold cutV
  cases xs with
  | nil => rfl
  | cons x xs =>
    have e : HT.sIx (x :: xs).length 0 (some 1) = 1 := by
      rw [show (some (1 : Int)) = some ((1 : Nat) : Int) from rfl, HT.sIx_nat, List.length_cons]
      omega
    have e2 : HT.sIx (x :: xs).length (x :: xs).length none = (x :: xs).length := rfl
    rw [e, e2]
    exact List.take_of_length_le (by simp)
theorem sl_tail {K : PySem.W.Frag} {H : Hp} {a : Addr} {xs : List V} {Q : VK} (h : SqA K H a xs) (hn : 0 < xs.length) (q : ∀ p H1, H p = none → Same H H1 → SqA K H1 p (xs.drop 1) → Q (.ref p) H1) :
    rSlL K (.ref a) (some 1) none H Q ∨ rSlA K (.ref a) (some 1) none H Q := by
  rcases h with h | h
  · refine .inl ⟨a, xs, rfl, h, fun p hp => ?_⟩
    rw [cutV_one]
    exact q p _ hp (sameU hp) (.inl (SqL.of upd_same))
  · refine .inr ⟨a, xs, rfl, h, fun e => ?_, fun _ p hp => ?_⟩
    · exfalso
      have e1 := e.1
      rw [show (some (1 : Int)) = some ((1 : Nat) : Int) from rfl, HT.sIx_nat] at e1
      omega
    · rw [cutV_one]
      exact q p _ hp (sameU hp) (.inr (.inl (.inl upd_same)))
section
variable {K : PySem.W.Frag} {a b : Addr} {xs ys : List V}
theorem walk_zipM (hl : xs.length = ys.length) : Walk (ItzM K a b) xs.length (fun H => SqT K H a xs ∧ SqL K H b ys) (YPair (fun i => xs[i]?) (fun i => ys[i]?)) :=
  ⟨fun i _ hi q => ⟨xs, ys, xs[i], ys[i]'(by omega), q.1, q.2, by simp [hi], by simp [show i < ys.length by omega]⟩, fun _ q => ⟨xs, ys, q.1, q.2, .inl (Nat.le_refl _)⟩,
   fun _ _ _ _ _ q ⟨T, x, y, e1, e2, e3, e4, e5⟩ => ⟨T, x, y, e1, e2, e3, e4 _ q.1, e5 _ q.2⟩⟩
theorem walk_zipT (hl : xs.length = ys.length) : Walk (RZ.ItzT K a b) xs.length (fun H => SqT K H a xs ∧ SqT K H b ys) (YPair (fun i => xs[i]?) (fun i => ys[i]?)) :=
  ⟨fun i _ hi q => ⟨xs, ys, xs[i], ys[i]'(by omega), q.1, q.2, by simp [hi], by simp [show i < ys.length by omega]⟩, fun _ q => ⟨xs, ys, q.1, q.2, .inl (Nat.le_refl _)⟩,
   fun _ _ _ _ _ q ⟨T, x, y, e1, e2, e3, e4, e5⟩ => ⟨T, x, y, e1, e2, e3, e4 _ q.1, e5 _ q.2⟩⟩
/-- what zip is handed -/
theorem zip_it {ta : TA} {σ : St} {H : Hp} {R : It → Hp → Prop} (hx : ∀ H, SqT K H a xs) (hl : xs.length = ys.length) (e : ∀ R : List V → Hp → Prop, (∀ b H1, H b = none → Same H H1 → SqA K H1 b ys → R [.ref a, .ref b] H1) → ta σ H R)
    (r : ∀ H1 J G, Same H H1 → Walk J xs.length G (YPair (fun i => xs[i]?) (fun i => ys[i]?)) → (∀ H', Same H1 H' → G H') → R J H1) : iZipM K ta σ H R := by
  refine e _ fun b H1 fb s1 hb => ⟨a, b, xs, ys, rfl, hx H1, ?_⟩
  rcases hb with hb | hb
  · exact .inl ⟨hb, r H1 _ _ s1 (walk_zipM hl) fun H' s => ⟨hx H', s.seq hb⟩⟩
  · exact .inr ⟨hb, r H1 _ _ s1 (walk_zipT hl) fun H' s => ⟨hx H', sqt_stay s hb⟩⟩
theorem lc_zipM {ta : TA} {g : TG} {tt : TT} {te : TE} {vs : List Nat} {σ : St} {H : Hp} {Q : VK} (hx : ∀ H, SqT K H a xs) (hl : xs.length = ys.length) (e : ∀ R : List V → Hp → Prop, (∀ b H1, H b = none → Same H H1 → SqA K H1 b ys → R [.ref a, .ref b] H1) → ta σ H R)
    (Pv : Hp → Addr → Nat → Hp → Prop) (h0 : ∀ H1 D, Same H H1 → H1 D = none → Pv H1 D 0 (upd H1 D (.lst []))) (hk : ∀ H1 D i H', Pv H1 D i H' → Same H1 H')
    (hs : ∀ H1 D i x y T H', Same H H1 → H1 D = none → xs[i]? = some x → ys[i]? = some y → Pv H1 D i H' → H' T = none → g (.ref T) (wipe σ vs) (upd H' T (.tup [x, y])) fun σ2 H2 => wipe σ2 vs = wipe σ vs ∧ tt σ2 H2 fun b H3 =>
      if b = true then te σ2 H3 fun y H4 => ∃ acc, H4 D = some (.lst acc) ∧ acc.length < sizeLine ∧ Pv H1 D (i + 1) (upd H4 D (.lst (acc ++ [y]))) else Pv H1 D (i + 1) H3)
    (hd : ∀ H1 D H', Same H H1 → H1 D = none → Pv H1 D xs.length H' → Q (.ref D) H') : tLc (iZipM K ta) g tt te vs σ H Q := by
  refine zip_it hx hl e fun H1 J G s1 w hG D hD => lc_it w (Pv H1 D) (h0 H1 D s1 hD) (fun i H' _ p => hG H' (hk H1 D i H' p)) (fun i x H2 H3 _ p y => ?_) (fun H' p => hd H1 D H' s1 hD p)
  obtain ⟨T, x, y, rfl, e2, rfl, e4, e5⟩ := y
  exact hs H1 D i x y T H2 s1 hD e4 e5 p e2
theorem for_zipM {ta : TA} {g : TG} {tb : TS} {D : Ends} {σ : St} {H : Hp} {L : Addr} {oL : HO} (hL : H L = some oL) (hx : ∀ H, SqT K H a xs) (hl : xs.length = ys.length) (e : ∀ R : List V → Hp → Prop, (∀ b H1, H b = none → Same H H1 → SqA K H1 b ys → R [.ref a, .ref b] H1) → ta σ H R)
    (Pv : Hp → Nat → St → Hp → Prop) (h0 : ∀ H1, Same H H1 → Pv H1 0 σ H1) (hk : ∀ H1 i σ' H', Pv H1 i σ' H' → ∀ b o, b ≠ L → H1 b = some o → H' b = some o)
    (hs : ∀ H1 i x y T σ' H', Same H H1 → xs[i]? = some x → ys[i]? = some y → Pv H1 i σ' H' → H' T = none → g (.ref T) σ' (upd H' T (.tup [x, y])) fun σ2 H2 => tb { D with nx := Pv H1 (i + 1), ct := Pv H1 (i + 1), bk := D.nx } σ2 H2)
    (hd : ∀ H1 σ' H', Same H H1 → Pv H1 xs.length σ' H' → D.nx σ' H') : tFor (iZipM K ta) g tb D σ H := by
  refine e _ fun b H1 fb s1 hb => ⟨a, b, xs, ys, rfl, hx H1, ?_⟩
  have ne : b ≠ L := fun k => by rw [k, hL] at fb; cases fb
  rcases hb with hb | hb
  · refine .inl ⟨hb, for_it (walk_zipM hl) (Pv H1) (h0 H1 s1) (fun i σ' H' _ p => ⟨hx _, sql_at (fun o => hk H1 i σ' H' p b o ne) hb⟩) (fun i x σ' H2 H3 _ p y => ?_) (fun σ' H' p => hd H1 σ' H' s1 p)⟩
    obtain ⟨T, x, y, rfl, e2, rfl, e4, e5⟩ := y
    exact hs H1 i x y T σ' H2 s1 e4 e5 p e2
  · refine .inr ⟨hb, for_it (walk_zipT hl) (Pv H1) (h0 H1 s1) (fun i σ' H' _ p => ⟨hx _, sqt_at (fun o => hk H1 i σ' H' p b o ne) hb⟩) (fun i x σ' H2 H3 _ p y => ?_) (fun σ' H' p => hd H1 σ' H' s1 p)⟩
    obtain ⟨T, x, y, rfl, e2, rfl, e4, e5⟩ := y
    exact hs H1 i x y T σ' H2 s1 e4 e5 p e2
end
section
variable {X : Cx} {pos : Pos}
theorem pi_listK {tg l : Expr} {tl : TE} (K : PySem.W.Frag) (hK : X.K = K) (hl : PE X l tl) : PI X tg l (iList K tl) := by
  subst hK
  exact pi_list hl
/-- within a comprehension: the written part named from outside -/
theorem pg_tupK {es : List Expr} {k : Nat} {t : TGs} {n : Nat} (K : PySem.W.Frag) (hK : X.K = K) (hc : X.calm = true) (h : PGs X es t)
    (hn : (assignEach es X.env).length = n := by rfl) (hst : (assignEach es X.env).findIdx? (·.1) = none := by rfl) : PG X (.Tuple es k pos) (gTup K n t) := by
  subst hK
  exact pg_tup hc h hn hst
end
end L2

set_option Elab.async false
set_option linter.all false
set_option maxRecDepth 100000
set_option maxHeartbeats 4000000
namespace Cw
open PySem PySem.Spec PyProof.Rows L2
def kindsOf (z : Str) : Option (List Str) :=
  if z = "int" then some ["number"] else if z = "name" then some ["name"] else if z = "next" then some [] else if z = "new" then some ["class", "values"] else if z = "field" then some ["part", "class", "name"] else if z = "call" then some ["generic", "arguments"]
  else if z = "add" then some ["part", "part"] else if z = "sub" then some ["part", "part"] else if z = "mul" then some ["part", "part"] else if z = "if" then some ["part", "part", "part"] else if z = "let" then some ["name", "part", "part"] else none
def formL (z : Str) (r : List PyData) : Bool := match kindsOf z with
  | none => false
  | some ks => decide (r.length = ks.length) && (ks.zip r).all fun p => isMember p.1 p.2
def hasForm (d : PyData) : Bool := match items d with
  | .str z :: r => formL z r
  | _ => false
/-- the kinds' dict as the top has written it -/
def Forms (K : PySem.W.Frag) (w : World) (a : Addr) : Prop := ∃ es n, KDict K w a es n ∧ ∀ z, (kindsOf z = none → PySem.W.nsIn K a z = some none) ∧ ∀ ks, kindsOf z = some ks → ∃ p, PySem.W.nsIn K a z = some (some (.ref p)) ∧ ∀ H : Hp, SqT K H p (ks.map V.str)
theorem nextA {D : Ends} {σ : L2.St} {H : Hp} (h : D.nx σ H) : tNext D σ H := h
theorem retA {te : TE} {D : Ends} {σ : L2.St} {H : Hp} (h : te σ H D.rt) : tRet te D σ H := h
theorem sq_split {K : PySem.W.Frag} {H : Hp} {x : V} {d : PyData} (h : Dp K H x d) : (isSq d = false ∧ items d = []) ∨ ∃ a xs, x = .ref a ∧ SqA K H a xs ∧ DpAll K H xs (items d) ∧ isSq d = true := by
  cases h with
  | lst h1 h2 => exact .inr ⟨_, _, rfl, .inl h1, h2, rfl⟩
  | tup h1 h2 => exact .inr ⟨_, _, rfl, .inr h1, h2, rfl⟩
  | _ => exact .inl ⟨rfl, rfl⟩
end Cw

set_option Elab.async false
set_option linter.all false
set_option maxRecDepth 100000
set_option maxHeartbeats 4000000
/-! # CwExt: l.extend(s), s a sequence of either kind, in the heap or written. -/
namespace CwX
open PySem AutoSeq1
set_option maxRecDepth 8000 in
theorem ext_any (k : String) (hkd : k = "list" ∨ k = "tuple") (l : Addr) (xs : Array Value) (n : Nat) (b : Addr) (ys : Array Value) (n2 : Nat) (dd : Option Addr) (sl : Array (Option Value)) (h0 : ¬(!xs.isEmpty && Builtin.List.listTooLong (xs.size + ys.size)) = true) (h1 : xs.size ≤ sizeLine) (h2 : xs.size + ys.size ≤ sizeLine + 1) :
    Meets (Builtin.«list.extend» ⟨[.ref l, .ref b], []⟩) (fun _ R s => s.heap.get? l = some { cls := .type "list", data := .seq xs n } ∧ s.heap.get? b = some ⟨.type k, dd, .seq ys n2, sl⟩ ∧ R (.ok (.ret Value.none)) { s with heap := s.heap.update l (Obj.mapSeq fun x => x ++ ys), toks := s.toks }) :=
  .of_wp fun prog w A R s h => by
    obtain ⟨hp, g, d, tk, os⟩ := s
    obtain ⟨hl, hb, h⟩ := h
    have f1 := idx_int
    have f2 := AutoSeq1.sub_tuple_tuple
    have f3 := AutoSeq1.sub_list_list
    have f4 := AutoSeq1.sub_tuple_list
    have f5 := AutoSeq1.sub_list_tuple
    have hz' : (xs ++ ys).size ≤ sizeLine + 1 := by rw [Array.size_append]; exact h2
    rcases hkd with rfl | rfl <;> (wp_walk using (wpAny_updateSeq hl rfl (hz := h1) (_hz' := hz')), wpAny_loadPart' hl, wpAny_loadPart' hb; exact ⟨_, rfl, h⟩)
end CwX
namespace L2
open PySem PySem.Spec PyProof.Rows
def rExtA (K : PySem.W.Frag) : V → List V → Hp → VK → Prop := fun x vs H Q => ∃ l b xs zs, x = .ref l ∧ vs = [.ref b] ∧ H l = some (.lst xs) ∧ SqA K H b zs ∧ xs.length + zs.length ≤ sizeLine ∧ Q .non (upd H l (.lst (xs ++ zs)))
theorem mt_extendA {X : Cx} : MtM X "list.extend" (rExtA X.K) := by
  intro pins s σ H x vs v us Q I rx rv h
  obtain ⟨l, b, xs, zs, rfl, rfl, hH, hB, hz, q⟩ := h
  cases rx
  obtain ⟨u, rfl, ru⟩ := rv.one
  cases ru
  obtain ⟨z, its, n, r, hl, e⟩ := I.lstM hH
  obtain ⟨k, hk, its2, r2, n2, dd, sl, e2⟩ : ∃ k, (k = "list" ∨ k = "tuple") ∧ ∃ its2 : List Value, Vals zs its2 ∧ ∃ n2 dd sl, s.heap.get? b = some ⟨.type k, dd, .seq its2.toArray n2, sl⟩ := by
    rcases hB with hB | hB
    · obtain ⟨its2, r2, ⟨o, n2, ho, hc, _, hd⟩, _⟩ := I.list hB
      obtain ⟨c, dd, da, sl⟩ := o
      cases hc
      cases hd
      exact ⟨_, .inl rfl, its2, r2, n2, dd, sl, ho⟩
    · obtain ⟨its2, r2, ⟨o, ho, hc, n2, hd⟩, _⟩ := I.tuple hB
      obtain ⟨c, dd, da, sl⟩ := o
      cases hc
      cases hd
      exact ⟨_, .inr rfl, its2, r2, n2, dd, sl, ho⟩
  have hl2 := r2.length
  have hsz : its.toArray.size + its2.toArray.size ≤ sizeLine := by rw [List.size_toArray, List.size_toArray]; omega
  have hlong : ¬ (!its.toArray.isEmpty && Builtin.List.listTooLong (its.toArray.size + its2.toArray.size)) = true := by
    rw [notLongL hsz, Bool.and_false]
    exact Bool.false_ne_true
  refine call_meets F.slot_list_extend ⟨_, e, rfl⟩ F.entry_list_extend (F.args_list_extend_2 _ _)
    (CwX.ext_any k hk l its.toArray n b its2.toArray n2 dd sl hlong (by rw [List.size_toArray]; omega) (by omega)) ⟨e, e2, ?_⟩
  refine ⟨.non, _, I.lset (its' := its ++ its2) hH e (by simp) (r.append r2) ?_, rfl, q⟩
  rw [List.length_append]
  omega
end L2

set_option Elab.async false
set_option linter.all false
set_option maxRecDepth 100000
set_option maxHeartbeats 4000000
namespace Cw
open PySem PySem.Spec PyProof.Rows L2
def partOf (p : Str × PyData) : List PyData := (if p.1 = "part" then [p.2] else []) ++ (if isOneOf ["values", "arguments"] (.str p.1) = true then items p.2 else [])
def partsL (z : Str) (r : List PyData) : List PyData := match kindsOf z with
  | none => []
  | some ks => (ks.zip r).flatMap partOf
def partsOf (d : PyData) : List PyData := match items d with
  | .str z :: r => partsL z r
  | _ => []
def spForm (K : PySem.W.Frag) : Sp := fun vs H Q _ => ∃ x d H0, vs = [x] ∧ Same H0 H ∧ Dp K H0 x d ∧ Ok d ∧ (hasForm d = false → ∀ H', Same H H' → Q .non H') ∧ (hasForm d = true → ∀ H' L ys, Same H H' → H' L = some (.lst ys) → H L = none → DpAll K H0 ys (partsOf d) → Q (.ref L) H')
theorem asgA {te : TE} {g : TG} {D : Ends} {σ : L2.St} {H : Hp} (h : te σ H fun x H1 => g x σ H1 D.nx) : tAsg te g D σ H := h
theorem kinds_six {z : Str} {ks : List Str} (h : kindsOf z = some ks) {k : Str} (m : k ∈ ks) (n : k ≠ "part") : Kind6 k := by
  unfold kindsOf at h
  unfold Kind6
  repeat' split at h
  all_goals (first | (cases h; done) | (cases h; first | (simp [n] at m; done) | (simp [n] at m; rcases m with rfl | rfl <;> simp; done) | (simp [n] at m; subst m; simp; done) | (simp [n] at m; done)))
theorem nameA {i : Nat} {v : V} {σ : L2.St} {H : Hp} {Q : L2.St → Hp → Prop} (h : Q (σ.set i (some v)) H) : gName i v σ H Q := h
theorem seqA {t u : TS} {D : Ends} {σ : L2.St} {H : Hp} (h : t { D with nx := u D } σ H) : tSeq t u D σ H := h
theorem dps_app {K : PySem.W.Frag} {H : Hp} : ∀ {xs ys : List V} {ds es : List PyData}, DpAll K H xs ds → DpAll K H ys es → DpAll K H (xs ++ ys) (ds ++ es)
  | _, _, _, _, .nil, h => h
  | _, _, _, _, .cons h t, g => .cons h (dps_app t g)
theorem kinds_len {z : Str} {ks : List Str} (h : kindsOf z = some ks) : ks.length ≤ 3 := by
  unfold kindsOf at h
  repeat' split at h
  all_goals (cases h <;> decide)
theorem form_of {d : PyData} (h : hasForm d = true) : ∃ z r ks, items d = .str z :: r ∧ kindsOf z = some ks ∧ r.length = ks.length ∧ ∀ (i : Nat) (h1 : i < ks.length) (h2 : i < r.length), isMember ks[i] r[i] = true := by
  unfold hasForm at h
  split at h
  · rename_i z r ei
    cases ek : kindsOf z with
    | none => rw [formL, ek] at h; cases h
    | some ks =>
      rw [show formL z r = (decide (r.length = ks.length) && (ks.zip r).all fun p => isMember p.1 p.2) by rw [formL, ek]] at h
      obtain ⟨h1, h2⟩ := Bool.and_eq_true_iff.mp h
      refine ⟨z, r, ks, ei, ek, of_decide_eq_true h1, fun i g1 g2 => ?_⟩
      have := List.all_eq_true.mp h2 (ks[i], r[i]) (by rw [List.mem_iff_getElem]; exact ⟨i, by rw [List.length_zip]; omega, by rw [List.getElem_zip]⟩)
      exact this
  · cases h
theorem seq_le {lo hi lo' hi' : Int} {d : PyData} (h : isSeq lo hi d = true) (h2 : hi ≤ hi') (h1 : lo' ≤ lo) : isSeq lo' hi' d = true := by
  cases d with
  | list l =>
    obtain ⟨a, b⟩ := Bool.and_eq_true_iff.mp h
    exact Bool.and_eq_true_iff.mpr ⟨decide_eq_true (Int.le_trans h1 (of_decide_eq_true a)), decide_eq_true (Int.le_trans (of_decide_eq_true b) h2)⟩
  | tuple l =>
    obtain ⟨a, b⟩ := Bool.and_eq_true_iff.mp h
    exact Bool.and_eq_true_iff.mpr ⟨decide_eq_true (Int.le_trans h1 (of_decide_eq_true a)), decide_eq_true (Int.le_trans (of_decide_eq_true b) h2)⟩
  | _ => cases h
theorem seq_most {lo : Int} {n : Nat} {d : PyData} (h : isSeq lo (n : Int) d = true) : (items d).length ≤ n := by
  cases d with
  | list l =>
    have := of_decide_eq_true (Bool.and_eq_true_iff.mp h).2
    show l.length ≤ n
    omega
  | tuple l =>
    have := of_decide_eq_true (Bool.and_eq_true_iff.mp h).2
    show l.length ≤ n
    omega
  | _ => cases h
theorem mem_seq {k : Str} {d : PyData} (h : isMember k d = true) (e : isOneOf ["values", "arguments"] (.str k) = true) : ∃ lo, isSeq lo 12 d = true := by
  have e' : ("values" : Str) = k ∨ ("arguments" : Str) = k := by
    have e3 : ((["values", "arguments"] : List Str).any fun y => y == k) = true := e
    simpa [List.any_cons] using e3
  rcases e' with rfl | rfl
  · exact ⟨0, h⟩
  · exact ⟨1, seq_le (lo := 1) (hi := 3) h (by decide) (by decide)⟩
section
variable {P : Program} {w : World} {K : PySem.W.Frag} {mg : Str → Option Value} {base : Heap} {S : Addr → Option Sp}
abbrev s_form_parts : Stmt := topS 53
theorem sc_form_parts : FnScope ["value", "word", "kinds", "parts", "kind", "member"] ["value"] (defScope s_form_parts) := ⟨rfl, rfl, rfl, by decide +kernel, rfl, by decide +kernel, by decide +kernel⟩
theorem ok_form_parts {f : Addr} {fd : FuncData} (F : Fun K "form_parts" "form_parts" s_form_parts f fd) {f_is_member : Addr} {d_is_member : FuncData} (h_is_member : Hd K mg "is_member" s_is_member ["kind", "value"] f_is_member d_is_member) (G_is_member : FnOk P w K mg base CX0 4 f_is_member d_is_member ["kind", "value"] (spMember K)) {a_FORMS : Addr} {u_FORMS : Value} (h_FORMS : Cst K mg "FORMS" (.ref a_FORMS) u_FORMS) (t_FORMS : Forms K w a_FORMS) {a_ROWS : Addr} {u_ROWS : Value} (h_ROWS : Cst K mg "ROWS" (.ref a_ROWS) u_ROWS) (t_ROWS : ∀ H : Hp, SqT K H a_ROWS (((["values", "arguments"] : List Str)).map V.str)) (m_isinstance : mg "isinstance" = none) (m_list : mg "list" = none) (m_tuple : mg "tuple" = none) (m_len : mg "len" = none) (m_str : mg "str" = none) (m_zip : mg "zip" = none) : FnOk P w K mg base CX0 5 f fd ["value"] (spForm K) := by
  refine F.ok sc_form_parts (fun vs H Q E h => ?_) (fun cdv A outer s H vs Q E hr h => ?_)
  · obtain ⟨_, _, _, rfl, _⟩ := h
    rfl
  · obtain ⟨x, d, H0, rfl, s0, hx0, hok, qF, qT⟩ := h
    obtain ⟨es, n, D_FORMS, tf⟩ := t_FORMS
    refine ⟨_, (pss_cons (ps_if (PW.pt (pw_or (pt_not (pt_val (pe_callB call_isiT (by rfl) m_isinstance (by decide +kernel) (pa_cons (pv 0) (pa_cons (pe_tup (pa_cons (pe_bltn (v := .ty "list") (by rfl) m_list (by decide +kernel) rfl) (pa_cons (pe_bltn (v := .ty "tuple") (by rfl) m_tuple (by decide +kernel) rfl) pa_nil))) pa_nil))))) (pw_or1 (pt_cmpR op_eq (pe_callB call_len_seq (by rfl) m_len PySem.boot_len (pa_cons (pv 0) pa_nil)) pe_int (nomark _))))) (pss_one (ps_ret pe_non)) pss_nil)
  (pss_cons (ps_set (i := 1) sc_form_parts.nd rfl (.inl rfl) (pe_ix ix_seq (pv 0) pe_int (fun _ _ => rfl)))
  (pss_cons (ps_if (PW.pt (pw_or (pt_not (pt_val (pe_callB call_isi (by rfl) m_isinstance (by decide +kernel) (pa_cons (pv 1) (pa_cons (pe_bltn (v := .ty "str") (by rfl) m_str (by decide +kernel) rfl) pa_nil))))) (pw_or1 (pt_cmpR (op_notIn_kd D_FORMS) (pv 1) (pe_glob (v := .ref a_FORMS) rfl h_FORMS.g h_FORMS.r) (by rfl))))) (pss_one (ps_ret pe_non)) pss_nil)
  (pss_cons (ps_set (i := 2) sc_form_parts.nd rfl (.inl rfl) (pe_ix ix_kdict (pe_glob (v := .ref a_FORMS) rfl h_FORMS.g h_FORMS.r) (pv 1) (fun _ _ => rfl)))
  (pss_cons (ps_if (pt_cmpR op_ne (pe_callB call_len_seq (by rfl) m_len PySem.boot_len (pa_cons (pv 0) pa_nil)) (pe_op op_add pe_int (pe_callB call_len_seq (by rfl) m_len PySem.boot_len (pa_cons (pv 2) pa_nil))) (nomark _)) (pss_one (ps_ret pe_non)) pss_nil)
  (pss_cons (ps_set (i := 3) sc_form_parts.nd rfl (.inl rfl) (pe_lst pa_nil))
  (pss_cons (ps_for PassesOwn.never rfl (pi_zipM rfl m_zip (pa_cons (pv 2) (pa_cons (pe_slice sl_seqA (pv 0) (po_some pe_int) po_none) pa_nil))) (pg_tup (n := 2) (by rfl) (pgs_cons (pg_name (i := 4) sc_form_parts.nd rfl (.inl rfl)) (pgs_cons (pg_name (i := 5) sc_form_parts.nd rfl (.inl rfl)) pgs_nil))) (pss_one (ps_if (pt_cmpR op_eq (pv 4) pe_str (nomark _)) (pss_one (ps_expr (pe_bm PySem.F.plainAttrs_list PySem.F.slot_list_append PySem.F.type_list_append mt_append (pv 3) (pa_cons (pv 5) pa_nil)))) (pss_one (ps_if (pt_not (pt_val (pe_call G_is_member (hr.mono (by decide)) (by rfl) h_is_member.g h_is_member.F.kp h_is_member.b .nil pass0 (pa_cons (pv 4) (pa_cons (pv 5) pa_nil))))) (pss_one (ps_ret pe_non)) (pss_one (ps_if (pt_cmpR (op_inSt (hu_of hr)) (pv 4) (pe_glob (v := .ref a_ROWS) rfl h_ROWS.g h_ROWS.r) (by rfl)) (pss_one (ps_expr (pe_bm PySem.F.plainAttrs_list PySem.F.slot_list_extend PySem.F.type_list_extend mt_extendA (pv 3) (pa_cons (pv 5) pa_nil)))) pss_nil)))))))
  (pss_one (ps_ret (pv 3)))))))))), ?_⟩
    have hx := dp_keep s0 hx0
    refine ⟨x, rfl, by show 2 ≤ sizeLine; decide, fun tp ntp => ?_⟩
    have s1 := same_upd (o := .tup [.ty "list", .ty "tuple"]) ntp
    have hx1 := dp_keep s1 hx
    have s01 := s0.trans s1
    have qF := fun e H' s' => qF e H' (s1.trans s')
    have qT := fun e H' L ys s' h1 h2 => qT e H' L ys (s1.trans s') h1 h2
    have hn1 : ∀ p, upd H tp (.tup [.ty "list", .ty "tuple"]) p = none → H p = none := fun p e => by
      cases e2 : H p with
      | none => rfl
      | some o => rw [s1 _ _ e2] at e; cases e
    have qT : hasForm d = true → ∀ H' L ys, Same (upd H tp (.tup [.ty "list", .ty "tuple"])) H' → H' L = some (.lst ys) → upd H tp (.tup [.ty "list", .ty "tuple"]) L = none → DpAll K H0 ys (partsOf d) → Q (.ref L) H' := fun e H' L ys s' h1 h2 h3 => qT e H' L ys s' h1 (hn1 L h2) h3
    refine ⟨x, tp, [.ty "list", .ty "tuple"], _, [.type "list", .type "tuple"], isSq d, rfl, upd_same, .cons (.ty _) (.cons (.ty _) .nil), ty_dp hx1, kb_sq d, _, rfl, ?_⟩
    clear hn1
    revert hx1 qF qT s01
    clear s1
    generalize upd H tp (.tup [.ty "list", .ty "tuple"]) = H1
    intro hx1 s01 qF qT
    have no : hasForm d = false → Q .non H1 := fun e => qF e H1 (Same.refl H1)
    rcases sq_split hx0 with ⟨e, e2⟩ | ⟨a, xs, rfl, hq0, hd0, e⟩
    · rw [e]
      exact iteT (iteT (no (by rw [hasForm, e2])))
    rw [e]
    have hq := hq0.keep s01
    have hd := dps_keep s01 hd0
    have hl := (dp_get hd).1
    refine iteF ⟨.ref a, rfl, a, xs, rfl, hq, rfl, _, rfl, ite2 (fun e3 => ?_) (fun e3 => ?_)⟩
    · have e4 := V.int.inj (of_decide_eq_true e3)
      have e5 : items d = [] := List.length_eq_zero_iff.mp (by omega)
      exact no (by rw [hasForm, e5])
    obtain ⟨d0, r, ei⟩ : ∃ d0 r, items d = d0 :: r := by
      cases ei : items d with
      | nil =>
        rw [ei] at hl
        exact absurd (decide_eq_true (by rw [hl]; rfl)) e3
      | cons d0 r => exact ⟨d0, r, rfl⟩
    rw [ei] at hd0
    clear hd
    rcases hd0 with _ | ⟨k00, kr0⟩
    rename_i x0 xr
    have k0 := dp_keep s01 k00
    have kr := dps_keep s01 kr0
    clear k00
    have o0 : Ok d0 := ok_mem hok (by rw [ei]; exact List.mem_cons_self)
    have or' : ∀ z, z ∈ r → Ok z := fun z m => ok_mem hok (by rw [ei]; exact List.mem_cons_of_mem _ m)
    refine ⟨.ref a, rfl, ixA hq (atI_nat (j := 0) rfl) ?_⟩
    refine r_isi rfl k0 (kb_st d0) ?_
    cases k0 with
    | str z =>
      have ef : hasForm d = formL z r := by rw [hasForm, ei]
      rw [ef] at qT qF no
      cases ek : kindsOf z with
      | none =>
        refine iteF ⟨.str z, rfl, z, none, rfl, rfl, (tf z).1 ek, _, rfl, iteT ?_⟩
        exact no (by rw [formL, ek])
      | some ks =>
        have efl : formL z r = (decide (r.length = ks.length) && (ks.zip r).all fun p => isMember p.1 p.2) := by rw [formL, ek]
        obtain ⟨p, ep, hp⟩ := (tf z).2 ks ek
        refine iteF ⟨.str z, rfl, z, some (.ref p), rfl, rfl, ep, _, rfl, iteF ?_⟩
        refine ⟨.str z, rfl, a_FORMS, z, .ref p, rfl, rfl, ⟨es, n, .ref p, D_FORMS.at_, D_FORMS.lit, ep, rfl⟩, ?_⟩
        refine ⟨.ref a, rfl, a, _, rfl, hq, .ref p, rfl, p, _, rfl, .inr (hp H1), 1, _, rfl, rfl, rfl, _, rfl, ite2 (fun e4 => ?_) (fun e4 => ?_)⟩
        · have ne : r.length ≠ ks.length := fun g => by
            have hlr := (dp_get kr).1
            have : decide (V.int ((V.str z :: xr).length : Int) = V.int (1 + ((ks.map V.str).length : Int))) = true := decide_eq_true (by rw [List.length_cons, List.length_map, hlr, g]; congr 1; omega)
            rw [this] at e4
            cases e4
          exact no (by rw [efl, decide_eq_false ne, Bool.false_and])
        · have hlr := (dp_get kr).1
          have el : r.length = ks.length := by
            have e5 : decide (V.int ((V.str z :: xr).length : Int) = V.int (1 + ((ks.map V.str).length : Int))) = true := by
              cases e6 : decide (V.int ((V.str z :: xr).length : Int) = V.int (1 + ((ks.map V.str).length : Int))) with
              | true => rfl
              | false => exact absurd (by rw [e6]; rfl) e4
            have e7 := V.int.inj (of_decide_eq_true e5)
            rw [List.length_cons, List.length_map] at e7
            omega
          have e5 : formL z r = (ks.zip r).all fun p => isMember p.1 p.2 := by
            rw [efl, decide_eq_true el, Bool.true_and]
          have hz : (ks.zip r).length = ks.length := by rw [List.length_zip, el, Nat.min_self]
          have ep' : partsOf d = (ks.zip r).flatMap partOf := by rw [partsOf, ei]; show partsL z r = _; rw [partsL, ek]
          have hk3 := kinds_len ek
          refine nextA ?_
          dsimp only
          refine seqA ?_
          refine asgA ?_
          refine ⟨by show 0 ≤ sizeLine; decide, fun L hL => ?_⟩
          have hq : SqA K (upd H1 L (.lst [])) a (V.str z :: xr) := hq.keep (same_upd hL)
          refine nameA ?_
          dsimp only
          refine seqA ?_
          refine for_zipM (L := L) upd_same hp (xs := ks.map V.str) (ys := xr) (by rw [List.length_map]; omega) (fun R h => ?_)
            (fun H2 i σ' H' => (∃ u v, σ' = [some (.ref a), some (.str z), some (.ref p), some (.ref L), u, v]) ∧ (∃ acc, H' L = some (.lst acc) ∧ DpAll K H0 acc (((ks.zip r).take i).flatMap partOf) ∧ acc.length ≤ 13 * i) ∧ (∀ (j : Nat) (h1 : j < ks.length) (h2 : j < r.length), j < i → isMember ks[j] r[j] = true) ∧ ∀ b o, b ≠ L → H2 b = some o → H' b = some o) ?_ (fun H2 i σ' H' p => p.2.2.2) ?_ ?_
          · exact ⟨.ref p, rfl, .ref a, rfl, 1, rfl, sl_tail hq (by simp) (fun b H3 fb s2 hb => h b H3 fb s2 hb)⟩
          · exact fun H2 s2 => ⟨⟨none, none, rfl⟩, ⟨[], s2 _ _ upd_same, .nil, Nat.zero_le _⟩, fun j _ _ g => absurd g (Nat.not_lt_zero _), fun b o _ e => e⟩
          · rintro H2 i x y T σ' H3 s2 hx3 hy3 ⟨⟨u, v, rfl⟩, ⟨acc, hacc, hda, hla⟩, hmem, hsm⟩ hT
            have hi : i < ks.length := by
              have := (List.getElem?_eq_some_iff.mp hx3).1
              rw [List.length_map] at this
              exact this
            have hir : i < r.length := by omega
            rw [List.getElem?_map, List.getElem?_eq_getElem hi] at hx3
            obtain rfl := Option.some.inj hx3
            obtain ⟨y', hy1, hy2⟩ := (dp_get kr0).2 i r[i] (List.getElem?_eq_getElem hir)
            obtain rfl : y' = y := Option.some.inj (hy1.symm.trans hy3)
            have hTL : T ≠ L := fun k => by rw [k, hacc] at hT; cases hT
            have hLT : L ≠ T := fun k => hTL k.symm
            refine ⟨T, [.str ks[i], y'], rfl, .inl (.inl upd_same), rfl, ?_⟩
            refine ⟨_, _, rfl, _, _, rfl, rfl, ?_⟩
            have hL4 : upd H3 T (.tup [.str ks[i], y']) L = some (.lst acc) := by rw [upd_ne hLT]; exact hacc
            have stp : ((ks.zip r).take (i + 1)).flatMap partOf = ((ks.zip r).take i).flatMap partOf ++ partOf (ks[i], r[i]) := by
              rw [List.take_add_one, List.getElem?_eq_getElem (by rw [List.length_zip]; omega), List.flatMap_append, List.getElem_zip]
              simp
            have sm4 : ∀ b o, b ≠ L → H2 b = some o → upd H3 T (.tup [.str ks[i], y']) b = some o := fun b o hb e => same_upd hT _ _ (hsm b o hb e)
            generalize upd H3 T (.tup [.str ks[i], y']) = H4 at hL4 sm4
            have sm1 : Same H1 H4 := fun b o e => sm4 b o (fun k => by rw [k, hL] at e; cases e) (s2 _ _ (same_upd hL _ _ e))
            have mem1 : isMember ks[i] r[i] = true → ∀ (j : Nat) (h1 : j < ks.length) (h2 : j < r.length), j < i + 1 → isMember ks[j] r[j] = true := fun g j h1 h2 h3 => by
              by_cases e : j = i
              · subst e; exact g
              · exact hmem j h1 h2 (by omega)
            refine ⟨.str ks[i], rfl, rfl, _, rfl, ite2 (fun e1 => ?_) (fun e1 => ?_)⟩
            · have ek1 : ks[i] = "part" := str_of e1
              have ep1 : partOf (ks[i], r[i]) = [r[i]] := by rw [partOf, ek1]; rfl
              rw [ep1] at stp
              refine ⟨.ref L, rfl, .inl ⟨rfl, _, SqL.of hL4⟩, y', rfl, L, acc, y', rfl, rfl, hL4, Nat.lt_of_le_of_lt (show acc.length ≤ 60 by omega) (by decide), ?_⟩
              exact ⟨⟨_, _, rfl⟩, ⟨acc ++ [y'], upd_same, by rw [stp]; exact dps_app hda (.cons hy2 .nil), by rw [List.length_append, List.length_singleton]; omega⟩, mem1 (by rw [ek1]; rfl), fun b o hb e => by rw [upd_ne hb]; exact sm4 b o hb e⟩
            · have ek1 : ks[i] ≠ "part" := fun k => e1 (str_to k)
              have k6 := kinds_six ek (List.getElem_mem hi) ek1
              refine ⟨.str ks[i], rfl, y', rfl, ks[i], y', r[i], rfl, dp_keep (s01.trans sm1) hy2, or' _ (List.getElem_mem hir), k6, fun H5 s5 => ⟨_, rfl, ite2 (fun e6 => ?_) (fun e6 => ?_)⟩⟩
              · have e7 : isMember ks[i] r[i] = false := by
                  cases e8 : isMember ks[i] r[i] with
                  | false => rfl
                  | true => rw [e8] at e6; cases e6
                refine qF ?_ H5 (sm1.trans s5)
                rw [e5, Bool.eq_false_iff]
                intro g
                have g2 := List.all_eq_true.mp g (ks[i], r[i]) (by rw [List.mem_iff_getElem]; exact ⟨i, by rw [List.length_zip]; omega, by rw [List.getElem_zip]⟩)
                exact absurd (g2.symm.trans e7) (by decide)
              · have e7 : isMember ks[i] r[i] = true := by
                  cases e8 : isMember ks[i] r[i] with
                  | true => rfl
                  | false => exact absurd (by rw [e8]; rfl) e6
                refine ⟨.str ks[i], rfl, .str ks[i], a_ROWS, ["values", "arguments"], .str ks[i], rfl, t_ROWS H5, _, rfl, ite2 (fun e2 => ?_) (fun e2 => ?_)⟩
                · have ep1 : partOf (ks[i], r[i]) = items r[i] := by rw [partOf, if_neg ek1, if_pos e2]; rfl
                  rw [ep1] at stp
                  obtain ⟨lo, em⟩ : ∃ lo, isSeq lo 12 r[i] = true := mem_seq e7 e2
                  obtain ⟨b, zs, rfl, hqb, hdb, hlb, _⟩ := seq_of hy2 (or' _ (List.getElem_mem hir)) em
                  have hb12 : zs.length ≤ 12 := by rw [hlb]; exact seq_most em
                  have hL5 := s5 _ _ hL4
                  refine ⟨.ref L, rfl, .inl ⟨rfl, _, SqL.of hL5⟩, .ref b, rfl, L, b, acc, zs, rfl, rfl, hL5, seqA_at (fun o e0 => s5 _ _ (sm1 _ _ (s01 _ _ e0))) hqb, Nat.le_trans (by show acc.length + zs.length ≤ 60; omega) (by decide), ?_⟩
                  exact ⟨⟨_, _, rfl⟩, ⟨acc ++ zs, upd_same, by rw [stp]; exact dps_app hda hdb, by rw [List.length_append]; omega⟩, mem1 e7, fun b o hb e => by rw [upd_ne hb]; exact s5 _ _ (sm4 b o hb e)⟩
                · have ep1 : partOf (ks[i], r[i]) = [] := by rw [partOf, if_neg ek1, if_neg e2]; rfl
                  rw [ep1, List.append_nil] at stp
                  exact ⟨⟨_, _, rfl⟩, ⟨acc, s5 _ _ hL4, by rw [stp]; exact hda, by omega⟩, mem1 e7, fun b o hb e => s5 _ _ (sm4 b o hb e)⟩
          · rintro H2 σ' H3 s2 ⟨⟨u, v, rfl⟩, ⟨acc, hacc, hda, hla⟩, hmem, hsm⟩
            rw [List.take_of_length_le (by rw [List.length_map, List.length_zip]; omega), ← ep'] at hda
            have s3 : Same H1 H3 := fun b o e => hsm b o (fun k => by rw [k, hL] at e; cases e) (s2 _ _ (same_upd hL _ _ e))
            refine ⟨.ref L, rfl, qT ?_ H3 L acc s3 hacc hL hda⟩
            rw [e5, List.all_eq_true]
            intro pr m
            obtain ⟨j, hj, rfl⟩ := List.mem_iff_getElem.mp m
            rw [List.length_zip] at hj
            rw [List.getElem_zip]
            exact hmem j (by omega) (by omega) (by rw [List.length_map]; omega)
    | bl b => exact iteT (iteT (no (by rw [hasForm, ei])))
    | non => exact iteT (iteT (no (by rw [hasForm, ei])))
    | int z => exact iteT (iteT (no (by rw [hasForm, ei])))
    | lst h1 h2 => exact iteT (iteT (no (by rw [hasForm, ei])))
    | tup h1 h2 => exact iteT (iteT (no (by rw [hasForm, ei])))
end
end Cw

set_option Elab.async false
set_option linter.all false
set_option maxRecDepth 100000
set_option maxHeartbeats 4000000
namespace Cw
open PySem PySem.Spec PyProof.Rows L2
theorem flat_len {α β : Type} {f : α → List β} {n : Nat} : ∀ {l : List α}, (∀ x, x ∈ l → (f x).length ≤ n) → (l.flatMap f).length ≤ n * l.length
  | [], _ => Nat.zero_le _
  | x :: l, h => by
    rw [List.flatMap_cons, List.length_append, List.length_cons, Nat.mul_succ]
    have h1 := h x List.mem_cons_self
    have h2 := flat_len (l := l) fun y m => h y (List.mem_cons_of_mem _ m)
    omega
theorem partOf_len {k : Str} {d : PyData} (h : isMember k d = true) : (partOf (k, d)).length ≤ 13 := by
  unfold partOf
  rw [List.length_append]
  by_cases e : isOneOf ["values", "arguments"] (.str k) = true
  · obtain ⟨lo, em⟩ := mem_seq h e
    have : (items d).length ≤ 12 := seq_most (n := 12) em
    rw [if_pos e]
    by_cases e2 : k = "part"
    · rw [if_pos e2, List.length_singleton]; show 1 + (items d).length ≤ 13; omega
    · rw [if_neg e2, List.length_nil]; show 0 + (items d).length ≤ 13; omega
  · rw [if_neg e]
    by_cases e2 : k = "part"
    · rw [if_pos e2]; show 1 + 0 ≤ 13; omega
    · rw [if_neg e2]; show 0 + 0 ≤ 13; omega
theorem form_parts {d : PyData} (h : hasForm d = true) : ∃ z r ks, items d = .str z :: r ∧ kindsOf z = some ks ∧ partsOf d = (ks.zip r).flatMap partOf ∧ ∀ p, p ∈ ks.zip r → isMember p.1 p.2 = true := by
  obtain ⟨z, r, ks, ei, ek, el, hm⟩ := form_of h
  refine ⟨z, r, ks, ei, ek, by rw [partsOf, ei]; show partsL z r = _; rw [partsL, ek], fun p m => ?_⟩
  obtain ⟨i, hi, rfl⟩ := List.mem_iff_getElem.mp m
  rw [List.length_zip] at hi
  rw [List.getElem_zip]
  exact hm i (by omega) (by omega)
theorem parts_len {d : PyData} (h : hasForm d = true) : (partsOf d).length ≤ 39 := by
  obtain ⟨z, r, ks, ei, ek, ep, hm⟩ := form_parts h
  have h3 := kinds_len ek
  rw [ep]
  refine Nat.le_trans (flat_len (n := 13) fun p m => partOf_len (hm p m)) ?_
  rw [List.length_zip]
  omega
theorem part_ok {k : Str} {d z : PyData} (h : Ok d) (m : z ∈ partOf (k, d)) : Ok z := by
  unfold partOf at m
  rcases List.mem_append.mp m with m | m
  · by_cases e2 : k = "part"
    · rw [if_pos e2] at m
      obtain rfl := List.mem_singleton.mp m
      exact h
    · rw [if_neg e2] at m; cases m
  · by_cases e : isOneOf ["values", "arguments"] (.str k) = true
    · rw [if_pos e] at m; exact ok_mem h m
    · rw [if_neg e] at m; cases m
theorem parts_ok {d z : PyData} (h : hasForm d = true) (o : Ok d) (m : z ∈ partsOf d) : Ok z := by
  obtain ⟨y, r, ks, ei, ek, ep, hm⟩ := form_parts h
  rw [ep] at m
  obtain ⟨p, hp, hz⟩ := List.mem_flatMap.mp m
  exact part_ok (ok_mem o (by rw [ei]; exact List.mem_cons_of_mem _ (List.of_mem_zip hp).2)) hz
theorem dps_take {K : PySem.W.Frag} {H : Hp} : ∀ {xs : List V} {ds : List PyData} (n : Nat), DpAll K H xs ds → DpAll K H (xs.take n) (ds.take n)
  | _, _, 0, _ => .nil
  | _, _, n + 1, .nil => .nil
  | _, _, n + 1, .cons h t => .cons h (dps_take n t)
end Cw

set_option Elab.async false
set_option linter.all false
set_option maxRecDepth 100000
set_option maxHeartbeats 4000000
namespace Cw
open PySem PySem.Spec PyProof.Rows L2
def exprL : Nat → Nat → List PyData → Bool
  | 0, _, row => decide (row.length = 0)
  | n + 1, c, row => decide (c + row.length ≤ 60) && (row.all hasForm && exprL n (c + row.length) (row.flatMap partsOf))
def isExpr (d : PyData) : Bool := exprL 7 0 [d]
section
variable {P : Program} {w : World} {K : PySem.W.Frag} {mg : Str → Option Value} {base : Heap} {S : Addr → Option Sp}
abbrev s_is_expression : Stmt := topS 47
theorem sc_is_expression : FnScope ["value", "row", "count", "_", "parts", "one", "found"] ["value"] (defScope s_is_expression) := ⟨rfl, rfl, rfl, by decide +kernel, rfl, by decide +kernel, by decide +kernel⟩
theorem ok_is_expression {f : Addr} {fd : FuncData} (F : Fun K "is_expression" "is_expression" s_is_expression f fd) {f_form_parts : Addr} {d_form_parts : FuncData} (h_form_parts : Hd K mg "form_parts" s_form_parts ["value"] f_form_parts d_form_parts) (G_form_parts : FnOk P w K mg base CX0 5 f_form_parts d_form_parts ["value"] (spForm K)) {u_MOST_LEVELS : Value} (h_MOST_LEVELS : Cst K mg "MOST_LEVELS" (.int 7) u_MOST_LEVELS) {u_MOST_EXPRESSIONS : Value} (h_MOST_EXPRESSIONS : Cst K mg "MOST_EXPRESSIONS" (.int 60) u_MOST_EXPRESSIONS) (m_range : mg "range" = none) (m_len : mg "len" = none) : FnOk P w K mg base CX0 6 f fd ["value"] (sp1 K isExpr) := by
  refine F.ok sc_is_expression (fun vs H Q E h => ?_) (fun cdv A outer s H vs Q E hr h => ?_)
  · obtain ⟨_, _, rfl, _⟩ := h
    rfl
  · obtain ⟨x, d, rfl, hx, hok, q⟩ := h
    refine ⟨_, (pss_cons (ps_set (i := 1) sc_is_expression.nd rfl (.inl rfl) (pe_lst (pa_cons (pv 0) pa_nil)))
  (pss_cons (ps_set (i := 2) sc_is_expression.nd rfl (.inl rfl) pe_int)
  (pss_cons (ps_for PassesOwn.never rfl (pi_range1 rfl m_range (pa_cons (pe_glob (v := .int 7) rfl h_MOST_LEVELS.g h_MOST_LEVELS.r) pa_nil)) (pg_name (i := 3) sc_is_expression.nd rfl (.inl rfl)) (pss_cons (ps_set (i := 2) sc_is_expression.nd rfl (.inl rfl) (pe_op op_add (pv 2) (pe_callB call_len_seq (by rfl) m_len PySem.boot_len (pa_cons (pv 1) pa_nil))))
  (pss_cons (ps_if (pt_cmpR op_gt (pv 2) (pe_glob (v := .int 60) rfl h_MOST_EXPRESSIONS.g h_MOST_EXPRESSIONS.r) (nomark _)) (pss_one (ps_ret pe_bl)) pss_nil)
  (pss_cons (ps_set (i := 4) sc_is_expression.nd rfl (.inl rfl) (pe_lst pa_nil))
  (pss_cons (ps_for PassesOwn.never rfl (pi_list (pv 1)) (pg_name (i := 5) sc_is_expression.nd rfl (.inl rfl)) (pss_cons (ps_set (i := 6) sc_is_expression.nd rfl (.inl rfl) (pe_call G_form_parts (hr.mono (by decide)) (by rfl) h_form_parts.g h_form_parts.F.kp h_form_parts.b .nil pass0 (pa_cons (pv 5) pa_nil)))
  (pss_cons (ps_if (pt_cmpR op_isN (pv 6) pe_non (nomark _)) (pss_one (ps_ret pe_bl)) pss_nil)
  (pss_one (ps_expr (pe_bm PySem.F.plainAttrs_list PySem.F.slot_list_extend PySem.F.type_list_extend mt_extendA (pv 4) (pa_cons (pv 6) pa_nil)))))))
  (pss_one (ps_set (i := 1) sc_is_expression.nd rfl (.inl rfl) (pv 4))))))))
  (pss_one (ps_ret (pe_cmpR op_eq (pe_callB call_len_seq (by rfl) m_len PySem.boot_len (pa_cons (pv 1) pa_nil)) pe_int (nomark _))))))), ?_⟩
    refine ⟨x, rfl, by show 1 ≤ sizeLine; decide, fun L0 hL0 => ?_⟩
    dsimp only
    refine nameA (seqA ?_)
    show gName 2 _ _ _ _
    refine nameA (seqA ?_)
    have pos : ∀ c : Nat, isExpr d = exprL 7 0 [d] := fun _ => rfl
    refine ⟨7, rfl, by decide, by decide, for_it walk_range (fun i σ' H' => ∃ (a : Addr) (c : Nat) (u v t r : Option V) (xs : List V) (row : List PyData), σ' = [some x, some (.ref a), some (.int (c : Int)), u, v, t, r] ∧ Same H H' ∧ SqL K H' a xs ∧ DpAll K H xs row ∧ (∀ z, z ∈ row → Ok z) ∧ isExpr d = exprL (7 - i) c row) ?_ (fun _ _ _ _ _ => True.intro) ?_ ?_⟩
    · exact ⟨L0, 0, none, none, none, none, [x], [d], rfl, same_upd hL0, SqL.of upd_same, .cons hx .nil, fun z m => by rw [List.mem_singleton.mp m]; exact hok, rfl⟩
    · rintro i y σ' Hx H1 hi ⟨a, c, u, v, t, r, xs, row, rfl, s1, hq, hd, ho, he⟩ ⟨rfl, rfl⟩
      have hl := (dp_get hd).1
      have e7 : 7 - i = (7 - (i + 1)) + 1 := by omega
      rw [e7] at he
      refine ⟨.int c, rfl, .ref a, rfl, a, xs, rfl, .inl hq, (c : Int), _, rfl, rfl, ?_⟩
      refine ⟨_, rfl, _, 60, rfl, rfl, _, rfl, ite2 (fun e => ?_) (fun e => ?_)⟩
      · have e2 : ¬ (c + row.length ≤ 60) := by
          have := of_decide_eq_true e
          omega
        have z0 := q H1 s1
        rw [he, exprL, decide_eq_false e2, Bool.false_and] at z0
        exact z0
      have e2 : c + row.length ≤ 60 := by
        have : ¬ ((60 : Int) < (c : Int) + (xs.length : Int)) := fun g => e (decide_eq_true g)
        omega
      rw [exprL, decide_eq_true e2, Bool.true_and] at he
      refine nextA ?_
      dsimp only
      refine seqA ?_
      refine asgA ?_
      refine ⟨by show 0 ≤ sizeLine; decide, fun L hL => ?_⟩
      refine nameA ?_
      dsimp only
      refine seqA ?_
      have s2 : Same H (upd H1 L (.lst [])) := s1.trans (same_upd hL)
      have hLH : H L = none := by
        cases e3 : H L with
        | none => rfl
        | some o => rw [s1 _ _ e3] at hL; cases hL
      refine ⟨.ref a, rfl, a, rfl, ⟨xs, (same_upd hL).seq hq⟩, for_it (walk_list (xs := xs)) (fun j σ' H' => (∃ v' w', σ' = [some x, some (.ref a), some (.int ((c : Int) + (xs.length : Int))), some (.int (0 + (i : Int))), some (.ref L), v', w']) ∧ (∃ acc, H' L = some (.lst acc) ∧ DpAll K H acc ((row.take j).flatMap partsOf) ∧ acc.length ≤ 39 * j) ∧ (∀ (k : Nat) (h1 : k < row.length), k < j → hasForm row[k] = true) ∧ (∀ b o, b ≠ L → H1 b = some o → H' b = some o)) ?_ ?_ ?_ ?_⟩
      · exact ⟨⟨_, _, rfl⟩, ⟨[], upd_same, .nil, Nat.zero_le _⟩, fun k _ g => absurd g (Nat.not_lt_zero _), fun b o hb e => by rw [upd_ne hb]; exact e⟩
      · rintro j σ' H' hj ⟨_, _, _, sm⟩
        exact sql_at (fun o e3 => sm a o (fun k => by rw [k, hL] at e3; cases e3) e3) hq
      · rintro j y2 σ' Hx H2 hj ⟨⟨v', w', rfl⟩, ⟨acc, hacc, hda, hla⟩, hf, sm⟩ ⟨rfl, hy2⟩
        have hjr : j < row.length := by omega
        obtain ⟨y3, hy3, hy4⟩ := (dp_get hd).2 j row[j] (List.getElem?_eq_getElem hjr)
        have hsq : SqL K H2 a xs := sql_at (fun o e3 => sm a o (fun k => by rw [k, hL] at e3; cases e3) e3) hq
        obtain rfl : y3 = y2 := Option.some.inj (hy3.symm.trans hy2)
        have sH : Same H H2 := fun b o e3 => sm b o (fun k => by rw [k, hLH] at e3; cases e3) (s1 _ _ e3)
        have stp : (row.take (j + 1)).flatMap partsOf = (row.take j).flatMap partsOf ++ partsOf row[j] := by
          rw [List.take_add_one, List.getElem?_eq_getElem hjr, List.flatMap_append]
          simp
        refine ⟨y3, rfl, y3, row[j], H, rfl, sH, hy4, ho _ (List.getElem_mem hjr), fun e3 H3 s3 => ?_, fun e3 H3 L3 ys s3 h3 n3 hd3 => ?_⟩
        · refine ⟨.non, rfl, rfl, _, rfl, iteT ?_⟩
          have z0 := q H3 (sH.trans s3)
          rw [he, show row.all hasForm = false from List.all_eq_false.mpr ⟨row[j], List.getElem_mem hjr, by rw [e3]; decide⟩, Bool.false_and] at z0
          exact z0
        · refine ⟨.ref L3, rfl, rfl, _, rfl, iteF ?_⟩
          refine nextA ?_
          have hL3 := s3 _ _ hacc
          have hpl := parts_len e3
          have hyl := (dp_get hd3).1
          refine ⟨.ref L, rfl, .inl ⟨rfl, _, SqL.of hL3⟩, .ref L3, rfl, L, L3, acc, ys, rfl, rfl, hL3, .inl (SqL.of h3), Nat.le_trans (show acc.length + ys.length ≤ 5000 by omega) (by decide), ?_⟩
          refine ⟨⟨_, _, rfl⟩, ⟨acc ++ ys, upd_same, by rw [stp]; exact dps_app hda hd3, by rw [List.length_append]; omega⟩, fun k h1 h2 => ?_, fun b o hb e4 => by rw [upd_ne hb]; exact s3 _ _ (sm b o hb e4)⟩
          by_cases e4 : k = j
          · subst e4; exact e3
          · exact hf k h1 (by omega)
      · rintro σ' H2 ⟨⟨v', w', rfl⟩, ⟨acc, hacc, hda, hla⟩, hf, sm⟩
        rw [List.take_of_length_le (by omega)] at hda
        have sH : Same H H2 := fun b o e3 => sm b o (fun k => by rw [k, hLH] at e3; cases e3) (s1 _ _ e3)
        have hall : ∀ z, z ∈ row → hasForm z = true := fun z m => by
          obtain ⟨k, hk, rfl⟩ := List.mem_iff_getElem.mp m
          exact hf k hk (by omega)
        rw [show row.all hasForm = true from List.all_eq_true.mpr hall, Bool.true_and] at he
        refine ⟨.ref L, rfl, L, c + xs.length, _, _, _, _, acc, row.flatMap partsOf, rfl, sH, SqL.of hacc, hda, fun z m => ?_, ?_⟩
        · obtain ⟨y4, m1, m2⟩ := List.mem_flatMap.mp m
          exact parts_ok (hall _ m1) (ho _ m1) m2
        · rw [hl]
          exact he
    · rintro σ' H1 ⟨a, c, u, v, t, r, xs, row, rfl, s1, hq, hd, ho, he⟩
      have hl := (dp_get hd).1
      have z0 := q H1 s1
      rw [he] at z0
      refine ⟨.ref a, rfl, a, xs, rfl, .inl hq, rfl, ?_⟩
      have e9 : decide (V.int (xs.length : Int) = V.int 0) = exprL (7 - (Int.toNat 7)) c row := by
        rw [dec_int, hl, Bool.eq_iff_iff, beq_iff_eq]
        show _ ↔ decide (row.length = 0) = true
        rw [decide_eq_true_iff]
        omega
      rw [e9]
      exact z0
end
end Cw

set_option Elab.async false
set_option linter.all false
set_option maxRecDepth 100000
set_option maxHeartbeats 4000000
namespace Cw
open PySem PySem.Spec PyProof.Rows L2
def isMethod (d : PyData) : Bool := isSeq 3 3 d && (isGname (get d 0) && (allOf 1 3 isNamed (get d 1) && isExpr (get d 2)))
def isModule (d : PyData) : Bool := isSeq 5 5 d && (isName (get d 0) && (allOf 0 4 isName (get d 1) && (allOf 0 6 isClass (get d 2) && (allOf 0 3 isGeneric (get d 3) && allOf 0 8 isMethod (get d 4)))))
theorem dps3 {K : PySem.W.Frag} {H : Hp} {xs : List V} {ds : List PyData} (h : DpAll K H xs ds) (n : ds.length = 3) : ∃ x0 x1 x2 d0 d1 d2, xs = [x0, x1, x2] ∧ ds = [d0, d1, d2] ∧ Dp K H x0 d0 ∧ Dp K H x1 d1 ∧ Dp K H x2 d2 := by
  match ds, n with
  | [d0, d1, d2], _ =>
    rcases h with _ | ⟨k0, h⟩
    rcases h with _ | ⟨k1, h⟩
    rcases h with _ | ⟨k2, h⟩
    cases h
    exact ⟨_, _, _, _, _, _, rfl, rfl, k0, k1, k2⟩
theorem dps4 {K : PySem.W.Frag} {H : Hp} {xs : List V} {ds : List PyData} (h : DpAll K H xs ds) (n : ds.length = 4) : ∃ x0 x1 x2 x3 d0 d1 d2 d3, xs = [x0, x1, x2, x3] ∧ ds = [d0, d1, d2, d3] ∧ Dp K H x0 d0 ∧ Dp K H x1 d1 ∧ Dp K H x2 d2 ∧ Dp K H x3 d3 := by
  match ds, n with
  | [d0, d1, d2, d3], _ =>
    rcases h with _ | ⟨k0, h⟩
    rcases h with _ | ⟨k1, h⟩
    rcases h with _ | ⟨k2, h⟩
    rcases h with _ | ⟨k3, h⟩
    cases h
    exact ⟨_, _, _, _, _, _, _, _, rfl, rfl, k0, k1, k2, k3⟩
theorem dps5 {K : PySem.W.Frag} {H : Hp} {xs : List V} {ds : List PyData} (h : DpAll K H xs ds) (n : ds.length = 5) : ∃ x0 x1 x2 x3 x4 d0 d1 d2 d3 d4, xs = [x0, x1, x2, x3, x4] ∧ ds = [d0, d1, d2, d3, d4] ∧ Dp K H x0 d0 ∧ Dp K H x1 d1 ∧ Dp K H x2 d2 ∧ Dp K H x3 d3 ∧ Dp K H x4 d4 := by
  match ds, n with
  | [d0, d1, d2, d3, d4], _ =>
    rcases h with _ | ⟨k0, h⟩
    rcases h with _ | ⟨k1, h⟩
    rcases h with _ | ⟨k2, h⟩
    rcases h with _ | ⟨k3, h⟩
    rcases h with _ | ⟨k4, h⟩
    cases h
    exact ⟨_, _, _, _, _, _, _, _, _, _, rfl, rfl, k0, k1, k2, k3, k4⟩
section
variable {P : Program} {w : World} {K : PySem.W.Frag} {mg : Str → Option Value} {base : Heap} {S : Addr → Option Sp}
abbrev s_is_class : Stmt := topS 49
theorem sc_is_class : FnScope ["value", "word", "kind", "abstract", "parents", "fields"] ["value"] (defScope s_is_class) := ⟨rfl, rfl, rfl, by decide +kernel, rfl, by decide +kernel, by decide +kernel⟩
theorem ok_is_class {f : Addr} {fd : FuncData} (F : Fun K "is_class" "is_class" s_is_class f fd) {f_is_sequence : Addr} {d_is_sequence : FuncData} (h_is_sequence : Hd K mg "is_sequence" s_is_sequence ["value", "least", "most"] f_is_sequence d_is_sequence) (G_is_sequence : FnOk P w K mg base CX0 1 f_is_sequence d_is_sequence ["value", "least", "most"] (spSeq K)) {f_is_class_word : Addr} {d_is_class_word : FuncData} (h_is_class_word : Hd K mg "is_class_word" s_is_class_word ["value"] f_is_class_word d_is_class_word) (G_is_class_word : FnOk P w K mg base CX0 2 f_is_class_word d_is_class_word ["value"] (sp1 K isWord)) {f_are_all : Addr} {d_are_all : FuncData} (h_are_all : Hd K mg "are_all" s_are_all ["value", "least", "most", "test"] f_are_all d_are_all) (G_are_all : FnOk P w K mg base CX0 9 f_are_all d_are_all ["value", "least", "most", "test"] (spAll K S)) {f_is_class_name : Addr} {d_is_class_name : FuncData} (h_is_class_name : Hd K mg "is_class_name" s_is_class_name ["value"] f_is_class_name d_is_class_name) {f_is_named_class : Addr} {d_is_named_class : FuncData} (h_is_named_class : Hd K mg "is_named_class" s_is_named_class ["value"] f_is_named_class d_is_named_class) {u_MOST_PARENTS : Value} (h_MOST_PARENTS : Cst K mg "MOST_PARENTS" (.int 12) u_MOST_PARENTS) {u_MOST_FIELDS : Value} (h_MOST_FIELDS : Cst K mg "MOST_FIELDS" (.int 3) u_MOST_FIELDS) (m_isinstance : mg "isinstance" = none) (m_bool : mg "bool" = none) (hS_is_class_name : S f_is_class_name = some (sp1 K isCname)) (hS_is_named_class : S f_is_named_class = some (sp1 K isNamed)) : FnOk P w K mg base CX0 10 f fd ["value"] (sp1 K isClass) := by
  refine F.ok sc_is_class (fun vs H Q E h => ?_) (fun cdv A outer s H vs Q E hr h => ?_)
  · obtain ⟨_, _, rfl, _⟩ := h
    rfl
  · obtain ⟨x, d, rfl, hx, hok, q⟩ := h
    refine ⟨_, (pss_cons (ps_if (pt_not (pt_val (pe_call G_is_sequence (hr.mono (by decide)) (by rfl) h_is_sequence.g h_is_sequence.F.kp h_is_sequence.b .nil pass0 (pa_cons (pv 0) (pa_cons pe_int (pa_cons pe_int pa_nil)))))) (pss_one (ps_ret pe_bl)) pss_nil)
  (pss_cons (ps_asg (pv 0) (pg_seq (n := 5) (by rfl) (pgs_cons (pg_name (i := 1) sc_is_class.nd rfl (.inl rfl)) (pgs_cons (pg_name (i := 2) sc_is_class.nd rfl (.inl rfl)) (pgs_cons (pg_name (i := 3) sc_is_class.nd rfl (.inl rfl)) (pgs_cons (pg_name (i := 4) sc_is_class.nd rfl (.inl rfl)) (pgs_cons (pg_name (i := 5) sc_is_class.nd rfl (.inl rfl)) pgs_nil)))))))
  (pss_one (ps_ret (pe_and (pe_call G_is_class_word (hr.mono (by decide)) (by rfl) h_is_class_word.g h_is_class_word.F.kp h_is_class_word.b .nil pass0 (pa_cons (pv 1) pa_nil)) (pe_and (pe_cmpR (op_inSt (hu_of hr)) (pv 2) (pe_tup (pa_cons pe_str (pa_cons pe_str pa_nil))) (by rfl)) (pe_and (pe_callB call_isi (by rfl) m_isinstance (by decide +kernel) (pa_cons (pv 3) (pa_cons (pe_bltn (v := .ty "bool") (by rfl) m_bool (by decide +kernel) rfl) pa_nil))) (pe_and (pe_call G_are_all (hr.mono (by decide)) (by rfl) h_are_all.g h_are_all.F.kp h_are_all.b .nil pass0 (pa_cons (pv 4) (pa_cons pe_int (pa_cons (pe_glob (v := .int 12) rfl h_MOST_PARENTS.g h_MOST_PARENTS.r) (pa_cons (pe_glob (v := .ref f_is_class_name) rfl h_is_class_name.g rfl) pa_nil))))) (pe_one (pe_call G_are_all (hr.mono (by decide)) (by rfl) h_are_all.g h_are_all.F.kp h_are_all.b .nil pass0 (pa_cons (pv 5) (pa_cons pe_int (pa_cons (pe_glob (v := .int 3) rfl h_MOST_FIELDS.g h_MOST_FIELDS.r) (pa_cons (pe_glob (v := .ref f_is_named_class) rfl h_is_named_class.g rfl) pa_nil)))))))))))))), ?_⟩
    refine ⟨x, rfl, x, d, 5, 5, rfl, hx, fun H0 t0 => ⟨_, rfl, ?_⟩⟩
    cases e : isSeq 5 5 d with
    | false => exact iteT (by have z0 := q H0 t0; rw [isClass, e, Bool.false_and] at z0; exact z0)
    | true =>
      obtain ⟨a, xs, rfl, hq, hd, hl, hi⟩ := seq_of (dp_keep t0 hx) hok e
      have hn : (items d).length = 5 := seq_len e
      obtain ⟨x0, x1, x2, x3, x4, d0, d1, d2, d3, d4, rfl, hit, k0, k1, k2, k3, k4⟩ := dps5 hd hn
      have o0 : Ok d0 := hi _ (by rw [hit]; simp)
      have o1 : Ok d1 := hi _ (by rw [hit]; simp)
      have o2 : Ok d2 := hi _ (by rw [hit]; simp)
      have o3 : Ok d3 := hi _ (by rw [hit]; simp)
      have o4 : Ok d4 := hi _ (by rw [hit]; simp)
      have hdef : isClass d = (isWord d0 && (isOneOf ["open", "sealed"] d1 && (isBo d2 && (allOf 1 12 isCname d3 && (allOf 0 3 isNamed d4))))) := by
        rw [isClass, e, Bool.true_and]
        unfold get
        rw [hit]
        rfl
      have q : ∀ H', Same H0 H' → Q (.bl (isWord d0 && (isOneOf ["open", "sealed"] d1 && (isBo d2 && (allOf 1 12 isCname d3 && (allOf 0 3 isNamed d4)))))) H' := fun H' s' => by rw [← hdef]; exact q H' (t0.trans s')
      refine iteF ⟨.ref a, rfl, a, _, rfl, hq, rfl, _, _, rfl, _, _, rfl, _, _, rfl, _, _, rfl, _, _, rfl, rfl, ?_⟩
      refine ⟨x0, rfl, x0, d0, rfl, k0, o0, fun H1 t1 => ⟨_, rfl, ite2 (fun e0 => ?_) (fun e0 => ?_)⟩⟩
      rotate_left
      · have z0 := q H1 (Same.trans (Same.refl H0) t1)
        rw [Bool.eq_false_iff.mpr e0, Bool.false_and] at z0
        exact z0
      refine ⟨x1, rfl, by show 2 ≤ sizeLine; decide, fun tp ntp => ?_⟩
      have t2 := same_upd (o := .tup [.str "open", .str "sealed"]) ntp
      revert t2
      have hsq : SqT K (upd H1 tp (.tup [.str "open", .str "sealed"])) tp ((["open", "sealed"] : List Str).map V.str) := .inl (.inl upd_same)
      revert hsq
      generalize upd H1 tp (.tup [.str "open", .str "sealed"]) = H2
      intro hsq t2
      refine ⟨d1, tp, ["open", "sealed"], dp_keep (Same.trans (Same.trans (Same.refl H0) t1) t2) k1, rfl, hsq, ⟨_, rfl, ite2 (fun e1 => ?_) (fun e1 => ?_)⟩⟩
      rotate_left
      · have z0 := q H2 (Same.trans (Same.trans (Same.refl H0) t1) t2)
        rw [show (isWord d0) = true from e0, Bool.true_and, Bool.eq_false_iff.mpr e1, Bool.false_and] at z0
        exact z0
      refine v_isi rfl (dp_keep (Same.trans (Same.trans (Same.refl H0) t1) t2) k2) (kb_bo d2) ⟨_, rfl, ite2 (fun e2 => ?_) (fun e2 => ?_)⟩
      rotate_left
      · have z0 := q H2 (Same.trans (Same.trans (Same.refl H0) t1) t2)
        rw [show (isWord d0) = true from e0, Bool.true_and, show (isOneOf ["open", "sealed"] d1) = true from e1, Bool.true_and, Bool.eq_false_iff.mpr e2, Bool.false_and] at z0
        exact z0
      refine ⟨x3, rfl, x3, d3, 1, 12, f_is_class_name, isCname, rfl, (dp_keep (Same.trans (Same.trans (Same.refl H0) t1) t2) k3), o3, hS_is_class_name, fun H4 t4 => ⟨_, rfl, ite2 (fun e3 => ?_) (fun e3 => ?_)⟩⟩
      rotate_left
      · have z0 := q H4 (Same.trans (Same.trans (Same.trans (Same.refl H0) t1) t2) t4)
        rw [show (isWord d0) = true from e0, Bool.true_and, show (isOneOf ["open", "sealed"] d1) = true from e1, Bool.true_and, show (isBo d2) = true from e2, Bool.true_and, Bool.eq_false_iff.mpr e3, Bool.false_and] at z0
        exact z0
      refine ⟨x4, rfl, x4, d4, 0, 3, f_is_named_class, isNamed, rfl, (dp_keep (Same.trans (Same.trans (Same.trans (Same.refl H0) t1) t2) t4) k4), o4, hS_is_named_class, fun H5 t5 => ?_⟩
      have z0 := q H5 (Same.trans (Same.trans (Same.trans (Same.trans (Same.refl H0) t1) t2) t4) t5)
      rw [show (isWord d0) = true from e0, Bool.true_and, show (isOneOf ["open", "sealed"] d1) = true from e1, Bool.true_and, show (isBo d2) = true from e2, Bool.true_and, show (allOf 1 12 isCname d3) = true from e3, Bool.true_and] at z0
      exact z0
abbrev s_is_generic : Stmt := topS 50
theorem sc_is_generic : FnScope ["value", "name", "takes", "by", "gives"] ["value"] (defScope s_is_generic) := ⟨rfl, rfl, rfl, by decide +kernel, rfl, by decide +kernel, by decide +kernel⟩
theorem ok_is_generic {f : Addr} {fd : FuncData} (F : Fun K "is_generic" "is_generic" s_is_generic f fd) {f_is_sequence : Addr} {d_is_sequence : FuncData} (h_is_sequence : Hd K mg "is_sequence" s_is_sequence ["value", "least", "most"] f_is_sequence d_is_sequence) (G_is_sequence : FnOk P w K mg base CX0 1 f_is_sequence d_is_sequence ["value", "least", "most"] (spSeq K)) {f_is_name : Addr} {d_is_name : FuncData} (h_is_name : Hd K mg "is_name" s_is_name ["value"] f_is_name d_is_name) (G_is_name : FnOk P w K mg base CX0 2 f_is_name d_is_name ["value"] (sp1 K isName)) {f_are_all : Addr} {d_are_all : FuncData} (h_are_all : Hd K mg "are_all" s_are_all ["value", "least", "most", "test"] f_are_all d_are_all) (G_are_all : FnOk P w K mg base CX0 9 f_are_all d_are_all ["value", "least", "most", "test"] (spAll K S)) {f_is_class_name : Addr} {d_is_class_name : FuncData} (h_is_class_name : Hd K mg "is_class_name" s_is_class_name ["value"] f_is_class_name d_is_class_name) (G_is_class_name : FnOk P w K mg base CX0 3 f_is_class_name d_is_class_name ["value"] (sp1 K isCname)) {f_is_integer : Addr} {d_is_integer : FuncData} (h_is_integer : Hd K mg "is_integer" s_is_integer ["value", "least", "most"] f_is_integer d_is_integer) (G_is_integer : FnOk P w K mg base CX0 1 f_is_integer d_is_integer ["value", "least", "most"] (spInteger K)) {u_MOST_TAKES : Value} (h_MOST_TAKES : Cst K mg "MOST_TAKES" (.int 3) u_MOST_TAKES) (m_len : mg "len" = none) (hS_is_class_name : S f_is_class_name = some (sp1 K isCname)) : FnOk P w K mg base CX0 10 f fd ["value"] (sp1 K isGeneric) := by
  refine F.ok sc_is_generic (fun vs H Q E h => ?_) (fun cdv A outer s H vs Q E hr h => ?_)
  · obtain ⟨_, _, rfl, _⟩ := h
    rfl
  · obtain ⟨x, d, rfl, hx, hok, q⟩ := h
    refine ⟨_, (pss_cons (ps_if (pt_not (pt_val (pe_call G_is_sequence (hr.mono (by decide)) (by rfl) h_is_sequence.g h_is_sequence.F.kp h_is_sequence.b .nil pass0 (pa_cons (pv 0) (pa_cons pe_int (pa_cons pe_int pa_nil)))))) (pss_one (ps_ret pe_bl)) pss_nil)
  (pss_cons (ps_asg (pv 0) (pg_seq (n := 4) (by rfl) (pgs_cons (pg_name (i := 1) sc_is_generic.nd rfl (.inl rfl)) (pgs_cons (pg_name (i := 2) sc_is_generic.nd rfl (.inl rfl)) (pgs_cons (pg_name (i := 3) sc_is_generic.nd rfl (.inl rfl)) (pgs_cons (pg_name (i := 4) sc_is_generic.nd rfl (.inl rfl)) pgs_nil))))))
  (pss_one (ps_ret (pe_and (pe_call G_is_name (hr.mono (by decide)) (by rfl) h_is_name.g h_is_name.F.kp h_is_name.b .nil pass0 (pa_cons (pv 1) pa_nil)) (pe_and (pe_call G_are_all (hr.mono (by decide)) (by rfl) h_are_all.g h_are_all.F.kp h_are_all.b .nil pass0 (pa_cons (pv 2) (pa_cons pe_int (pa_cons (pe_glob (v := .int 3) rfl h_MOST_TAKES.g h_MOST_TAKES.r) (pa_cons (pe_glob (v := .ref f_is_class_name) rfl h_is_class_name.g rfl) pa_nil))))) (pe_and (pe_call G_is_integer (hr.mono (by decide)) (by rfl) h_is_integer.g h_is_integer.F.kp h_is_integer.b .nil pass0 (pa_cons (pv 3) (pa_cons pe_int (pa_cons (pe_callB call_len_seq (by rfl) m_len PySem.boot_len (pa_cons (pv 2) pa_nil)) pa_nil)))) (pe_one (pe_call G_is_class_name (hr.mono (by decide)) (by rfl) h_is_class_name.g h_is_class_name.F.kp h_is_class_name.b .nil pass0 (pa_cons (pv 4) pa_nil)))))))))), ?_⟩
    refine ⟨x, rfl, x, d, 4, 4, rfl, hx, fun H0 t0 => ⟨_, rfl, ?_⟩⟩
    cases e : isSeq 4 4 d with
    | false => exact iteT (by have z0 := q H0 t0; rw [isGeneric, e, Bool.false_and] at z0; exact z0)
    | true =>
      obtain ⟨a, xs, rfl, hq, hd, hl, hi⟩ := seq_of (dp_keep t0 hx) hok e
      have hn : (items d).length = 4 := seq_len e
      obtain ⟨x0, x1, x2, x3, d0, d1, d2, d3, rfl, hit, k0, k1, k2, k3⟩ := dps4 hd hn
      have o0 : Ok d0 := hi _ (by rw [hit]; simp)
      have o1 : Ok d1 := hi _ (by rw [hit]; simp)
      have o2 : Ok d2 := hi _ (by rw [hit]; simp)
      have o3 : Ok d3 := hi _ (by rw [hit]; simp)
      have hdef : isGeneric d = (isName d0 && (allOf 1 3 isCname d1 && (isInteger 1 ((items d1).length : Int) d2 && (isCname d3)))) := by
        rw [isGeneric, e, Bool.true_and]
        unfold get
        rw [hit]
        rfl
      have q : ∀ H', Same H0 H' → Q (.bl (isName d0 && (allOf 1 3 isCname d1 && (isInteger 1 ((items d1).length : Int) d2 && (isCname d3))))) H' := fun H' s' => by rw [← hdef]; exact q H' (t0.trans s')
      refine iteF ⟨.ref a, rfl, a, _, rfl, hq, rfl, _, _, rfl, _, _, rfl, _, _, rfl, _, _, rfl, rfl, ?_⟩
      refine ⟨x0, rfl, x0, d0, rfl, k0, o0, fun H1 t1 => ⟨_, rfl, ite2 (fun e0 => ?_) (fun e0 => ?_)⟩⟩
      rotate_left
      · have z0 := q H1 (Same.trans (Same.refl H0) t1)
        rw [Bool.eq_false_iff.mpr e0, Bool.false_and] at z0
        exact z0
      refine ⟨x1, rfl, x1, d1, 1, 3, f_is_class_name, isCname, rfl, (dp_keep (Same.trans (Same.refl H0) t1) k1), o1, hS_is_class_name, fun H2 t2 => ⟨_, rfl, ite2 (fun e1 => ?_) (fun e1 => ?_)⟩⟩
      rotate_left
      · have z0 := q H2 (Same.trans (Same.trans (Same.refl H0) t1) t2)
        rw [show (isName d0) = true from e0, Bool.true_and, Bool.eq_false_iff.mpr e1, Bool.false_and] at z0
        exact z0
      obtain ⟨ba, bx, rfl, bq, bd, bl, _⟩ := seq_of k1 o1 (Bool.and_eq_true_iff.mp (show (isSeq 1 3 d1 && (items d1).all isCname) = true from e1)).1
      refine ⟨x2, rfl, .ref ba, rfl, ba, bx, rfl, bq.keep (Same.trans (Same.trans (Same.refl H0) t1) t2), x2, d2, 1, (bx.length : Int), rfl, (dp_keep (Same.trans (Same.trans (Same.refl H0) t1) t2) k2), fun H3 t3 => ?_⟩
      rw [bl]
      refine ⟨_, rfl, ite2 (fun e2 => ?_) (fun e2 => ?_)⟩
      rotate_left
      · have z0 := q H3 (Same.trans (Same.trans (Same.trans (Same.refl H0) t1) t2) t3)
        rw [show (isName d0) = true from e0, Bool.true_and, show (allOf 1 3 isCname d1) = true from e1, Bool.true_and, Bool.eq_false_iff.mpr e2, Bool.false_and] at z0
        exact z0
      refine ⟨x3, rfl, x3, d3, rfl, (dp_keep (Same.trans (Same.trans (Same.trans (Same.refl H0) t1) t2) t3) k3), o3, fun H4 t4 => ?_⟩
      have z0 := q H4 (Same.trans (Same.trans (Same.trans (Same.trans (Same.refl H0) t1) t2) t3) t4)
      rw [show (isName d0) = true from e0, Bool.true_and, show (allOf 1 3 isCname d1) = true from e1, Bool.true_and, show (isInteger 1 ((items d1).length : Int) d2) = true from e2, Bool.true_and] at z0
      exact z0
abbrev s_is_method : Stmt := topS 51
theorem sc_is_method : FnScope ["value", "generic", "params", "body"] ["value"] (defScope s_is_method) := ⟨rfl, rfl, rfl, by decide +kernel, rfl, by decide +kernel, by decide +kernel⟩
theorem ok_is_method {f : Addr} {fd : FuncData} (F : Fun K "is_method" "is_method" s_is_method f fd) {f_is_sequence : Addr} {d_is_sequence : FuncData} (h_is_sequence : Hd K mg "is_sequence" s_is_sequence ["value", "least", "most"] f_is_sequence d_is_sequence) (G_is_sequence : FnOk P w K mg base CX0 1 f_is_sequence d_is_sequence ["value", "least", "most"] (spSeq K)) {f_is_generic_name : Addr} {d_is_generic_name : FuncData} (h_is_generic_name : Hd K mg "is_generic_name" s_is_generic_name ["value"] f_is_generic_name d_is_generic_name) (G_is_generic_name : FnOk P w K mg base CX0 3 f_is_generic_name d_is_generic_name ["value"] (sp1 K isGname)) {f_are_all : Addr} {d_are_all : FuncData} (h_are_all : Hd K mg "are_all" s_are_all ["value", "least", "most", "test"] f_are_all d_are_all) (G_are_all : FnOk P w K mg base CX0 9 f_are_all d_are_all ["value", "least", "most", "test"] (spAll K S)) {f_is_named_class : Addr} {d_is_named_class : FuncData} (h_is_named_class : Hd K mg "is_named_class" s_is_named_class ["value"] f_is_named_class d_is_named_class) {f_is_expression : Addr} {d_is_expression : FuncData} (h_is_expression : Hd K mg "is_expression" s_is_expression ["value"] f_is_expression d_is_expression) (G_is_expression : FnOk P w K mg base CX0 6 f_is_expression d_is_expression ["value"] (sp1 K isExpr)) {u_MOST_TAKES : Value} (h_MOST_TAKES : Cst K mg "MOST_TAKES" (.int 3) u_MOST_TAKES) (hS_is_named_class : S f_is_named_class = some (sp1 K isNamed)) : FnOk P w K mg base CX0 10 f fd ["value"] (sp1 K isMethod) := by
  refine F.ok sc_is_method (fun vs H Q E h => ?_) (fun cdv A outer s H vs Q E hr h => ?_)
  · obtain ⟨_, _, rfl, _⟩ := h
    rfl
  · obtain ⟨x, d, rfl, hx, hok, q⟩ := h
    refine ⟨_, (pss_cons (ps_if (pt_not (pt_val (pe_call G_is_sequence (hr.mono (by decide)) (by rfl) h_is_sequence.g h_is_sequence.F.kp h_is_sequence.b .nil pass0 (pa_cons (pv 0) (pa_cons pe_int (pa_cons pe_int pa_nil)))))) (pss_one (ps_ret pe_bl)) pss_nil)
  (pss_cons (ps_asg (pv 0) (pg_seq (n := 3) (by rfl) (pgs_cons (pg_name (i := 1) sc_is_method.nd rfl (.inl rfl)) (pgs_cons (pg_name (i := 2) sc_is_method.nd rfl (.inl rfl)) (pgs_cons (pg_name (i := 3) sc_is_method.nd rfl (.inl rfl)) pgs_nil)))))
  (pss_one (ps_ret (pe_and (pe_call G_is_generic_name (hr.mono (by decide)) (by rfl) h_is_generic_name.g h_is_generic_name.F.kp h_is_generic_name.b .nil pass0 (pa_cons (pv 1) pa_nil)) (pe_and (pe_call G_are_all (hr.mono (by decide)) (by rfl) h_are_all.g h_are_all.F.kp h_are_all.b .nil pass0 (pa_cons (pv 2) (pa_cons pe_int (pa_cons (pe_glob (v := .int 3) rfl h_MOST_TAKES.g h_MOST_TAKES.r) (pa_cons (pe_glob (v := .ref f_is_named_class) rfl h_is_named_class.g rfl) pa_nil))))) (pe_one (pe_call G_is_expression (hr.mono (by decide)) (by rfl) h_is_expression.g h_is_expression.F.kp h_is_expression.b .nil pass0 (pa_cons (pv 3) pa_nil))))))))), ?_⟩
    refine ⟨x, rfl, x, d, 3, 3, rfl, hx, fun H0 t0 => ⟨_, rfl, ?_⟩⟩
    cases e : isSeq 3 3 d with
    | false => exact iteT (by have z0 := q H0 t0; rw [isMethod, e, Bool.false_and] at z0; exact z0)
    | true =>
      obtain ⟨a, xs, rfl, hq, hd, hl, hi⟩ := seq_of (dp_keep t0 hx) hok e
      have hn : (items d).length = 3 := seq_len e
      obtain ⟨x0, x1, x2, d0, d1, d2, rfl, hit, k0, k1, k2⟩ := dps3 hd hn
      have o0 : Ok d0 := hi _ (by rw [hit]; simp)
      have o1 : Ok d1 := hi _ (by rw [hit]; simp)
      have o2 : Ok d2 := hi _ (by rw [hit]; simp)
      have hdef : isMethod d = (isGname d0 && (allOf 1 3 isNamed d1 && (isExpr d2))) := by
        rw [isMethod, e, Bool.true_and]
        unfold get
        rw [hit]
        rfl
      have q : ∀ H', Same H0 H' → Q (.bl (isGname d0 && (allOf 1 3 isNamed d1 && (isExpr d2)))) H' := fun H' s' => by rw [← hdef]; exact q H' (t0.trans s')
      refine iteF ⟨.ref a, rfl, a, _, rfl, hq, rfl, _, _, rfl, _, _, rfl, _, _, rfl, rfl, ?_⟩
      refine ⟨x0, rfl, x0, d0, rfl, k0, o0, fun H1 t1 => ⟨_, rfl, ite2 (fun e0 => ?_) (fun e0 => ?_)⟩⟩
      rotate_left
      · have z0 := q H1 (Same.trans (Same.refl H0) t1)
        rw [Bool.eq_false_iff.mpr e0, Bool.false_and] at z0
        exact z0
      refine ⟨x1, rfl, x1, d1, 1, 3, f_is_named_class, isNamed, rfl, (dp_keep (Same.trans (Same.refl H0) t1) k1), o1, hS_is_named_class, fun H2 t2 => ⟨_, rfl, ite2 (fun e1 => ?_) (fun e1 => ?_)⟩⟩
      rotate_left
      · have z0 := q H2 (Same.trans (Same.trans (Same.refl H0) t1) t2)
        rw [show (isGname d0) = true from e0, Bool.true_and, Bool.eq_false_iff.mpr e1, Bool.false_and] at z0
        exact z0
      refine ⟨x2, rfl, x2, d2, rfl, (dp_keep (Same.trans (Same.trans (Same.refl H0) t1) t2) k2), o2, fun H3 t3 => ?_⟩
      have z0 := q H3 (Same.trans (Same.trans (Same.trans (Same.refl H0) t1) t2) t3)
      rw [show (isGname d0) = true from e0, Bool.true_and, show (allOf 1 3 isNamed d1) = true from e1, Bool.true_and] at z0
      exact z0
abbrev s_is_module : Stmt := topS 46
theorem sc_is_module : FnScope ["value", "name", "uses", "classes", "generics", "methods"] ["value"] (defScope s_is_module) := ⟨rfl, rfl, rfl, by decide +kernel, rfl, by decide +kernel, by decide +kernel⟩
theorem ok_is_module {f : Addr} {fd : FuncData} (F : Fun K "is_module" "is_module" s_is_module f fd) {f_is_sequence : Addr} {d_is_sequence : FuncData} (h_is_sequence : Hd K mg "is_sequence" s_is_sequence ["value", "least", "most"] f_is_sequence d_is_sequence) (G_is_sequence : FnOk P w K mg base CX0 1 f_is_sequence d_is_sequence ["value", "least", "most"] (spSeq K)) {f_is_name : Addr} {d_is_name : FuncData} (h_is_name : Hd K mg "is_name" s_is_name ["value"] f_is_name d_is_name) (G_is_name : FnOk P w K mg base CX0 2 f_is_name d_is_name ["value"] (sp1 K isName)) {f_are_all : Addr} {d_are_all : FuncData} (h_are_all : Hd K mg "are_all" s_are_all ["value", "least", "most", "test"] f_are_all d_are_all) (G_are_all : FnOk P w K mg base CX0 11 f_are_all d_are_all ["value", "least", "most", "test"] (spAll K S)) {f_is_class : Addr} {d_is_class : FuncData} (h_is_class : Hd K mg "is_class" s_is_class ["value"] f_is_class d_is_class) {f_is_generic : Addr} {d_is_generic : FuncData} (h_is_generic : Hd K mg "is_generic" s_is_generic ["value"] f_is_generic d_is_generic) {f_is_method : Addr} {d_is_method : FuncData} (h_is_method : Hd K mg "is_method" s_is_method ["value"] f_is_method d_is_method) {u_MOST_USES : Value} (h_MOST_USES : Cst K mg "MOST_USES" (.int 4) u_MOST_USES) {u_MOST_CLASSES : Value} (h_MOST_CLASSES : Cst K mg "MOST_CLASSES" (.int 6) u_MOST_CLASSES) {u_MOST_GENERICS : Value} (h_MOST_GENERICS : Cst K mg "MOST_GENERICS" (.int 3) u_MOST_GENERICS) {u_MOST_METHODS : Value} (h_MOST_METHODS : Cst K mg "MOST_METHODS" (.int 8) u_MOST_METHODS) (hS_is_name : S f_is_name = some (sp1 K isName)) (hS_is_class : S f_is_class = some (sp1 K isClass)) (hS_is_generic : S f_is_generic = some (sp1 K isGeneric)) (hS_is_method : S f_is_method = some (sp1 K isMethod)) : FnOk P w K mg base CX0 12 f fd ["value"] (sp1 K isModule) := by
  refine F.ok sc_is_module (fun vs H Q E h => ?_) (fun cdv A outer s H vs Q E hr h => ?_)
  · obtain ⟨_, _, rfl, _⟩ := h
    rfl
  · obtain ⟨x, d, rfl, hx, hok, q⟩ := h
    refine ⟨_, (pss_cons (ps_if (pt_not (pt_val (pe_call G_is_sequence (hr.mono (by decide)) (by rfl) h_is_sequence.g h_is_sequence.F.kp h_is_sequence.b .nil pass0 (pa_cons (pv 0) (pa_cons pe_int (pa_cons pe_int pa_nil)))))) (pss_one (ps_ret pe_bl)) pss_nil)
  (pss_cons (ps_asg (pv 0) (pg_seq (n := 5) (by rfl) (pgs_cons (pg_name (i := 1) sc_is_module.nd rfl (.inl rfl)) (pgs_cons (pg_name (i := 2) sc_is_module.nd rfl (.inl rfl)) (pgs_cons (pg_name (i := 3) sc_is_module.nd rfl (.inl rfl)) (pgs_cons (pg_name (i := 4) sc_is_module.nd rfl (.inl rfl)) (pgs_cons (pg_name (i := 5) sc_is_module.nd rfl (.inl rfl)) pgs_nil)))))))
  (pss_one (ps_ret (pe_and (pe_call G_is_name (hr.mono (by decide)) (by rfl) h_is_name.g h_is_name.F.kp h_is_name.b .nil pass0 (pa_cons (pv 1) pa_nil)) (pe_and (pe_call G_are_all (hr.mono (by decide)) (by rfl) h_are_all.g h_are_all.F.kp h_are_all.b .nil pass0 (pa_cons (pv 2) (pa_cons pe_int (pa_cons (pe_glob (v := .int 4) rfl h_MOST_USES.g h_MOST_USES.r) (pa_cons (pe_glob (v := .ref f_is_name) rfl h_is_name.g rfl) pa_nil))))) (pe_and (pe_call G_are_all (hr.mono (by decide)) (by rfl) h_are_all.g h_are_all.F.kp h_are_all.b .nil pass0 (pa_cons (pv 3) (pa_cons pe_int (pa_cons (pe_glob (v := .int 6) rfl h_MOST_CLASSES.g h_MOST_CLASSES.r) (pa_cons (pe_glob (v := .ref f_is_class) rfl h_is_class.g rfl) pa_nil))))) (pe_and (pe_call G_are_all (hr.mono (by decide)) (by rfl) h_are_all.g h_are_all.F.kp h_are_all.b .nil pass0 (pa_cons (pv 4) (pa_cons pe_int (pa_cons (pe_glob (v := .int 3) rfl h_MOST_GENERICS.g h_MOST_GENERICS.r) (pa_cons (pe_glob (v := .ref f_is_generic) rfl h_is_generic.g rfl) pa_nil))))) (pe_one (pe_call G_are_all (hr.mono (by decide)) (by rfl) h_are_all.g h_are_all.F.kp h_are_all.b .nil pass0 (pa_cons (pv 5) (pa_cons pe_int (pa_cons (pe_glob (v := .int 8) rfl h_MOST_METHODS.g h_MOST_METHODS.r) (pa_cons (pe_glob (v := .ref f_is_method) rfl h_is_method.g rfl) pa_nil)))))))))))))), ?_⟩
    refine ⟨x, rfl, x, d, 5, 5, rfl, hx, fun H0 t0 => ⟨_, rfl, ?_⟩⟩
    cases e : isSeq 5 5 d with
    | false => exact iteT (by have z0 := q H0 t0; rw [isModule, e, Bool.false_and] at z0; exact z0)
    | true =>
      obtain ⟨a, xs, rfl, hq, hd, hl, hi⟩ := seq_of (dp_keep t0 hx) hok e
      have hn : (items d).length = 5 := seq_len e
      obtain ⟨x0, x1, x2, x3, x4, d0, d1, d2, d3, d4, rfl, hit, k0, k1, k2, k3, k4⟩ := dps5 hd hn
      have o0 : Ok d0 := hi _ (by rw [hit]; simp)
      have o1 : Ok d1 := hi _ (by rw [hit]; simp)
      have o2 : Ok d2 := hi _ (by rw [hit]; simp)
      have o3 : Ok d3 := hi _ (by rw [hit]; simp)
      have o4 : Ok d4 := hi _ (by rw [hit]; simp)
      have hdef : isModule d = (isName d0 && (allOf 0 4 isName d1 && (allOf 0 6 isClass d2 && (allOf 0 3 isGeneric d3 && (allOf 0 8 isMethod d4))))) := by
        rw [isModule, e, Bool.true_and]
        unfold get
        rw [hit]
        rfl
      have q : ∀ H', Same H0 H' → Q (.bl (isName d0 && (allOf 0 4 isName d1 && (allOf 0 6 isClass d2 && (allOf 0 3 isGeneric d3 && (allOf 0 8 isMethod d4)))))) H' := fun H' s' => by rw [← hdef]; exact q H' (t0.trans s')
      refine iteF ⟨.ref a, rfl, a, _, rfl, hq, rfl, _, _, rfl, _, _, rfl, _, _, rfl, _, _, rfl, _, _, rfl, rfl, ?_⟩
      refine ⟨x0, rfl, x0, d0, rfl, k0, o0, fun H1 t1 => ⟨_, rfl, ite2 (fun e0 => ?_) (fun e0 => ?_)⟩⟩
      rotate_left
      · have z0 := q H1 (Same.trans (Same.refl H0) t1)
        rw [Bool.eq_false_iff.mpr e0, Bool.false_and] at z0
        exact z0
      refine ⟨x1, rfl, x1, d1, 0, 4, f_is_name, isName, rfl, (dp_keep (Same.trans (Same.refl H0) t1) k1), o1, hS_is_name, fun H2 t2 => ⟨_, rfl, ite2 (fun e1 => ?_) (fun e1 => ?_)⟩⟩
      rotate_left
      · have z0 := q H2 (Same.trans (Same.trans (Same.refl H0) t1) t2)
        rw [show (isName d0) = true from e0, Bool.true_and, Bool.eq_false_iff.mpr e1, Bool.false_and] at z0
        exact z0
      refine ⟨x2, rfl, x2, d2, 0, 6, f_is_class, isClass, rfl, (dp_keep (Same.trans (Same.trans (Same.refl H0) t1) t2) k2), o2, hS_is_class, fun H3 t3 => ⟨_, rfl, ite2 (fun e2 => ?_) (fun e2 => ?_)⟩⟩
      rotate_left
      · have z0 := q H3 (Same.trans (Same.trans (Same.trans (Same.refl H0) t1) t2) t3)
        rw [show (isName d0) = true from e0, Bool.true_and, show (allOf 0 4 isName d1) = true from e1, Bool.true_and, Bool.eq_false_iff.mpr e2, Bool.false_and] at z0
        exact z0
      refine ⟨x3, rfl, x3, d3, 0, 3, f_is_generic, isGeneric, rfl, (dp_keep (Same.trans (Same.trans (Same.trans (Same.refl H0) t1) t2) t3) k3), o3, hS_is_generic, fun H4 t4 => ⟨_, rfl, ite2 (fun e3 => ?_) (fun e3 => ?_)⟩⟩
      rotate_left
      · have z0 := q H4 (Same.trans (Same.trans (Same.trans (Same.trans (Same.refl H0) t1) t2) t3) t4)
        rw [show (isName d0) = true from e0, Bool.true_and, show (allOf 0 4 isName d1) = true from e1, Bool.true_and, show (allOf 0 6 isClass d2) = true from e2, Bool.true_and, Bool.eq_false_iff.mpr e3, Bool.false_and] at z0
        exact z0
      refine ⟨x4, rfl, x4, d4, 0, 8, f_is_method, isMethod, rfl, (dp_keep (Same.trans (Same.trans (Same.trans (Same.trans (Same.refl H0) t1) t2) t3) t4) k4), o4, hS_is_method, fun H5 t5 => ?_⟩
      have z0 := q H5 (Same.trans (Same.trans (Same.trans (Same.trans (Same.trans (Same.refl H0) t1) t2) t3) t4) t5)
      rw [show (isName d0) = true from e0, Bool.true_and, show (allOf 0 4 isName d1) = true from e1, Bool.true_and, show (allOf 0 6 isClass d2) = true from e2, Bool.true_and, show (allOf 0 3 isGeneric d3) = true from e3, Bool.true_and] at z0
      exact z0
end
end Cw

set_option Elab.async false
set_option linter.all false
set_option maxRecDepth 100000
set_option maxHeartbeats 4000000
namespace Cw
open PySem PySem.Spec PyProof.Rows L2
def isWhole : PyData → Bool | .int _ => true | _ => false
def reserved19 : List Str := reserved ++ [("base" : Str)]
def spReserved : Sp := fun vs H Q _ => vs = [] ∧ ∀ L H', Same H H' → H L = none → H' L = some (.lst (reserved19.map V.str)) → Q (.ref L) H'
section
variable {P : Program} {w : World} {K : PySem.W.Frag} {mg : Str → Option Value} {base : Heap} {S : Addr → Option Sp}
abbrev s__law_reserved : Stmt := topS 115
theorem sc__law_reserved : FnScope ["first"] [] (defScope s__law_reserved) := ⟨rfl, rfl, rfl, by decide +kernel, rfl, by decide +kernel, by decide +kernel⟩
theorem ok__law_reserved {f : Addr} {fd : FuncData} (F : Fun K "_law_reserved" "_law_reserved" s__law_reserved f fd) : FnOk P w K mg base CX0 1 f fd [] (spReserved) := by
  refine F.ok sc__law_reserved (fun vs H Q E h => ?_) (fun cdv A outer s H vs Q E hr h => ?_)
  · obtain ⟨rfl, _⟩ := h
    rfl
  · obtain ⟨rfl, q⟩ := h
    refine ⟨_, (pss_cons (ps_set (i := 0) sc__law_reserved.nd rfl (.inl rfl) (pe_lst (pa_cons pe_str (pa_cons pe_str (pa_cons pe_str (pa_cons pe_str (pa_cons pe_str (pa_cons pe_str (pa_cons pe_str (pa_cons pe_str (pa_cons pe_str pa_nil)))))))))))
  (pss_one (ps_ret (pe_op op_cat (pv 0) (pe_lst (pa_cons pe_str (pa_cons pe_str (pa_cons pe_str (pa_cons pe_str (pa_cons pe_str (pa_cons pe_str (pa_cons pe_str (pa_cons pe_str (pa_cons pe_str (pa_cons pe_str pa_nil))))))))))))))), ?_⟩
    refine ⟨by show 9 ≤ sizeLine; decide, fun a ha => ?_⟩
    dsimp only
    refine nameA ?_
    refine retA ?_
    refine ⟨.ref a, rfl, by show 10 ≤ sizeLine; decide, fun b hb => ?_⟩
    have ab : a ≠ b := fun k => by rw [← k, upd_same] at hb; cases hb
    refine ⟨a, b, _, _, rfl, rfl, by rw [upd_ne ab]; exact upd_same, upd_same, by decide, fun L hL => ?_⟩
    exact q L _ (((same_upd ha).trans (same_upd hb)).trans (same_upd hL)) (((same_upd ha).trans (same_upd hb)).free hL) upd_same
end
end Cw

set_option Elab.async false
set_option linter.all false
set_option maxRecDepth 100000
set_option maxHeartbeats 4000000
namespace Cw
open PySem PySem.Spec PyProof.Rows L2
/-! ### names that are drawn: the search for a free one -/
def Lc (z : Str) : List Nat := z.cps.toList
theorem Lc_app (x y : Str) : Lc (x ++ y) = Lc x ++ Lc y := by
  show (x.cps ++ y.cps).toList = _
  rw [Array.toList_append]
  rfl
theorem Lc_len (z : Str) : (Lc z).length = z.length := Array.length_toList
theorem Lc_inj {x y : Str} (h : Lc x = Lc y) : x = y := by
  obtain ⟨⟨a⟩⟩ := x
  obtain ⟨⟨b⟩⟩ := y
  have h : a = b := h
  rw [h]
theorem Lc_one (c : Nat) : Lc (⟨#[c]⟩ : Str) = [c] := rfl
theorem cut_take (z : Str) (n : Nat) : Lc (cutS z none (some (n : Int))) = (Lc z).take n := by
  show ((z.cps.toList.drop (HT.sIx z.length 0 none)).take (HT.sIx z.length z.length (some (n : Int)) - HT.sIx z.length 0 none)).toArray.toList = _
  rw [HT.sIx_none, show HT.sIx z.length z.length (some (n : Int)) = min n z.length from HT.sIx_nat _ _ _, List.toList_toArray, List.drop_zero, Nat.sub_zero]
  show z.cps.toList.take (min n z.cps.size) = z.cps.toList.take n
  rw [← Array.length_toList]
  by_cases h : n ≤ z.cps.toList.length
  · rw [Nat.min_eq_left h]
  · rw [Nat.min_eq_right (by omega), List.take_of_length_le (Nat.le_refl _), List.take_of_length_le (by omega)]
theorem cut_drop (z : Str) (n : Nat) : Lc (cutS z (some (n : Int)) none) = (Lc z).drop n := by
  show ((z.cps.toList.drop (HT.sIx z.length 0 (some (n : Int)))).take (HT.sIx z.length z.length none - HT.sIx z.length 0 (some (n : Int)))).toArray.toList = _
  rw [HT.sIx_none, show HT.sIx z.length 0 (some (n : Int)) = min n z.length from HT.sIx_nat _ _ _, List.toList_toArray]
  show (z.cps.toList.drop (min n z.cps.size)).take (z.cps.size - min n z.cps.size) = z.cps.toList.drop n
  rw [← Array.length_toList]
  by_cases h : n ≤ z.cps.toList.length
  · rw [Nat.min_eq_left h, List.take_of_length_le (by rw [List.length_drop]; exact Nat.le_refl _)]
  · rw [Nat.min_eq_right (by omega), Nat.sub_self, List.take_zero, List.drop_of_length_le (by omega)]
theorem alpha_at {i : Nat} (h : i < 26) : (PySem.Str.ofString "abcdefghijklmnopqrstuvwxyz").cps.toList[i]? = some (97 + i) := by
  have e : (PySem.Str.ofString "abcdefghijklmnopqrstuvwxyz").cps.toList = (List.range 26).map (97 + ·) := by decide +kernel
  rw [e, List.getElem?_map, List.getElem?_range h]
  rfl
theorem upper_at {i : Nat} (h : i < 26) : (PySem.Str.ofString "ABCDEFGHIJKLMNOPQRSTUVWXYZ").cps.toList[i]? = some (65 + i) := by
  have e : (PySem.Str.ofString "ABCDEFGHIJKLMNOPQRSTUVWXYZ").cps.toList = (List.range 26).map (65 + ·) := by decide +kernel
  rw [e, List.getElem?_map, List.getElem?_range h]
  rfl
theorem low_c {i : Nat} (h : i < 26) : lowC (97 + i) = true := decide_eq_true ⟨by omega, by omega⟩
theorem up_c {i : Nat} (h : i < 26) : upC (65 + i) = true := decide_eq_true ⟨by omega, by omega⟩
theorem nodup_le {α : Type} : ∀ (S ks : List α), S.Nodup → (∀ x, x ∈ S → x ∈ ks) → S.length ≤ ks.length
  | [], _, _, _ => Nat.zero_le _
  | x :: S, ks, hn, h => by
    obtain ⟨a, b, rfl⟩ := List.append_of_mem (h x List.mem_cons_self)
    rw [List.nodup_cons] at hn
    have := nodup_le S (a ++ b) hn.2 fun y m => by
      have := h y (List.mem_cons_of_mem _ m)
      simp only [List.mem_append, List.mem_cons] at this ⊢
      rcases this with h | rfl | h
      · exact .inl h
      · exact absurd m hn.1
      · exact .inr h
    simp only [List.length_append, List.length_cons] at this ⊢
    omega
theorem nodup_of_map {α β : Type} (f : α → β) : ∀ {l : List α}, (l.map f).Nodup → l.Nodup
  | [], _ => List.nodup_nil
  | x :: l, h => by
    rw [List.map_cons, List.nodup_cons] at h
    rw [List.nodup_cons]
    exact ⟨fun m => h.1 (List.mem_map_of_mem m), nodup_of_map f h.2⟩
/-- a turn of the search -/
def stepL (i : Nat) (l : List Nat) : List Nat := if 10 < i then (l.take 11 ++ [97 + i % 26]).drop 1 ++ [122] else l.take 11 ++ [97 + i % 26]
/-- what holds before turn i: the length, the letters, which names were taken -/
def NInv (ks : List (List Nat)) (i : Nat) (l : List Nat) : Prop :=
  l.all lowC = true ∧ 1 ≤ l.length ∧ l.length ≤ 12 ∧ min 12 (i + 1) ≤ l.length ∧ (12 ≤ i → l[10]? = some (97 + (i - 1) % 26)) ∧
  ∃ S : List (List Nat), S.length = i - 12 ∧ (∀ x, x ∈ S → x ∈ ks) ∧ S.map (·[10]?) = (List.range' 12 (i - 12)).map fun j => some (97 + (j - 1) % 26)
theorem NInv.start {ks : List (List Nat)} {l : List Nat} (h1 : l.all lowC = true) (h2 : 1 ≤ l.length) (h3 : l.length ≤ 12) : NInv ks 0 l :=
  ⟨h1, h2, h3, by omega, fun h => absurd h (by decide), [], rfl, (fun _ m => by cases m), rfl⟩
theorem NInv.step {ks : List (List Nat)} {i : Nat} {l : List Nat} (h : NInv ks i l) (g : 12 ≤ i → l ∈ ks) : NInv ks (i + 1) (stepL i l) := by
  obtain ⟨h1, h2, h3, h4, h5, S, s1, s2, s3⟩ := h
  have hc := low_c (Nat.mod_lt i (by decide : 0 < 26))
  have t1 : (l.take 11 ++ [97 + i % 26]).all lowC = true := by
    rw [List.all_append, List.all_cons, hc, List.all_nil, Bool.and_true, Bool.and_true]
    exact List.all_eq_true.mpr fun x m => List.all_eq_true.mp h1 x (List.mem_of_mem_take m)
  have l1 : (l.take 11 ++ [97 + i % 26]).length = min 11 l.length + 1 := by rw [List.length_append, List.length_take]; rfl
  have hS : ∃ S : List (List Nat), S.length = i + 1 - 12 ∧ (∀ x, x ∈ S → x ∈ ks) ∧ S.map (·[10]?) = (List.range' 12 (i + 1 - 12)).map fun j => some (97 + (j - 1) % 26) := by
    by_cases hi : 12 ≤ i
    · refine ⟨S ++ [l], by rw [List.length_append, s1]; show _ + 1 = _; omega, fun x m => ?_, ?_⟩
      · rcases List.mem_append.mp m with m | m
        · exact s2 x m
        · rw [List.mem_singleton.mp m]; exact g hi
      · rw [List.map_append, s3, show i + 1 - 12 = (i - 12) + 1 by omega, List.range'_concat, List.map_append]
        congr 1
        show [l[10]?] = [some (97 + (12 + 1 * (i - 12) - 1) % 26)]
        rw [h5 hi, show 12 + 1 * (i - 12) - 1 = i - 1 by omega]
    · exact ⟨[], by show 0 = _; omega, (fun _ m => by cases m), by rw [show i + 1 - 12 = 0 by omega]; rfl⟩
  unfold stepL
  by_cases hi : 10 < i
  · rw [if_pos hi]
    have hl : l.length = 12 := by omega
    have l2 : ((l.take 11 ++ [97 + i % 26]).drop 1 ++ [122]).length = 12 := by
      rw [List.length_append, List.length_drop, l1, hl]; rfl
    refine ⟨?_, by omega, by omega, by omega, fun _ => ?_, hS⟩
    · rw [List.all_append, Bool.and_eq_true]
      exact ⟨List.all_eq_true.mpr fun x m => List.all_eq_true.mp t1 x (List.mem_of_mem_drop m), by decide⟩
    · have l3 : ((l.take 11 ++ [97 + i % 26]).drop 1).length = 11 := by rw [List.length_drop, l1, hl]; rfl
      rw [List.getElem?_append_left (by omega), List.getElem?_drop, List.getElem?_append_right (by rw [List.length_take, hl]; decide), List.length_take, hl]
      show some (97 + i % 26) = some (97 + (i + 1 - 1) % 26)
      rw [Nat.add_sub_cancel]
  · rw [if_neg hi]
    exact ⟨t1, by omega, by omega, by omega, fun h => absurd h (by omega), hS⟩
theorem NInv.end_ {ks : List (List Nat)} {l : List Nat} (h : NInv ks 30 l) : 18 ≤ ks.length := by
  obtain ⟨_, _, _, _, _, S, s1, s2, s3⟩ := h
  have hn : S.Nodup := nodup_of_map (·[10]?) (by rw [s3]; decide)
  have := nodup_le S ks hn s2
  omega
/-- the same for words -/
def stepW (i : Nat) (l : List Nat) : List Nat := (65 + i % 26) :: l.drop 1
def WInv (ks : List (List Nat)) (i : Nat) (l : List Nat) : Prop :=
  (∃ c r, l = c :: r ∧ upC c = true ∧ r.all lowC = true ∧ r.length ≤ 11) ∧ (1 ≤ i → l.head? = some (65 + (i - 1) % 26)) ∧
  ∃ S : List (List Nat), S.length = i - 1 ∧ (∀ x, x ∈ S → x ∈ ks) ∧ S.map (·.head?) = (List.range' 1 (i - 1)).map fun j => some (65 + (j - 1) % 26)
theorem WInv.start {ks : List (List Nat)} {c : Nat} {r : List Nat} (h1 : upC c = true) (h2 : r.all lowC = true) (h3 : r.length ≤ 11) : WInv ks 0 (c :: r) :=
  ⟨⟨c, r, rfl, h1, h2, h3⟩, fun h => absurd h (by decide), [], rfl, (fun _ m => by cases m), rfl⟩
theorem WInv.step {ks : List (List Nat)} {i : Nat} {l : List Nat} (h : WInv ks i l) (g : l ∈ ks) : WInv ks (i + 1) (stepW i l) := by
  obtain ⟨⟨c, r, rfl, h1, h2, h3⟩, h5, S, s1, s2, s3⟩ := h
  refine ⟨⟨_, r, rfl, up_c (Nat.mod_lt i (by decide : 0 < 26)), h2, h3⟩, fun _ => by rw [Nat.add_sub_cancel]; rfl, ?_⟩
  by_cases hi : 1 ≤ i
  · refine ⟨S ++ [c :: r], by rw [List.length_append, s1]; show _ + 1 = _; omega, fun x m => ?_, ?_⟩
    · rcases List.mem_append.mp m with m | m
      · exact s2 x m
      · rw [List.mem_singleton.mp m]; exact g
    · rw [List.map_append, s3, show i + 1 - 1 = (i - 1) + 1 by omega, List.range'_concat, List.map_append]
      congr 1
      show [(c :: r).head?] = [some (65 + (1 + 1 * (i - 1) - 1) % 26)]
      rw [h5 hi, show 1 + 1 * (i - 1) - 1 = i - 1 by omega]
  · exact ⟨[], by show 0 = _; omega, (fun _ m => by cases m), by rw [show i + 1 - 1 = 0 by omega]; rfl⟩
theorem WInv.end_ {ks : List (List Nat)} {l : List Nat} (h : WInv ks 27 l) : 26 ≤ ks.length := by
  obtain ⟨_, _, S, s1, s2, s3⟩ := h
  have hn : S.Nodup := nodup_of_map (·.head?) (by rw [s3]; decide)
  have := nodup_le S ks hn s2
  omega
/-- the texts among the keys of a dict -/
def keysL (kv : List (Key × V)) : List (List Nat) := kv.filterMap fun p => match p.1 with | .inr z => some (Lc z) | .inl _ => none
theorem keysL_len (kv : List (Key × V)) : (keysL kv).length ≤ kv.length := List.length_filterMap_le _ _
theorem keysL_mem {kv : List (Key × V)} {z : Str} (h : (valV kv (.inr z)).isSome = true) : Lc z ∈ keysL kv := by
  unfold valV at h
  rw [Option.isSome_map, List.find?_isSome] at h
  obtain ⟨p, m, e⟩ := h
  have e : p.1 = .inr z := of_decide_eq_true e
  exact List.mem_filterMap.mpr ⟨p, m, by rw [e]⟩
theorem name_of {z : Str} (h1 : (Lc z).all lowC = true) (h2 : 1 ≤ (Lc z).length) (h3 : (Lc z).length ≤ 12) (h4 : z ∉ reserved19) : isNameS z = true ∧ z ≠ "base" := by
  rw [Lc_len] at h2 h3
  have e : reserved19 = reserved ++ (["base"] : List Str) := by decide
  rw [e, List.mem_append, not_or] at h4
  refine ⟨?_, fun k => h4.2 (by rw [k]; exact List.mem_singleton.mpr rfl)⟩
  rw [isNameS_in h2 h3 h1, Bool.not_eq_true', ← Bool.not_eq_true, List.contains_iff_mem]
  exact h4.1
theorem res_short {z : Str} (h : z ∈ reserved19) : (Lc z).length ≤ 8 := by
  have : ∀ y ∈ reserved19, (Lc y).length ≤ 8 := by decide
  exact this z h
theorem word_of {z : Str} {c : Nat} {r : List Nat} (e : Lc z = c :: r) (h1 : upC c = true) (h2 : r.all lowC = true) (h3 : r.length ≤ 11) : isWordS z = true := by
  have hl : z.length = r.length + 1 := by rw [← Lc_len, e]; rfl
  rw [isWordS_in (by omega) (by omega) e, h1, h2]
  rfl
/-! ### a name made of a module's name and a word -/
theorem part_mk {m c : Str} (h : 46 ∉ Lc m) : Txt.partition (m ++ ("." : Str) ++ c) "." = (m, ("." : Str), c) := by
  have eL : Lc (m ++ ("." : Str) ++ c) = Lc m ++ 46 :: Lc c := by
    rw [Lc_app, Lc_app, List.append_assoc]
    rfl
  have at_ : ∀ i, StrLaws.At (m ++ ("." : Str) ++ c) "." (m ++ ("." : Str) ++ c).length i ↔ (Lc m ++ 46 :: Lc c)[i]? = some 46 := fun i => by
    rw [← eL]
    exact StrLaws.subAt_one _ 46 i
  have hm : (Lc m ++ 46 :: Lc c)[(Lc m).length]? = some 46 := by
    rw [List.getElem?_append_right (Nat.le_refl _), Nat.sub_self]
    rfl
  rcases PyProof.Rows.partition_whole (m ++ ("." : Str) ++ c) "." with ⟨_, e⟩ | ⟨i, e, hi, hk⟩
  · exact absurd ((at_ _).mpr hm) (e _)
  · have h1 := (at_ i).mp hi
    have e2 : i = (Lc m).length := by
      rcases Nat.lt_trichotomy i (Lc m).length with g | g | g
      · rw [List.getElem?_append_left g] at h1
        exact absurd (List.mem_of_getElem? h1) h
      · exact g
      · exact absurd ((at_ _).mpr hm) (hk _ g)
    subst e2
    rw [e]
    have l1 : Builtin.Str.strSub (m ++ ("." : Str) ++ c) 0 (Lc m).length = m := by
      apply Lc_inj
      show ((m ++ ("." : Str) ++ c).cps.extract 0 (Lc m).length).toList = _
      rw [Array.toList_extract, List.extract_eq_drop_take, show (m ++ ("." : Str) ++ c).cps.toList = _ from eL]
      simp
    have l2 : Builtin.Str.strSub (m ++ ("." : Str) ++ c) ((Lc m).length + ("." : Str).length) (m ++ ("." : Str) ++ c).length = c := by
      apply Lc_inj
      show ((m ++ ("." : Str) ++ c).cps.extract ((Lc m).length + 1) (m ++ ("." : Str) ++ c).length).toList = _
      rw [Array.toList_extract, List.extract_eq_drop_take, show (m ++ ("." : Str) ++ c).cps.toList = _ from eL, ← Lc_len, eL]
      rw [show Lc m ++ 46 :: Lc c = (Lc m ++ [46]) ++ Lc c by simp, show (Lc m).length + 1 = (Lc m ++ [46]).length by simp, List.drop_left, List.length_append, Nat.add_sub_cancel_left, List.take_of_length_le (Nat.le_refl _)]
    rw [l1, l2]
theorem name_nodot {m : Str} (h : isNameS m = true) : 46 ∉ Lc m := fun k => by
  unfold isNameS at h
  rw [Bool.and_eq_true, Bool.and_eq_true] at h
  have := List.all_eq_true.mp (show (Lc m).all lowC = true from h.1.2) 46 k
  revert this
  decide
theorem cname_mk {m c : Str} (h : isNameS m = true) (g : isWordS c = true) : isCname (.str (m ++ ("." : Str) ++ c)) = true := by
  show (isName (.str (Txt.partition (m ++ ("." : Str) ++ c) ".").1) && isWord (.str (Txt.partition (m ++ ("." : Str) ++ c) ".").2.2)) = true
  rw [part_mk (name_nodot h)]
  show (isNameS m && isWordS c) = true
  rw [h, g]
  rfl
theorem gname_mk {m c : Str} (h : isNameS m = true) (g : isNameS c = true) : isGname (.str (m ++ ("." : Str) ++ c)) = true := by
  show (isName (.str (Txt.partition (m ++ ("." : Str) ++ c) ".").1) && isName (.str (Txt.partition (m ++ ("." : Str) ++ c) ".").2.2)) = true
  rw [part_mk (name_nodot h)]
  show (isNameS m && isNameS c) = true
  rw [h, g]
  rfl
theorem name_le {z : Str} (h : isNameS z = true) : 1 ≤ z.length ∧ z.length ≤ 12 := by
  unfold isNameS at h
  rw [Bool.and_eq_true, Bool.and_eq_true, Bool.and_eq_true, decide_eq_true_iff, decide_eq_true_iff] at h
  exact h.1.1
theorem word_le {z : Str} (h : isWordS z = true) : 1 ≤ z.length ∧ z.length ≤ 12 := by
  unfold isWordS at h
  rw [Bool.and_eq_true, Bool.and_eq_true, decide_eq_true_iff, decide_eq_true_iff] at h
  exact h.1
theorem base_name : isNameS "base" = true := by decide
end Cw

set_option Elab.async false
set_option linter.all false
set_option maxRecDepth 100000
set_option maxHeartbeats 4000000
namespace Cw
open PySem PySem.Spec PyProof.Rows L2
/-- no list in it -/
inductive OnT : PyData → Prop
  | non : OnT .none
  | bool (b : Bool) : OnT (.bool b)
  | int (i : Int) : OnT (.int i)
  | str (z : Str) : OnT (.str z)
  | tuple (l : List PyData) (h : ∀ d, d ∈ l → OnT d) : OnT (.tuple l)
theorem ont_mem {l : List PyData} (h : OnT (.tuple l)) {d : PyData} (m : d ∈ l) : OnT d := by
  cases h with | tuple _ h => exact h d m
theorem ont_get {l : List PyData} (h : OnT (.tuple l)) (i : Nat) : OnT (l.getD i .none) := by
  rw [List.getD_eq_getElem?_getD]
  cases e : l[i]? with
  | none => exact .non
  | some d => exact ont_mem h (List.mem_of_getElem? e)
theorem ont_items {d e : PyData} (h : OnT d) (m : e ∈ items d) : OnT e := by
  cases h with
  | tuple l h => exact h e m
  | _ => cases m
theorem ifA {c : TT} {t u : TS} {D : Ends} {σ : L2.St} {H : Hp} (h : c σ H fun b H1 => if b = true then t D σ H1 else u D σ H1) : tIfS c t u D σ H := h
theorem inV_strs {z : Str} {l : List Str} : (if false = true then !inV (.str z) (l.map V.str) else inV (.str z) (l.map V.str)) = decide (z ∈ l) := by
  rw [if_neg (by decide)]
  unfold inV
  rw [List.any_map, Bool.eq_iff_iff, decide_eq_true_iff, List.any_eq_true]
  constructor
  · rintro ⟨y, m, e⟩
    have e : (y == z) = true := e
    rw [beq_iff_eq] at e
    exact e ▸ m
  · intro m
    exact ⟨z, m, by show (z == z) = true; exact beq_self_eq_true z⟩
end Cw

set_option Elab.async false
set_option linter.all false
set_option maxRecDepth 100000
set_option maxHeartbeats 4000000
namespace Cw
open PySem PySem.Spec PyProof.Rows L2
/-- what stays but at the addresses of A -/
def Fr (A : List Addr) (H H' : Hp) : Prop := ∀ b o, b ∉ A → H b = some o → H' b = some o
theorem Fr.refl {A : List Addr} (H : Hp) : Fr A H H := fun _ _ _ h => h
theorem Fr.trans {A : List Addr} {H H' H'' : Hp} (h : Fr A H H') (g : Fr A H' H'') : Fr A H H'' := fun b o n e => g b o n (h b o n e)
theorem Fr.of {A : List Addr} {H H' : Hp} (s : Same H H') : Fr A H H' := fun b o _ e => s b o e
theorem Fr.mono {A B : List Addr} {H H' : Hp} (h : Fr A H H') (m : ∀ b, b ∈ A → b ∈ B) : Fr B H H' := fun b o n e => h b o (fun k => n (m b k)) e
/-- what was not there may change -/
theorem Fr.drop {A : List Addr} {u : Addr} {H H' : Hp} (h : Fr (u :: A) H H') (hu : H u = none) : Fr A H H' := fun b o n e => h b o (fun k => by
  rcases List.mem_cons.mp k with rfl | k
  · rw [hu] at e; cases e
  · exact n k) e
theorem Fr.upd {A : List Addr} {H H' : Hp} {p : Addr} {o : HO} (h : Fr A H H') (hp : H p = none) : Fr A H (upd H' p o) := fun b x n e => by
  have k : b ≠ p := fun k => by rw [k, hp] at e; cases e
  rw [upd_ne k]
  exact h b x n e
theorem Fr.set {A : List Addr} {H H' : Hp} {p : Addr} {o : HO} (h : Fr A H H') (hp : p ∈ A) : Fr A H (L2.upd H' p o) := fun b x n e => by
  have k : b ≠ p := fun k => n (by rw [k]; exact hp)
  rw [upd_ne k]
  exact h b x n e
/-- the numbers, the place in them -/
def Sta (r sp : Addr) (H : Hp) : Prop := r ≠ sp ∧ (∃ row : List Int, row ≠ [] ∧ H r = some (.lst (row.map V.int))) ∧ ∃ n : Nat, H sp = some (.lst [.int (n : Int)])
theorem Sta.same {r sp : Addr} {H H' : Hp} (h : Sta r sp H) (s : Same H H') : Sta r sp H' := by
  obtain ⟨h1, ⟨row, h2, h3⟩, n, h4⟩ := h
  exact ⟨h1, ⟨row, h2, s _ _ h3⟩, n, s _ _ h4⟩
theorem Sta.new {r sp p : Addr} {H : Hp} {o : HO} (h : Sta r sp H) (hp : H p = none) : Sta r sp (upd H p o) := h.same (same_upd hp)
theorem Sta.sp_ne {r sp p : Addr} {H : Hp} (h : Sta r sp H) (hp : H p = none) : p ≠ sp := fun e => by
  obtain ⟨_, _, n, h4⟩ := h
  rw [← e, hp] at h4
  cases h4
theorem Sta.set {r sp p : Addr} {H : Hp} {o : HO} (h : Sta r sp H) (h1 : p ≠ r) (h2 : p ≠ sp) : Sta r sp (upd H p o) := by
  obtain ⟨a, ⟨row, b, c⟩, n, d⟩ := h
  exact ⟨a, ⟨row, b, by rw [upd_ne (Ne.symm h1)]; exact c⟩, n, by rw [upd_ne (Ne.symm h2)]; exact d⟩
theorem Sta.dk {r sp u : Addr} {H : Hp} {kv : List (Key × V)} (h : Sta r sp H) (hu : H u = some (.dK kv)) : u ≠ r ∧ u ≠ sp := by
  obtain ⟨a, ⟨row, b, c⟩, n, d⟩ := h
  refine ⟨fun e => ?_, fun e => ?_⟩
  · rw [← e, hu] at c; cases c
  · rw [← e, hu] at d; cases d
/-- data without lists stay where no tuple changes -/
def NoTup (A : List Addr) (H : Hp) : Prop := ∀ b, b ∈ A → ∀ xs, ¬ Rd H b (.tup xs)
theorem sqt_fr {K : PySem.W.Frag} {A : List Addr} {H H' : Hp} (s : Fr A H H') (n : NoTup A H) {a : Addr} {xs : List V} (h : SqT K H a xs) : SqT K H' a xs := by
  rcases h with h | h
  · have na : a ∉ A := fun m => n a m xs h
    rcases h with h | ⟨o, h⟩
    · exact .inl (.inl (s _ _ na h))
    · exact .inl (.inr ⟨o, s _ _ na h⟩)
  · exact .inr h
mutual
theorem dp_fr {K : PySem.W.Frag} {A : List Addr} {H H' : Hp} (s : Fr A H H') (n : NoTup A H) : ∀ {x : V} {d : PyData}, OnT d → Dp K H x d → Dp K H' x d
  | _, _, _, .non => .non
  | _, _, _, .bl b => .bl b
  | _, _, _, .int i => .int i
  | _, _, _, .str z => .str z
  | _, _, o, .lst h t => by cases o
  | _, _, o, .tup h t => .tup (sqt_fr s n h) (dps_fr s n (fun d m => ont_mem o m) t)
theorem dps_fr {K : PySem.W.Frag} {A : List Addr} {H H' : Hp} (s : Fr A H H') (n : NoTup A H) : ∀ {xs : List V} {ds : List PyData}, (∀ d, d ∈ ds → OnT d) → DpAll K H xs ds → DpAll K H' xs ds
  | _, _, _, .nil => .nil
  | _, _, o, .cons h t => .cons (dp_fr s n (o _ (List.mem_cons_self ..)) h) (dps_fr s n (fun d m => o d (List.mem_cons_of_mem _ m)) t)
end
theorem Sta.nt {r sp : Addr} {H : Hp} (h : Sta r sp H) : NoTup [sp] H := fun b m xs e => by
  obtain ⟨_, _, n, d⟩ := h
  rcases List.mem_singleton.mp m with rfl
  rcases e with e | ⟨o, e⟩ <;> · rw [d] at e; cases e
theorem Sta.nt2 {r sp u : Addr} {H : Hp} {kv : List (Key × V)} (h : Sta r sp H) (hu : H u = some (.dK kv)) : NoTup [u, sp] H := fun b m xs e => by
  rcases List.mem_cons.mp m with rfl | m
  · rcases e with e | ⟨o, e⟩ <;> · rw [hu] at e; cases e
  · exact h.nt b m xs e
/-! ### the numbers -/
def spTk (K : PySem.W.Frag) : Sp := fun vs H Q _ => ∃ (r sp : Addr) (lim : Int), vs = [.ref r, .ref sp, .int lim] ∧ Sta r sp H ∧ 0 < lim ∧ ∀ (z : Int) H', 0 ≤ z → z < lim → Sta r sp H' → Fr [sp] H H' → Q (.int z) H'
def spLet (K : PySem.W.Frag) : Sp := fun vs H Q _ => ∃ (r sp : Addr) (m : Int), vs = [.ref r, .ref sp, .int m] ∧ Sta r sp H ∧ 0 ≤ m ∧ m ≤ 1000 ∧ ∀ (z : Str) H', z.length = m.toNat → areLower z = true → Sta r sp H' → Fr [sp] H H' → Q (.str z) H'
def spName (K : PySem.W.Frag) : Sp := fun vs H Q _ => ∃ (r sp u : Addr) (kv : List (Key × V)), vs = [.ref r, .ref sp, .ref u] ∧ Sta r sp H ∧ H u = some (.dK kv) ∧ kv.length ≤ 17 ∧ ∀ (z : Str) H', isNameS z = true → z ≠ "base" → valV kv (.inr z) = none → Sta r sp H' → Fr [u, sp] H H' → H' u = some (.dK (kv ++ [(.inr z, .bl true)])) → Q (.str z) H'
def spWd (K : PySem.W.Frag) : Sp := fun vs H Q _ => ∃ (r sp u : Addr) (kv : List (Key × V)), vs = [.ref r, .ref sp, .ref u] ∧ Sta r sp H ∧ H u = some (.dK kv) ∧ kv.length ≤ 25 ∧ ∀ (z : Str) H', isWordS z = true → valV kv (.inr z) = none → Sta r sp H' → Fr [u, sp] H H' → H' u = some (.dK (kv ++ [(.inr z, .bl true)])) → Q (.str z) H'
theorem ok_tk {P : Program} {w : World} {K : PySem.W.Frag} {mg : Str → Option Value} {base : Heap} {k : Nat} {f : Addr} {fd : FuncData} {ps : List Str} (h : FnOk P w K mg base CX0 k f fd ps (spTake K)) : FnOk P w K mg base CX0 k f fd ps (spTk K) :=
  h.imp fun vs H Q E q => by
    obtain ⟨r, sp, lim, rfl, ⟨a, ⟨row, b, c⟩, n, d⟩, hl, q⟩ := q
    exact ⟨r, sp, row, n, lim, rfl, c, b, a, d, hl, fun z z0 z1 => q z _ z0 z1 ⟨a, ⟨row, b, by rw [upd_ne a]; exact c⟩, n + 1, upd_same⟩ ((Fr.refl H).set (List.mem_singleton.mpr rfl))⟩
theorem at_in {α : Type} {l : List α} {i : Int} (h0 : 0 ≤ i) (h : i < (l.length : Int)) : ∃ z, atI l i = some z := by
  obtain ⟨j, rfl⟩ := Int.eq_ofNat_of_zero_le h0
  have hj : j < l.length := Int.ofNat_lt.mp h
  exact ⟨l[j], atI_nat (List.getElem?_eq_getElem hj)⟩
theorem len_app (x y : Str) : (x ++ y).length = x.length + y.length := by
  show (x.cps ++ y.cps).size = _
  rw [Array.size_append]
  rfl
abbrev s__law_take : Stmt := topS 112
section
variable {P : Program} {w : World} {K : PySem.W.Frag} {mg : Str → Option Value} {base : Heap} {S : Addr → Option Sp}
abbrev s__law_letters : Stmt := topS 113
theorem sc__law_letters : FnScope ["row", "spot", "many", "made", "k", "at"] ["row", "spot", "many"] (defScope s__law_letters) := ⟨rfl, rfl, rfl, by decide +kernel, rfl, by decide +kernel, by decide +kernel⟩
theorem ok__law_letters {f : Addr} {fd : FuncData} (F : Fun K "_law_letters" "_law_letters" s__law_letters f fd) {f__law_take : Addr} {d__law_take : FuncData} (h__law_take : Hd K mg "_law_take" s__law_take ["row", "spot", "limit"] f__law_take d__law_take) (G__law_take : FnOk P w K mg base CX0 2 f__law_take d__law_take ["row", "spot", "limit"] (spTk K)) (m_range : mg "range" = none) : FnOk P w K mg base CX0 3 f fd ["row", "spot", "many"] (spLet K) := by
  refine F.ok sc__law_letters (fun vs H Q E h => ?_) (fun cdv A outer s H vs Q E hr h => ?_)
  · obtain ⟨_, _, _, rfl, _⟩ := h
    rfl
  · obtain ⟨r, sp, m, rfl, st, hm0, hm, q⟩ := h
    refine ⟨_, (pss_cons (ps_set (i := 3) sc__law_letters.nd rfl (.inl rfl) pe_str)
  (pss_cons (ps_for PassesOwn.never rfl (pi_range1 rfl m_range (pa_cons (pv 2) pa_nil)) (pg_name (i := 4) sc__law_letters.nd rfl (.inl rfl)) (pss_cons (ps_set (i := 5) sc__law_letters.nd rfl (.inl rfl) (pe_call G__law_take (hr.mono (by decide)) (by rfl) h__law_take.g h__law_take.F.kp h__law_take.b .nil pass0 (pa_cons (pv 0) (pa_cons (pv 1) (pa_cons pe_int pa_nil)))))
  (pss_one (ps_set (i := 3) sc__law_letters.nd rfl (.inl rfl) (pe_op op_add_str (pv 3) (pe_ix ix_str pe_str (pv 5) (fun _ _ => rfl)))))))
  (pss_one (ps_ret (pv 3))))), ?_⟩
    refine seqA (asgA (nameA ?_))
    dsimp only
    refine seqA ⟨.int m, rfl, m, rfl, by omega, by omega, for_range (lo := 0) (n := m.toNat) (fun i σ H' => ∃ c4 c5 z, σ = [some (.ref r), some (.ref sp), some (.int m), some (.str z), c4, c5] ∧ (z.length = i ∧ areLower z = true) ∧ Sta r sp H' ∧ Fr [sp] H H') ⟨_, _, "", rfl, ⟨rfl, rfl⟩, st, Fr.refl H⟩ ?_ ?_⟩
    · rintro i σ H1 hi ⟨c4, c5, z, rfl, ⟨hz, hzl⟩, st1, f1⟩
      refine nameA (seqA (asgA ⟨.ref r, rfl, .ref sp, rfl, r, sp, 26, rfl, st1, by decide, fun t H2 t0 t1 st2 f2 => nameA ?_⟩))
      dsimp only
      have ht26 : t.toNat < 26 := by omega
      have hc : atI (PySem.Str.ofString "abcdefghijklmnopqrstuvwxyz").cps.toList t = some (97 + t.toNat) := by
        have := atI_nat (alpha_at ht26)
        rw [Int.toNat_of_nonneg t0] at this
        exact this
      generalize hcc : 97 + t.toNat = c at hc
      refine asgA ⟨.str z, rfl, .int t, rfl, _, t, c, rfl, rfl, by decide, hc, z, _, rfl, rfl, ?_, nameA ⟨_, _, _, rfl, ?_, st2, f1.trans f2⟩⟩
      · show z.length + 1 ≤ sizeLine
        exact Nat.le_trans (by omega : z.length + 1 ≤ 1001) (by decide)
      · refine ⟨by rw [len_app, hz]; rfl, ?_⟩
        show (Lc (z ++ (⟨#[c]⟩ : Str))).all lowC = true
        rw [Lc_app, List.all_append, show (Lc z).all lowC = true from hzl, Lc_one, ← hcc, List.all_cons, low_c ht26]
        rfl
    · rintro σ H1 ⟨c4, c5, z, rfl, ⟨hz, hzl⟩, st1, f1⟩
      exact ⟨.str z, rfl, q z H1 hz hzl st1 f1⟩
end
end Cw

set_option Elab.async false
set_option linter.all false
set_option maxRecDepth 100000
set_option maxHeartbeats 4000000
namespace Cw
open PySem PySem.Spec PyProof.Rows L2
theorem seq_merge {t rest : TS} {D : Ends} {σ : L2.St} {H : Hp} (X : L2.St → Hp → Prop) (h1 : ∀ σ' H', X σ' H' → rest D σ' H') (h2 : (∀ σ' H', X σ' H' → rest D σ' H') → t { D with nx := rest D } σ H) : tSeq t rest D σ H := h2 h1
theorem res_flat : (reserved19.map V.str).all flatV = true := by decide
theorem Fr.u {sp u : Addr} {H H' : Hp} {kv : List (Key × V)} (f : Fr [sp] H H') (hu : H u = some (.dK kv)) (h : u ≠ sp) : H' u = some (.dK kv) := f _ _ (fun m => h (List.mem_singleton.mp m)) hu
theorem Fr.two {sp u : Addr} {H H' : Hp} (f : Fr [sp] H H') : Fr [u, sp] H H' := f.mono fun _ m => List.mem_cons_of_mem _ m
section
variable {P : Program} {w : World} {K : PySem.W.Frag} {mg : Str → Option Value} {base : Heap} {S : Addr → Option Sp}
abbrev s__law_name : Stmt := topS 114
theorem sc__law_name : FnScope ["row", "spot", "used", "made", "k"] ["row", "spot", "used"] (defScope s__law_name) := ⟨rfl, rfl, rfl, by decide +kernel, rfl, by decide +kernel, by decide +kernel⟩
theorem ok__law_name {f : Addr} {fd : FuncData} (F : Fun K "_law_name" "_law_name" s__law_name f fd) {f__law_letters : Addr} {d__law_letters : FuncData} (h__law_letters : Hd K mg "_law_letters" s__law_letters ["row", "spot", "many"] f__law_letters d__law_letters) (G__law_letters : FnOk P w K mg base CX0 3 f__law_letters d__law_letters ["row", "spot", "many"] (spLet K)) {f__law_take : Addr} {d__law_take : FuncData} (h__law_take : Hd K mg "_law_take" s__law_take ["row", "spot", "limit"] f__law_take d__law_take) (G__law_take : FnOk P w K mg base CX0 2 f__law_take d__law_take ["row", "spot", "limit"] (spTk K)) {f__law_reserved : Addr} {d__law_reserved : FuncData} (h__law_reserved : Hd K mg "_law_reserved" s__law_reserved [] f__law_reserved d__law_reserved) (G__law_reserved : FnOk P w K mg base CX0 1 f__law_reserved d__law_reserved [] (spReserved)) (m_range : mg "range" = none) : FnOk P w K mg base CX0 4 f fd ["row", "spot", "used"] (spName K) := by
  refine F.ok sc__law_name (fun vs H Q E h => ?_) (fun cdv A outer s H vs Q E hr h => ?_)
  · obtain ⟨_, _, _, _, rfl, _⟩ := h
    rfl
  · obtain ⟨r, sp, u, kv, rfl, st, hu, hkv, q⟩ := h
    obtain ⟨ur, us⟩ := st.dk hu
    refine ⟨_, (pss_cons (ps_set (i := 3) sc__law_name.nd rfl (.inl rfl) (pe_call G__law_letters (hr.mono (by decide)) (by rfl) h__law_letters.g h__law_letters.F.kp h__law_letters.b .nil pass0 (pa_cons (pv 0) (pa_cons (pv 1) (pa_cons (pe_op op_add pe_int (pe_call G__law_take (hr.mono (by decide)) (by rfl) h__law_take.g h__law_take.F.kp h__law_take.b .nil pass0 (pa_cons (pv 0) (pa_cons (pv 1) (pa_cons (pe_ifExp (pt_cmpR op_gt (pe_call G__law_take (hr.mono (by decide)) (by rfl) h__law_take.g h__law_take.F.kp h__law_take.b .nil pass0 (pa_cons (pv 0) (pa_cons (pv 1) (pa_cons pe_int pa_nil)))) pe_int (nomark _)) pe_int pe_int) pa_nil))))) pa_nil)))))
  (pss_cons (ps_for PassesOwn.never rfl (pi_range1 rfl m_range (pa_cons pe_int pa_nil)) (pg_name (i := 4) sc__law_name.nd rfl (.inl rfl)) (pss_cons (ps_if (PW.pt (pw_and (pt_cmp (pc_dnotin (hu_of hr) (pv 3) (pv 2))) (pw_and1 (pt_cmpR op_notIn_seq (pv 3) (pe_call0 G__law_reserved (hr.mono (by decide)) (by rfl) h__law_reserved.g h__law_reserved.F.kp h__law_reserved.b .nil pass0) (by rfl))))) (pss_one ps_break) pss_nil)
  (pss_cons (ps_set (i := 3) sc__law_name.nd rfl (.inl rfl) (pe_op op_add_str (pe_slice sl_str (pv 3) po_none (po_some pe_int)) (pe_ix ix_str pe_str (pe_op op_mod (pv 4) pe_int) (fun _ _ => rfl))))
  (pss_one (ps_if (pt_cmpR op_gt (pv 4) pe_int (nomark _)) (pss_one (ps_set (i := 3) sc__law_name.nd rfl (.inl rfl) (pe_op op_add_str (pe_slice sl_str (pv 3) (po_some pe_int) po_none) pe_str))) pss_nil)))))
  (pss_cons (ps_dput (hu_of hr) (pv 2) (pv 3) pe_bl rfl)
  (pss_one (ps_ret (pv 3)))))), ?_⟩
    have hal : ∀ {w : Str}, areLower w = true → (Lc w).all lowC = true := fun h => h
    refine seq_merge (fun σ' H' => (∃ z, σ' = [some (.ref r), some (.ref sp), some (.ref u), some (.str z), none] ∧ NInv (keysL kv) 0 (Lc z)) ∧ Sta r sp H' ∧ Fr [sp] H H') ?_ (fun kont => ?_)
    rotate_left
    · refine asgA ⟨.ref r, rfl, .ref sp, rfl, .ref r, rfl, .ref sp, rfl, .ref r, rfl, .ref sp, rfl, r, sp, 9, rfl, st, by decide, fun z H1 a1 b1 st1 f1 => ⟨z, 0, rfl, rfl, _, rfl, ite2 (fun _ => ?_) (fun _ => ?_)⟩⟩
      · exact ⟨r, sp, 3, rfl, st1, by decide, fun z2 H2 a2 b2 st2 f2 => ⟨1, z2, rfl, rfl, r, sp, 1 + z2, rfl, st2, by omega, by omega, fun w H3 hw hwl st3 f3 => nameA (kont _ _ ⟨⟨w, rfl, .start (hal hwl) (by rw [Lc_len]; omega) (by rw [Lc_len]; omega)⟩, st3, f1.trans (f2.trans f3)⟩)⟩⟩
      · exact ⟨r, sp, 12, rfl, st1, by decide, fun z2 H2 a2 b2 st2 f2 => ⟨1, z2, rfl, rfl, r, sp, 1 + z2, rfl, st2, by omega, by omega, fun w H3 hw hwl st3 f3 => nameA (kont _ _ ⟨⟨w, rfl, .start (hal hwl) (by rw [Lc_len]; omega) (by rw [Lc_len]; omega)⟩, st3, f1.trans (f2.trans f3)⟩)⟩⟩
    rintro σ' H' ⟨⟨z, rfl, hz⟩, st1, f1⟩
    refine seq_merge (fun σ' H' => (∃ z c4, σ' = [some (.ref r), some (.ref sp), some (.ref u), some (.str z), c4] ∧ isNameS z = true ∧ z ≠ "base" ∧ valV kv (.inr z) = none) ∧ Sta r sp H' ∧ Fr [sp] H H') ?_ (fun kont => ?_)
    rotate_left
    · refine ⟨30, rfl, by decide, by decide, for_range (lo := 0) (n := 30) (fun i σ H' => (∃ z c4, σ = [some (.ref r), some (.ref sp), some (.ref u), some (.str z), c4] ∧ NInv (keysL kv) i (Lc z)) ∧ Sta r sp H' ∧ Fr [sp] H H') ⟨⟨z, none, rfl, hz⟩, st1, f1⟩ ?_ (fun σ H' p => ?_)⟩
      rotate_left
      · obtain ⟨⟨z, c4, rfl, hz⟩, _⟩ := p
        have := hz.end_
        have := keysL_len kv
        omega
      rintro i σ H2 hi ⟨⟨z2, c4, rfl, hz2⟩, st2, f2⟩
      have hlen : z2.length ≤ 12 := by rw [← Lc_len]; exact hz2.2.2.1
      refine nameA ?_
      dsimp only
      refine seq_merge (fun σ' H' => (σ' = [some (.ref r), some (.ref sp), some (.ref u), some (.str z2), some (.int (0 + (i : Int)))] ∧ (12 ≤ i → Lc z2 ∈ keysL kv)) ∧ Sta r sp H' ∧ Fr [sp] H H') ?_ (fun kont2 => ?_)
      rotate_left
      · refine ifA ⟨.str z2, rfl, .ref u, rfl, u, _, rfl, DGet.k (k := .inr z2) (f2.u hu us), _, rfl, ite2 (fun e => ?_) (fun e => iteF (nextA (kont2 _ _ ⟨⟨rfl, fun _ => keysL_mem ?_⟩, st2, f2⟩)))⟩
        · have hfree : valV kv (.inr z2) = none := by
            cases e2 : valV kv (.inr z2) with
            | none => rfl
            | some x => rw [e2] at e; cases e
          refine ⟨.str z2, rfl, rfl, fun L H3 s3 hL hL3 => ⟨L, _, rfl, .inl (SqL.of hL3), rfl, res_flat, _, rfl, ite2 (fun e => ?_) (fun e => nextA (kont2 _ _ ⟨⟨rfl, fun h12 => ?_⟩, st2.same s3, f2.trans (Fr.of s3)⟩))⟩⟩
          · have hnr : z2 ∉ reserved19 := fun m => by
              have : inV (.str z2) (reserved19.map V.str) = true := by
                have h := @inV_strs z2 reserved19
                rw [if_neg (by decide)] at h
                rw [h]
                exact decide_eq_true m
              rw [if_pos rfl, this] at e
              cases e
            obtain ⟨n1, n2⟩ := name_of hz2.1 hz2.2.1 hz2.2.2.1 hnr
            exact kont _ _ ⟨⟨z2, _, rfl, n1, n2, hfree⟩, st2.same s3, f2.trans (Fr.of s3)⟩
          · exfalso
            have hr : z2 ∈ reserved19 := by
              have h := @inV_strs z2 reserved19
              rw [if_neg (by decide)] at h
              rw [if_pos rfl, h] at e
              by_cases m : z2 ∈ reserved19
              · exact m
              · rw [decide_eq_false m] at e; exact absurd rfl e
            have := res_short hr
            have := hz2.2.2.2.1
            omega
        · cases e2 : valV kv (.inr z2) with
          | none => rw [e2] at e; exact absurd rfl e
          | some x => rfl
      rintro σ3 H3 ⟨⟨rfl, hused⟩, st3, f3⟩
      have hstep := hz2.step hused
      have zl : ∀ {x : Str}, x.length ≤ 100 → x.length + 1 ≤ sizeLine := fun {x} h => Nat.le_trans (by omega : x.length + 1 ≤ 101) (by decide)
      have h26 : i % 26 < 26 := Nat.mod_lt i (by decide)
      have hc : atI (PySem.Str.ofString "abcdefghijklmnopqrstuvwxyz").cps.toList ((0 + (i : Int)) % 26) = some (97 + i % 26) := by
        have := atI_nat (alpha_at h26)
        rw [show (0 + (i : Int)) % 26 = ((i % 26 : Nat) : Int) by omega]
        exact this
      have l1 := cutS_length z2 none (some 11)
      refine seqA (asgA ⟨.str z2, rfl, 11, rfl, z2, rfl, Nat.le_of_succ_le (zl (by omega)), .int (0 + (i : Int)), rfl, 0 + (i : Int), 26, rfl, rfl, (by decide : (0 : Int) < 26), _, _, _, rfl, rfl, by decide, hc, _, _, rfl, rfl, zl (by omega), nameA ?_⟩)
      dsimp only
      have l2 : (cutS z2 none (some 11) ++ (⟨#[97 + i % 26]⟩ : Str)).length = (cutS z2 none (some 11)).length + 1 := len_app _ _
      have e3 : Lc (cutS z2 none (some 11) ++ (⟨#[97 + i % 26]⟩ : Str)) = (Lc z2).take 11 ++ [97 + i % 26] := by
        rw [Lc_app, show Lc (cutS z2 none (some 11)) = (Lc z2).take 11 from cut_take z2 11]
        rfl
      generalize cutS z2 none (some 11) ++ (⟨#[97 + i % 26]⟩ : Str) = z3 at l2 e3 ⊢
      unfold stepL at hstep
      refine ifA ⟨.int (0 + (i : Int)), rfl, _, 10, rfl, rfl, _, rfl, ite2 (fun e => ?_) (fun e => nextA ⟨⟨z3, _, rfl, ?_⟩, st3, f3⟩)⟩
      · have e := of_decide_eq_true e
        have l3 := cutS_length z3 (some 1) none
        refine asgA ⟨.str z3, rfl, 1, rfl, z3, rfl, Nat.le_of_succ_le (zl (by omega)), _, "z", rfl, rfl, zl (by omega), nameA ⟨⟨_, _, rfl, ?_⟩, st3, f3⟩⟩
        rw [if_pos (by omega)] at hstep
        rw [Lc_app, show Lc (cutS z3 (some 1) none) = (Lc z3).drop 1 from cut_drop z3 1, e3]
        exact hstep
      · have e : ¬ ((10 : Int) < 0 + (i : Int)) := fun g => e (decide_eq_true g)
        rw [if_neg (by omega)] at hstep
        rw [e3]
        exact hstep
    rintro σ' H' ⟨⟨z, c4, rfl, hz, hzb, hfr⟩, st1, f1⟩
    refine seqA ⟨.ref u, rfl, .str z, rfl, u, _, rfl, DPut.k (k := .inr z) (f1.u hu us) (Nat.lt_of_le_of_lt hkv (by decide)), ?_⟩
    dsimp only
    refine retA ?_
    exact ⟨.str z, rfl, q z _ hz hzb hfr (st1.set ur us) (f1.two.set (List.mem_cons_self ..)) (by rw [putK_new _ hfr]; exact upd_same)⟩
end
end Cw

set_option Elab.async false
set_option linter.all false
set_option maxRecDepth 100000
set_option maxHeartbeats 2000000
/-! # CwListVals: list(d.values()) -/
namespace L2
open PySem PySem.Spec PyProof.Rows
theorem vals_snd : ∀ {kvs : List (Key × V)} {vs : List (Key × Value)}, KV kvs vs → Vals (kvs.map (·.2)) (vs.map (·.2))
  | _, _, .nil => .nil
  | _, _, .cons h t => .cons h.2 (vals_snd t)
def rValsL : V → Hp → VK → Prop := fun x H Q => ∃ (d : Addr) (kvs : List (Key × V)), x = .ref d ∧ H d = some (.dK kvs) ∧ ∀ p, H p = none → Q (.ref p) (upd H p (.lst (kvs.map (·.2))))
def tListVals (te : TE) : TE := fun σ H Q => te σ H fun x H1 => rValsL x H1 Q
section
variable {X : Cx} {e : Expr} {te : TE} {p apos cpos pos : Pos}
/-- a list is laid at an address that was free -/
theorem list_laid {pins : List (Addr × Obj)} {σ : L2.St} {H : Hp} {s : Shared} {h' : Heap} {tk : Nat} {ys : List V} {S : Addr} {acc : Array Value} {c : Nat} (I : Inv X pins σ H s) (hz : ys.length ≤ sizeLine) (hv : Vals ys acc.toList)
    (hk : ∀ b o, s.heap.get? b = some o → h'.get? b = some o) (new : H S = none) (low : ∀ b o, s.heap.get? b = some o → b ≠ S) (hS : h'.get? S = some { cls := .type "list", dict := none, data := .seq acc c, slots := #[] }) :
    Inv X pins σ (upd H S (.lst ys)) { s with heap := h', toks := tk } := by
  have off : ∀ b, b ≠ S → upd H S (.lst ys) b = H b := fun b h => upd_ne h
  have kp : ∀ b u, H b = some u → upd H S (.lst ys) b = some u := fun b u q => by
    rw [off b (fun z => by rw [z, new] at q; cases q)]
    exact q
  refine I.call' (ch := []) rfl ⟨fun b o q _ _ _ => hk b o q, fun b o q _ _ _ => ⟨o.slots, hk b o q⟩, fun b o q n _ => ?_, fun b o q _ => ⟨o, hk b o q⟩, fun b xs q => kp b _ q, fun b o u q => kp b _ q, fun b ps q => ⟨#[], by rw [kp b _ q]; simp⟩⟩ (fun b u q => ?_) I.bare fun b z => by simp at z
  · rw [off b (low b o q)]
    exact n
  · by_cases hb : b = S
    · subst hb
      rw [upd_same] at q
      cases q
      refine ⟨hz, acc.toList, c, hv, ?_⟩
      rw [Array.toArray_toList]
      exact hS
    · rw [off b hb] at q
      exact (I.hok b u q).stay (fun d v _ y => hk d v y) (fun d y => kp d _ y) fun d xs y => kp d _ y
/-- list(e.values()) -/
theorem pe_listVals (hc : X.calm = true) (he : PE X e te) (hg : Gl X "list") (hm : X.mg "list" = none) (hv : bootBuiltins "list" = some (.type "list")) (hbase : attributeBase e "values" X.env (eval e X.env) = eval e X.env := by rfl) (hline : (apos.endLine == cpos.line) = true := by rfl)
    (hs : starEach [.Call (.Attribute e "values" apos) [] [] cpos] X.env = (false, eval (.Call (.Attribute e "values" apos) [] [] cpos) X.env) :: starEach [] X.env := by rfl) :
    PE X (.Call (.Name "list" p) [.Call (.Attribute e "values" apos) [] [] cpos] [] pos) (tListVals te) := by
  refine ⟨fun pins s σ H Q I hq => ?_⟩
  refine wpAny_Call_Name_kw (ld_blt I hg hm hv ?_)
  refine PyProof.Rows.callWith_type1 ?_ hs rfl
  rw [hs]
  show wpAny _ _ (spliced ((false, eval (.Call (.Attribute e "values" apos) [] [] cpos) X.env) :: backTo pos (starEach [] X.env))) _ _ s
  refine Calls.spliced_cons ?_
  refine wpAny_Call_method (T := "dict") (id := "dict.values") hbase rfl hline F.plainAttrs_dict F.slot_dict_values F.type_dict_values (thn (he.run pins s σ H _ I hq) fun u s1 ⟨x, H1, I1, rx, d, kvs, ex, hd, q⟩ => ?_)
  subst ex
  obtain rfl : u = Value.ref d := rx
  obtain ⟨hz, hs0, vs, kv, hdo⟩ := I1.hok d _ hd
  obtain ⟨ep, hat⟩ := hdo.dictAt
  have lk : kvs.length = vs.length := Paired.length kv
  have I2 : Inv X pins σ H1 { s1 with heap := s1.heap.push { cls := .type "dict_values", data := .fields #[.ref d] } } := I1.kept (t' := s1.toks) fun b ob q => Heap.get?_push_of_some _ q
  refine ⟨hdo.typeIs, hdo.mapOf.noDict, ?_⟩
  show wpAny _ _ (callWith cpos (.builtin "dict.values") [.ref d] [] []) _ X.xe s1
  refine method_meetsIn F.slot_dict_values F.entry_dict_values rfl (PySem.evalArgs_none ⟨rfl, hdo.typeIs, F.args_dict_values_1 _, _, meets_dict_values (mixKind X.prog X.w) d hs0, ⟨vs, hdo⟩, ?_⟩)
  refine Calls.spliced_nil ?_
  refine PySem.W.kdl_call (PySem.W.kdl_values (knd := mixKind X.prog X.w) (kvs := vs) (ep := ep) (r := s1.heap.objs.size) (d := d)) (I1.ok.hd hc) ⟨⟨_, Heap.get?_push_size _ rfl, rfl, rfl⟩, hat.push _⟩ (by omega) fun h' tk acc c hk hS hit => ?_
  have ea : acc.toList = vs.map (·.2) := PySem.W.kdl_vals_eq acc.toList (by rw [Array.length_toList]; exact hit.1) fun j v e => hit.2 j v (by rw [← Array.getElem?_toList]; exact e)
  have new : H1 (s1.heap.push { cls := .type "dict_values", data := .fields #[.ref d] }).objs.size = none := I2.hok.fresh (Nat.le_refl _)
  exact ⟨.ref _, _, list_laid I2 (ys := kvs.map (·.2)) (by rw [List.length_map]; exact hz) (by rw [ea]; exact vals_snd kv) hk new (fun b o z => Nat.ne_of_lt (Heap.lt_size z)) hS, rfl, q _ new⟩
end
end L2

set_option Elab.async false
set_option linter.all false
set_option maxRecDepth 100000
set_option maxHeartbeats 2000000
/-! # CwSortKey: sorted(xs, key = lambda one: one[0]), the items tuples that begin with a text -/
namespace LamX
open PySem PySem.Spec PyProof.Rows L2
/-- the lambda's one parameter, its scope -/
structure Lam1 (params : Arguments) (scope : Scope) (x : Str) : Prop where
  kind : scope.kind = .function
  co : scope.isCoroutine = false
  gen : scope.isGenerator = false
  cell : ∀ y ∈ scope.names, y.2 ≠ .cell
  loc : scope.names.lookup x = some .local
  free : ∀ y ∈ scope.names, y.2 ≠ .free
  dbg : (x == ("__debug__" : Str)) = false
  bind : ∀ (q : Str) (body : Expr) (cl : List (Str × Addr)) (pm cv ctv v : Value), bindArgs (PySem.W.kla_fn "<lambda>" q params body scope cl pm cv ctv) ⟨[v], []⟩ = pure [(x, v)]
theorem lam_item0 {prog : Program} {w : World} {A : Around} {s : Shared} {f c' : Addr} {q x : Str} {params : Arguments} {scope : Scope} {cl : List (Str × Addr)} {pm ctv : Value} {px pk ps : Pos} {kd : Nat} {t : Addr} {its : Array Value} {z : Str} {tz : Tok}
    (L : Lam1 params scope x) (hroom : A.depth < recursionLimit) (lim : s.heap.NoLimit)
    (hf : s.heap.get? f = some (PySem.W.kla_obj "<lambda>" q params (.Subscript (.Name x px) (.Constant (.int 0) kd pk) ps) scope cl pm c' ctv)) (hcd : s.heap.CodeRec (.ref c') q)
    (ht : IsTup s.heap t its) (h0 : its[0]? = some (.str z tz)) :
    wpAny (model prog w) A (call (.ref f) [.ref t]) (PySem.W.KeyPure (.str z) s) (fun _ _ => False) s := by
  refine wpAny_call (codeAny_mono (R := fun r s' => match r with | .ok (.ret v) => PySem.W.KeyPure (.str z) s v s' | _ => False) ?_ fun r s' hq => ?_)
  · refine PySem.W.kla_callFunE hroom hf rfl L.co L.gen rfl hcd ?_
    rw [L.bind]
    refine wpAny_pure (wpAny_newFunctionEnv L.cell (fun y hy => ?_) (fun h₁ hns hsb => ⟨lim.fresh _ hsb, ?_⟩) L.kind)
    · obtain rfl := List.mem_singleton.mp hy
      exact L.loc
    have kp : ∀ b o, s.heap.get? b = some o → h₁.get? b = some o := fun b o e => hsb.extBut b o (Nat.ne_of_lt (Heap.lt_size e)) (Heap.get?_push_of_some _ e)
    refine PySem.W.kla_codeExpr (wpAny_Subscript_Constant_late (wpAny_Name (wpAny_loadName_local L.kind L.loc hns (v := .ref t) ?_ ?_) L.dbg))
    · show List.lookup x [(x, Value.ref t)] = _
      simp
    refine wpAny_Constant_int ?_
    refine ⟨"tuple", "tuple.__getitem__", slot_tuple_getitem.lookup, ?_, ?_⟩
    · exact (ht.keeps kp).typeIs
    · refine getItem_tuple (ht.keeps kp) (by decide) (by decide) (j := 0) ?_ h0 ?_
      · have h1 : 0 < its.size := by
          rcases Nat.lt_or_ge 0 its.size with h | h
          · exact h
          · rw [Array.getElem?_eq_none h] at h0
            cases h0
        unfold seqIndex?
        simp [h1]
      · exact ⟨h₁, _, rfl, kp, .str _ _⟩
  · cases r with
    | error e => exact hq
    | ok fl =>
      cases fl with
      | ret v => exact hq
      | next => exact hq
      | brk => exact hq
      | cont => exact hq
/-- the items: tuples that begin with texts -/
def Firsts (K : PySem.W.Frag) (H : Hp) : List V → List Str → Prop
  | [], [] => True
  | v :: vs, z :: zs => (∃ t xs, v = .ref t ∧ SqT K H t (.str z :: xs)) ∧ Firsts K H vs zs
  | _, _ => False
def tSortK (K : PySem.W.Frag) (T : List (Addr × Str)) (te : TE) : TE := fun σ H Q => te σ H fun x H1 => ∃ (l : Addr) (xs : List V) (zs : List Str), x = .ref l ∧ SqL K H1 l xs ∧ Firsts K H1 xs zs ∧ Tabs T H1 ∧
  ∀ (H2 : Hp) (p : Addr) (ys : List V), ExtN H1 H2 → Tabs T H2 → ys.Perm xs → H2 p = none → Q (.ref p) (upd H2 p (.lst ys))
/-- what stands in the machine's heap for the items -/
def Item (h : Heap) (v : Value) (b : V × Str) : Prop := RelV b.1 v ∧ ∃ (t : Addr) (its : Array Value) (tz : Tok), v = .ref t ∧ IsTup h t its ∧ its[0]? = some (.str b.2 tz)
theorem sqt_ext {K : PySem.W.Frag} {H H' : Hp} (e : ExtN H H') {a : Addr} {xs : List V} (h : SqT K H a xs) : SqT K H' a xs := by
  rcases h with (h | ⟨o, h⟩) | h
  · exact .inl (.inl (e _ _ h (fun ps z => by cases z)))
  · exact .inl (.inr ⟨o, e _ _ h (fun ps z => by cases z)⟩)
  · exact .inr h
theorem sql_ext {K : PySem.W.Frag} {H H' : Hp} (e : ExtN H H') {a : Addr} {xs : List V} (h : SqL K H a xs) : SqL K H' a xs := by
  rcases h with (h | ⟨o, h⟩) | h
  · exact .inl (.inl (e _ _ h (fun ps z => by cases z)))
  · exact .inl (.inr ⟨o, e _ _ h (fun ps z => by cases z)⟩)
  · exact .inr h
theorem firsts_ext {K : PySem.W.Frag} {H H' : Hp} (e : ExtN H H') : ∀ {xs : List V} {zs : List Str}, Firsts K H xs zs → Firsts K H' xs zs
  | [], [], _ => trivial
  | _ :: _, _ :: _, ⟨⟨t, ys, h1, h2⟩, r⟩ => ⟨⟨t, ys, h1, sqt_ext e h2⟩, firsts_ext e r⟩
section
variable {X : Cx} {pins : List (Addr × Obj)} {σ : L2.St} {H : Hp} {s : Shared}
theorem firsts_items (I : Inv X pins σ H s) {xs : List V} : ∀ {zs : List Str} {us : List Value}, Firsts X.K H xs zs → Vals xs us → ∃ bs : List (V × Str), PySem.W.EachIs (Item s.heap) us bs ∧ bs.map (·.1) = xs ∧ bs.length = xs.length := by
  induction xs with
  | nil =>
    intro zs us h r
    cases r
    exact ⟨[], .nil, rfl, rfl⟩
  | cons v vs ih =>
    intro zs us h r
    cases zs with
    | nil => exact h.elim
    | cons z zs =>
      obtain ⟨⟨t, ys, h1, h2⟩, h3⟩ := h
      cases r with
      | cons rv rr =>
        obtain ⟨bs, e1, e2, e3⟩ := ih h3 rr
        obtain ⟨its, v1, v2, _⟩ := I.tuple h2
        subst h1
        cases rv
        cases v1 with
        | cons a b =>
          obtain ⟨tz, rfl⟩ := a
          exact ⟨(.ref t, z) :: bs, .cons ⟨rfl, t, _, tz, rfl, v2, by simp⟩ e1, by simp [e2], by simp [e3]⟩
theorem vals_each {h : Heap} : ∀ {us : List Value} {bs : List (V × Str)}, PySem.W.EachIs (Item h) us bs → Vals (bs.map (·.1)) us
  | _, _, .nil => .nil
  | _, _, .cons h t => .cons h.1 (vals_each t)
theorem pe_sortItem0 {T : List (Addr × Str)} {c P : Addr} {x : Str} {params : Arguments} {scope : Scope} {e : Expr} {te : TE} {p px pk ps lpos kpos pos : Pos} {kd k : Nat}
    (he : PA X [e] (tCons te tNil)) (hg : Gl X "sorted") (hm : X.mg "sorted" = none) (L : Lam1 params scope x) (hr : Room (k + 3) X.A) (TB : TabB X.base X.mg c P) (hcode : X.env.code = .ref c) (hmT : (P, X.env.qual ++ "<lambda>") ∈ T) (hu : ∀ p ∈ T, p.1 = P → p.2 = X.env.qual ++ "<lambda>")
    (hdef : defaultsOf params X.env = ([], []) := by rfl) (hv : bootBuiltins "sorted" = some (.builtin "sorted") := by decide +kernel)
    (hst : backTo pos (starEach [e] X.env) = (false, eval e X.env) :: backTo pos (starEach [] X.env) := by rfl) (hpl : (backTo pos (starEach [e] X.env)).any (·.1) = false := by rfl) :
    PE X (.Call (.Name "sorted" p) [e] [⟨some "key", .Lambda params (.Subscript (.Name x px) (.Constant (.int 0) kd pk) ps) scope lpos, kpos⟩] pos) (tSortK X.K T te) := by
  refine ⟨fun pins s σ H Q I h => ?_⟩
  refine wpAny_Call_Name_kw (ld_blt I hg hm hv ?_ (by decide) (by decide))
  refine PyProof.Rows.callWith_kw (thn (he.run pos pins s σ H (fun vs H1 => match vs with
    | [y] => ∃ (l : Addr) (xs : List V) (zs : List Str), y = .ref l ∧ SqL X.K H1 l xs ∧ Firsts X.K H1 xs zs ∧ Tabs T H1 ∧
      ∀ (H2 : Hp) (p : Addr) (ys : List V), ExtN H1 H2 → Tabs T H2 → ys.Perm xs → H2 p = none → Q (.ref p) (upd H2 p (.lst ys))
    | _ => False) I h) fun us s1 ⟨vs, H1, I1, r1, q1⟩ => ?_) hst hpl rfl rfl
  obtain ⟨y, rfl⟩ : ∃ y, vs = [y] := by
    match vs, q1 with
    | [y], _ => exact ⟨y, rfl⟩
  obtain ⟨l, xs, zs, rfl, hl, hf, hT, q⟩ := q1
  obtain rfl := Vals.ref1 r1
  show wpAny _ _ (evalAll ((do let v ← eval (.Lambda params (.Subscript (.Name x px) (.Constant (.int 0) kd pk) ps) scope lpos) X.env; standAt pos; pure v) :: [])) _ _ s1
  refine wpAny_evalAll_cons (wpAny_bind (lam_make2 I1 TB hcode hmT hu hT hdef (fun y hy z => absurd z (L.free y hy)) fun f c' pm ctv H2 s2 I2 eN T2 hlam hfn hfr hco => wpAny_bind (wpAny_standAt (wpAny_pure (wpAny_evalAll_nil ?_)))))
  show wpAny _ _ (call (.builtin "sorted") [.ref l] [(Str.ofString "key", .ref f)]) _ _ s2
  obtain ⟨its, rv, hpl2, hz⟩ := I2.list (sql_ext eN hl)
  obtain ⟨bs, e1, e2, e3⟩ := firsts_items I2 (firsts_ext eN hf) rv
  obtain ⟨⟨oc, vsc, tc, hoc, hdc, hvc⟩, _, _⟩ := I2.hok c' _ hco
  refine PySem.W.sorted_key_data (b := false) (fun b : V × Str => .str b.2) hpl2.isList e1 (PySem.W.AllAlike.of fun _ _ => by simp [PySem.W.alike]) (PySem.W.Sortable.others fun _ => ⟨by simp, by simp⟩) (by rw [e3]; exact hz) (fun b _ => ?_) (ksk_s1 _ _) (fun _ => ksk_l1 _ _) (fun _ => ksk_t1 _ _)
    (fun v b hb _ h tk kp => ?_) fun out cc h' tk kp fr hD hlen eo => ?_
  · have hd : (PyData.str b.2).depth = 0 := by simp [PyData.depth]
    have := hr.un
    omega
  · obtain ⟨_, t, its, tz, rfl, ht, h0⟩ := hb
    have r2 : Room (k + 1) X.A.in1.in1 := (hr.in1).in1
    exact lam_item0 (s := { s2 with heap := h, toks := tk }) L r2.depth (I2.nolimit.keeps kp) (kp _ _ hlam) ⟨c', oc, vsc, tc, rfl, kp _ _ hoc, hdc, hvc⟩ (ht.keeps kp) h0
  · have hv : Vals ((bs.mergeSort (PySem.W.dataLe false fun b : V × Str => .str b.2)).map (·.1)) out := vals_each eo
    have hp : ((bs.mergeSort (PySem.W.dataLe false fun b : V × Str => .str b.2)).map (·.1)).Perm xs := by
      rw [← e2]
      exact (List.mergeSort_perm _ _).map _
    have nn : H2 (s2.heap.objs.size + 1) = none := I2.hok.fresh (Nat.le_succ _)
    exact ⟨.ref _, _, list_laid I2 (by rw [hp.length_eq]; exact hz) hv kp nn (fun b o z => Nat.ne_of_lt (Nat.lt_succ_of_lt (Heap.lt_size z))) hD, rfl, q H2 _ _ eN T2 hp nn⟩
end
end LamX
namespace L2
open PySem PySem.Spec PyProof.Rows
section
variable {J : It} {n : Nat} {G : Hp → Prop} {Y : Nat → Hp → V → Hp → Prop}
/-- a dict comprehension over such a walk -/
theorem dc_it (w : Walk J n G Y) {g : TG} {tt : TT} {tk tv : TE} {vs : List Nat} {σ : St} {H1 : Hp} {D : Addr} {Qd : Hp → Prop} (Pv : Nat → Hp → Prop) (h0 : Pv 0 (upd H1 D (.dK []))) (hG : ∀ i H, i ≤ n → Pv i H → G H)
    (hs : ∀ i x H H', i < n → Pv i H → Y i H x H' → g x (wipe σ vs) H' fun σ2 H2 => wipe σ2 vs = wipe σ vs ∧ tt σ2 H2 fun b H3 =>
      if b = true then tk σ2 H3 fun y H4 => tv σ2 H4 fun z H5 => ∃ kvs k, y = kV k ∧ H5 D = some (.dK kvs) ∧ kvs.length < sizeLine ∧ Pv (i + 1) (upd H5 D (.dK (putK kvs k z))) else Pv (i + 1) H3) (hd : ∀ H, Pv n H → Qd H) :
    ∃ W : Nat → Nat → Hp → Prop, (∃ m, W 0 m (upd H1 D (.dK []))) ∧ ∀ i m H, W i m H →
      (J.stop i H ∧ Qd H) ∨ (J.go i H ∧ ∃ Nx : Hp → Prop, (∀ H', Nx H' → ∃ m', m' < m ∧ W (i + 1) m' H') ∧ ∀ x H', J.yld i H x H' → g x (wipe σ vs) H' fun σ2 H2 => wipe σ2 vs = wipe σ vs ∧ tt σ2 H2 fun b H3 =>
        if b = true then tk σ2 H3 fun y H4 => tv σ2 H4 fun z H5 => ∃ kvs k, y = kV k ∧ H5 D = some (.dK kvs) ∧ kvs.length < sizeLine ∧ Nx (upd H5 D (.dK (putK kvs k z))) else Nx H3) := by
  refine ⟨fun i m H => i + m = n ∧ Pv i H, ⟨n, by omega, h0⟩, fun i m H hw => ?_⟩
  obtain ⟨e, p⟩ := hw
  cases m with
  | zero =>
    obtain rfl : i = n := e
    exact .inl ⟨w.stops H (hG i H (Nat.le_refl _) p), hd H p⟩
  | succ m =>
    have l : i < n := by omega
    have q := hG i H (by omega) p
    exact .inr ⟨w.goes i H l q, Pv (i + 1), fun H' p' => ⟨m, Nat.lt_succ_self m, by omega, p'⟩, fun x H' y => hs i x H H' l p (w.yields i H x H' l q y)⟩
end
/-- a def of which the code object is known -/
theorem Fun.okC {P : Program} {w : World} {K : PySem.W.Frag} {mg : Str → Option Value} {base : Heap} {x qual : Str} {st : Stmt} {f c : Addr} {fd : FuncData} {N ps : List Str} {k : Nat} {sp : Sp} (F : Fun K x qual st f fd) (hc : fd.code = .ref c) (S : FnScope N ps (defScope st))
    (len : ∀ vs H Q E, sp vs H Q E → vs.length = ps.length)
    (body : ∀ (A : Around) (outer : List Env) (s : Shared) (H : Hp) (vs : List V) (Q : VK) (E : XK), Room k (A.deeper (envOfC qual (defScope st) s.heap.objs.size f (.ref c))) → sp vs H Q E →
      ∃ t, PSs (cxOf CX0 P w K mg base N qual (defScope st) f (.ref c) A outer s H E).nox (defBody st) t ∧ t { nx := fun _ H' => Q .non H', rt := Q } (start N vs) H) : FnOk P w K mg base CX0 (k + 1) f fd ps sp := by
  obtain ⟨a1, a2, a3, a4, a5, a6, a7, a8, a9, e, look, code⟩ := F.ex
  subst e
  have hc : a7 = .ref c := hc
  subst hc
  exact fn_of look code S len fun A outer s H vs Q E hr hsp => let ⟨t, h, q⟩ := body A outer s H vs Q E hr hsp; ⟨t, h.nox, q⟩
end L2

set_option Elab.async false
set_option linter.all false
set_option maxRecDepth 100000
set_option maxHeartbeats 4000000
/-! # CwLenSet: len(set(t)), t a tuple of texts, any of them twice -/
namespace CwSet
open PySem PyProof.Rows SS PySem.Calls
/-- how many different ones -/
def cnt : List Str → Nat
  | [] => 0
  | x :: xs => if xs.any (· == x) then cnt xs else cnt xs + 1
/-- the same, counted from the left -/
def cntL (xs : List Str) : Nat := cnt xs.reverse
theorem cntL_snoc (xs : List Str) (x : Str) : cntL (xs ++ [x]) = if xs.any (· == x) then cntL xs else cntL xs + 1 := by
  unfold cntL
  rw [List.reverse_append]
  show (if xs.reverse.any (· == x) then _ else _) = _
  rw [List.any_reverse]
  rfl
theorem cnt_le : ∀ xs : List Str, cnt xs ≤ xs.length
  | [] => Nat.le_refl _
  | x :: xs => by
    have := cnt_le xs
    unfold cnt
    rw [List.length_cons]
    split <;> omega
theorem cntL_le (xs : List Str) : cntL xs ≤ xs.length := by
  have := cnt_le xs.reverse
  rw [List.length_reverse] at this
  exact this
theorem cnt_eq : ∀ xs : List Str, cnt xs = xs.length ↔ xs.Nodup
  | [] => ⟨fun _ => List.nodup_nil, fun _ => rfl⟩
  | x :: xs => by
    have h := cnt_eq xs
    have l := cnt_le xs
    unfold cnt
    rw [List.length_cons, List.nodup_cons]
    split
    · rename_i e
      obtain ⟨y, m, e⟩ := List.any_eq_true.mp e
      rw [beq_iff_eq] at e
      subst e
      exact ⟨fun g => by omega, fun g => absurd m g.1⟩
    · rename_i e
      have nm : x ∉ xs := fun m => e (List.any_eq_true.mpr ⟨x, m, beq_self_eq_true x⟩)
      constructor
      · intro g
        exact ⟨nm, h.mp (by omega)⟩
      · intro g
        have := h.mpr g.2
        omega
theorem cntL_eq (xs : List Str) : cntL xs = xs.length ↔ xs.Nodup := by
  have h := cnt_eq xs.reverse
  rw [List.length_reverse] at h
  exact h.trans ⟨fun g => (List.reverse_perm xs).nodup_iff.mp g, fun g => (List.reverse_perm xs).nodup_iff.mpr g⟩
/-- the set's state once the first i are in -/
abbrev Filled (p : Program) (w : World) (h : Heap) (S : Addr) (ys : List Str) : Prop := h.SetOf (PySem.strKind p w) S (fun z => ys.any (· == z)) (cntL ys)
theorem Filled.moved {p : Program} {w : World} {h g : Heap} {S : Addr} {ys : List Str} (f : Filled p w h S ys) (k : ∀ o, h.get? S = some o → g.get? S = some o) : Filled p w g S ys :=
  let ⟨o, a, b, c, e, r⟩ := f
  ⟨o, a, b, c, k o e, r⟩
section
variable {p : Program} {w : World} {A : Around} {R : Result → Shared → Prop} {I : Addr} {fp wr : List Addr} {G : Array GenState → Array GenState → Prop} {n : Nat} {P : Nat → Value → Prop} {St : Nat → Shared → Prop}
theorem fill (W : WalksS p w A.in1 I fp wr G n P St) (S : Addr) (off : S ∉ fp) (xs : List Str) (len : xs.length = n) (small : n < 4000) (item : ∀ i v, P i v → ∃ t, v = .str (xs.getD i Str.empty) t) :
    ∀ (k i : Nat) (s : Shared), k + i = n → St i s → Filled p w s.heap S (xs.take i) → (∀ s', Moved (S :: wr) G s s' → Filled p w s'.heap S xs → R (.ok (.ret .none)) s') →
      codeAny (model p w) A (.builtin "set.update.loop" ⟨[.ref S, .ref I], []⟩) R s
  | 0, i, s, e, st, fl, fin => by
    obtain rfl : i = n := by omega
    have offw : S ∉ wr := fun h => off (W.sub _ h)
    refine codeAny_builtin F.entry_set_update_loop ?_
    rw [Around.under_plainId (F.plain_set_update_loop) _]
    show wpAny _ A.in1 (pyNext (.ref I) >>= _) _ _ s
    refine wpAny_bind (W.done s _ _ st fun s' mv => ?_)
    show wpAny (model p w) A.in1 (ret .none) _ _ s'
    refine wpAny_pure (fin s' (mv.mono fun b m => List.mem_cons_of_mem S m) ?_)
    rw [← len, List.take_length] at fl
    exact fl.moved fun o q => mv.heap S o offw q
  | k + 1, i, s, e, st, fl, fin => by
    have lt : i < n := by omega
    have offw : S ∉ wr := fun h => off (W.sub _ h)
    refine codeAny_builtin F.entry_set_update_loop ?_
    rw [Around.under_plainId (F.plain_set_update_loop) _]
    show wpAny _ A.in1 (pyNext (.ref I) >>= _) _ _ s
    refine wpAny_bind (W.item i s _ _ lt st fun v s1 pv st1 mv => ?_)
    obtain ⟨t, rfl⟩ := item i v pv
    have fl1 : Filled p w s1.heap S (xs.take i) := fl.moved fun o q => mv.heap S o offw q
    show wpAny _ A.in1 (holding [Value.str (xs.getD i Str.empty) t] (setAdd S (.str (xs.getD i Str.empty) t)) >>= _) _ _ s1
    refine wpAny_bind (wpAny_holding ?_)
    unfold setAdd
    refine wpAny_holding (wpAny_bind ((PySem.strKind p w).pyHash (k := xs.getD i Str.empty) (strKind_is _ _ _ _) ?_))
    have small1 : cntL (xs.take i) + 1 < scanBound := by
      have := cntL_le (xs.take i)
      rw [List.length_take] at this
      unfold scanBound
      omega
    refine wpAny_setAddHashed_of (knd := PySem.strKind p w) (s := { s1 with toks := s1.toks + 1 }) (strKind_is _ _ _ _) rfl fl1 small1 fun g but set2 => ?_
    have next : xs.take (i + 1) = xs.take i ++ [xs.getD i Str.empty] := by
      rw [List.take_add_one, List.getD_eq_getElem?_getD, List.getElem?_eq_getElem (by omega : i < xs.length)]
      rfl
    have fl2 : Filled p w g S (xs.take (i + 1)) := by
      unfold Filled
      rw [next, cntL_snoc]
      refine SetOf_congr set2 (fun z => ?_) rfl
      rw [List.any_append]
      congr 1
      simp only [List.any_cons, List.any_nil, Bool.or_false]
      rw [Bool.eq_iff_iff, decide_eq_true_iff, beq_iff_eq]
      exact eq_comm
    refine wpAny_pure ⟨plainId_quiet (F.plain_set_update_loop) _, fill W S off xs len small item k (i + 1) _ (by omega) (W.frame _ s1 _ _ st1 (Nat.le_succ _) fun b hb o q => ?_) fl2 fun s2 mv2 fl3 => ?_⟩
    · rw [but.2 b (fun z : b = S => off (by rw [← z]; exact hb))]
      exact q
    · refine fin s2 (Moved.trans W.gtrans ((mv.mono fun b m => List.mem_cons_of_mem S m).then_heap (Nat.le_succ _) fun b o hb q => ?_) mv2) fl3
      rw [but.2 b (fun z : b = S => hb (by rw [z]; exact List.mem_cons_self))]
      exact q
end
/-- the object of a set just made -/
abbrev bare (led : Bool) : Obj := { cls := .type "set", dict := none, data := .set #[] 0 (.fresh 0 0 led) }
section
variable {p : Program} {w : World} {A : Around} {E : Value → Shared → Prop} {s : Shared}
/-- set.__init__ of a set just made, at S, by the tuple at l -/
theorem init_tuple {l : Addr} {items : Array Value} {xs : List Str} {led : Bool} (calm : A.handled = none) (tup : s.heap.IsTuple l items) (txs : StrsAre items.toList xs) (small : xs.length < 4000) {Q : PySem.Fin → Shared → Prop}
    (h : ∀ (h' : Heap) (tk : Nat), Filled p w h' s.heap.objs.size xs → (∀ b o, s.heap.get? b = some o → h'.get? b = some o) → Q (.done (.ret .none)) { s with heap := h', toks := tk }) :
    wpAny (model p w) A (Builtin.«set.__init__» ⟨[.ref s.heap.objs.size, .ref l], []⟩) Q E { s with heap := s.heap.push (bare led) } := by
  obtain ⟨⟨c0, d0, d1, sl0⟩, at0, c1, n0, d2⟩ := tup
  simp only at c1 d2
  subst c1
  subst d2
  have below : l < s.heap.objs.size := Heap.lt_size at0
  have at1 : (s.heap.push (bare led)).get? l = some { cls := .type "tuple", dict := d0, data := .seq items n0, slots := sl0 } := Heap.get?_push_of_some _ at0
  have tup1 : (s.heap.push (bare led)).IsTuple l items := ⟨_, at1, rfl, n0, rfl⟩
  have atS : (s.heap.push (bare led)).get? s.heap.objs.size = some (bare led) := Heap.get?_push_size _ rfl
  have k1 := F.sub_tuple_set
  have k2 := F.sub_tuple_frozenset
  have k3 : (Value.type "tuple" == Value.type "dict") = false := by decide
  have sz1 : (s.heap.push (bare led)).objs.size = s.heap.objs.size + 1 := Heap.size_push ..
  unfold Builtin.«set.__init__» noKeywords Builtin.Frozenset.updateFrom
  generalize eIter : pyIter = IT
  wp_walk
  subst eIter
  refine wpAny_pyIter_tuple tup1 (wpAny_bind (wpAny_runValue ?_))
  have lenI : xs.length = items.size := by rw [← StrsAre.len_eq txs, Array.length_toList]
  have neI : l ≠ (s.heap.push (bare led)).objs.size := fun e => by
    rw [sz1] at e
    exact Nat.lt_irrefl _ (Nat.lt_of_lt_of_le (e ▸ below) (Nat.le_succ _))
  have offS : s.heap.objs.size ∉ [(s.heap.push (bare led)).objs.size, l] := fun m => by
    rcases List.mem_cons.mp m with e | m
    · rw [sz1] at e
      exact Nat.ne_of_lt (Nat.lt_succ_self _) e
    · exact Nat.ne_of_gt below (List.mem_singleton.mp m)
  refine fill ((Walks.tuple (by simpa using calm) _ l neI items).toS) s.heap.objs.size offS xs lenI (by omega) (fun i v q => strs_at txs i v (by rw [Array.getElem?_toList]; exact q)) items.size 0 _ (by omega)
    ⟨⟨_, Heap.get?_push_size _ rfl, rfl, rfl⟩, tup1.push _⟩ ?_ fun s' mv fl => ?_
  · refine SetOf_congr ((setObjOf_fresh (knd := PySem.strKind p w) led).setOf (Heap.get?_push_of_some _ atS) (by unfold scanBound; omega)) (fun _ => rfl) rfl
  · obtain ⟨h', g', d', tk', o'⟩ := s'
    obtain rfl : g' = s.gens := mv.gens
    obtain rfl : d' = s.drawn := mv.drawn
    obtain rfl : o' = s.os := mv.os
    show wpAny _ _ _ _ _ _
    refine wpAny_pure ?_
    show wpAny (model p w) _ (ret .none) _ _ _
    refine wpAny_pure (h h' tk' fl fun b o q => ?_)
    have lb := Heap.lt_size q
    refine mv.heap b o (fun m => ?_) (Heap.get?_push_of_some _ (Heap.get?_push_of_some _ q))
    rcases List.mem_cons.mp m with e | m
    · exact Nat.ne_of_lt lb e
    · have e := List.mem_singleton.mp m
      rw [sz1] at e
      exact Nat.ne_of_lt (Nat.lt_succ_of_lt lb) e
theorem call_setT {l : Addr} {items : Array Value} {xs : List Str} (calm : A.handled = none) (tup : s.heap.IsTuple l items) (txs : StrsAre items.toList xs) (small : xs.length < 4000) {Q : Value → Shared → Prop}
    (h : ∀ (h' : Heap) (tk : Nat), Filled p w h' s.heap.objs.size xs → (∀ b o, s.heap.get? b = some o → h'.get? b = some o) → Q (.ref s.heap.objs.size) { s with heap := h', toks := tk }) :
    wpAny (model p w) A (call (.type "set") [.ref l]) Q E s := by
  obtain ⟨c, tl, mro⟩ := F.called_set.mro
  have f1 := F.called_set.made
  have f2 := F.called_set.sub
  refine wpAny_call (codeAny_of_tree ?_)
  show wpAny _ _ (callAny (.type "set") _) _ _ s
  refine wpAny_pure ⟨Code.quiet_builtin _ (by decide +kernel), codeAny_builtin (F.entry_type_call) ?_⟩
  rw [Around.under_plain (weight_type_call_type "set" [.ref l] []) rfl]
  have f3 := F.called_set.notType
  have f4 := F.called_set.canCreate
  have f5 := F.typeCall_set_1 (.ref l)
  repeat (any_goals (first | assumption | wp_step))
  refine codeAny_mono (code_set_new_1 (.ref l) (E := E) (Q₁ := fun v z => ∃ led : Bool, v = .ref s.heap.objs.size ∧ z = { s with heap := s.heap.push (bare led) }) fun led => ⟨led, rfl, rfl⟩) fun r z hr => ?_
  cases r with
  | error e => exact hr
  | ok fl =>
    cases fl with
    | ret v =>
      obtain ⟨led, rfl, rfl⟩ := hr
      have ty : Shared.TypeIs { s with heap := s.heap.push (bare led) } (.ref s.heap.objs.size) "set" := ⟨_, Heap.get?_push_size _ rfl, rfl⟩
      have g1 := F.called_set.init.lookup
      have g2 := F.called_set.init.bind (.ref s.heap.objs.size)
      repeat (any_goals (first | assumption | wp_step))
      refine codeAny_mono (codeAny_call_builtin (R := wants (fun v z => v = .none ∧ ∃ h' tk, z = { s with heap := h', toks := tk } ∧ Filled p w h' s.heap.objs.size xs ∧ ∀ b o, s.heap.get? b = some o → h'.get? b = some o) E) F.called_set.init.plain (F.entry_set_init) (check_set_init_1 ty ?_)) fun r z hr => ?_
      · exact init_tuple (by simpa using calm) tup txs small fun h' tk fl k => ⟨rfl, h', tk, rfl, fl, k⟩
      · cases r with
        | error e => exact hr
        | ok fl =>
          cases fl with
          | ret v =>
            obtain ⟨rfl, h', tk, rfl, fl, k⟩ := hr
            repeat (any_goals (first | assumption | wp_step))
            exact h _ _ fl k
          | _ => exact hr.elim
    | _ => exact hr.elim
end
end CwSet
namespace L2
open PySem PySem.Spec PyProof.Rows
/-- len(set(t)), t a tuple of texts -/
def tLenSetT (K : PySem.W.Frag) (ta : TE) : TE := fun σ H Q => ta σ H fun x H1 => ∃ (l : Addr) (xs : List Str), x = .ref l ∧ SqT K H1 l (xs.map V.str) ∧ xs.length < 4000 ∧ Q (.int (CwSet.cntL xs : Nat)) H1
theorem pe_lenSetT {X : Cx} {a : Expr} {ta : TE} {p p2 q pos : Pos} (hg : Gl X "len") (hm : X.mg "len" = none) (hg2 : Gl X "set") (hm2 : X.mg "set" = none) (ha : PE X a ta) (hc : X.calm = true := by rfl)
    (na : starEach [a] X.env = (false, eval a X.env) :: starEach [] X.env := by rfl) : PE X (.Call (.Name "len" p) [.Call (.Name "set" p2) [a] [] q] [] pos) (tLenSetT X.K ta) := by
  refine ⟨fun pins s σ H Q I h => Call_ (ld_blt I hg hm boot_len (callWith_builtin1 (args_cons (Call_ (ld_blt I hg2 hm2 boot_set (callWith_type1 (args_cons (thn (ha.run pins s σ H _ I h) fun v s1 ⟨x, H1, I1, r1, q1⟩ => args_nil ?_) na) na rfl))) rfl) rfl rfl))⟩
  obtain ⟨l, xs, rfl, hq, hl, q1⟩ := q1
  cases r1
  obtain ⟨its, r, pl, hz⟩ := I1.tuple hq
  refine CwSet.call_setT (I1.ok.hd hc) pl (by simpa using strsAre_of r) hl fun h' tk fl k => args_nil ?_
  obtain ⟨o, es, ep, t, ho, hex, hd, _, _, _, hf, hn⟩ := fl
  have I2 : Inv X pins σ H1 { s1 with heap := h', toks := tk } := I1.kept k
  refine call_len_set ho hex hd hf ?_ ⟨.int (CwSet.cntL xs : Nat), H1, I2.tok _, ⟨_, by rw [hn]⟩, q1⟩
  have := CwSet.cntL_le xs
  rw [hn]
  omega
end L2

set_option Elab.async false
set_option linter.all false
set_option maxRecDepth 100000
set_option maxHeartbeats 2000000
/-! # CwLenOwn: len(x), where x's class has a __len__ of its own -/
namespace L2
open PySem PySem.Spec PyProof.Rows
def rLenOwn (C : Addr) (sp : Sp) (E : XK) : List V → Hp → VK → Prop := fun xs H Q => ∃ (a dx : Addr) (fs : List (Str × V)), xs = [.ref a] ∧ H a = some (.ins C dx fs) ∧ sp [.ref a] H (fun v H' => ∃ n : Nat, v = .int (n : Int) ∧ (n : Int) < 2 ^ 63 ∧ Q (.int (n : Int)) H') E
section
variable {X : Cx} {CX : CXT} {C f : Addr} {fd : FuncData} {ps : List Str} {sp : Sp} {E : XK} {n : Nat}
theorem call_lenOwn (F : FnOk X.prog X.w X.K X.mg X.base CX n f fd ps sp) (hr : Room (n + 1) X.A) (hs : PySem.W.findIn X.K (.ref C) "__len__" = some (some (.ref f))) (hf : PySem.W.isFn X.K (.ref f) = true) (hb : Binds X.K fd ps []) (hx : Passes CX X E) : CallR X (.builtin "len") (rLenOwn C sp E) := by
  intro pins s σ H xs us Q I rv hq
  obtain ⟨a, dx, fs, rfl, ha, hsp⟩ := hq
  cases rv with
  | cons r1 t =>
    cases t
    cases r1
    obtain ⟨mA, J, _⟩ := ins_get I.hok ha
    obtain ⟨od, J, _⟩ := J.look
    obtain ⟨m, hF⟩ := I.fr
    have sb : Sub X n X.A.in1 := Sub.in1 ⟨hr, rfl⟩
    refine PySem.W.len_K hF I.ok.mod.kin J hs hf ?_
    have e0 : Env0 X.prog X.w X.K X.mg X.base X.A.in1 X.stack s H := by
      have e := I.env0
      exact ⟨by rw [sb.fr]; exact e.frames, e.mod, e.bs, e.bsz, e.funs, e.frf, e.hok, e.bare⟩
    have hl := F.len _ _ _ _ hsp
    have r2 : Vals [V.ref a] [Value.ref a] := .cons rfl .nil
    refine wpAny_call (codeAny_mono (F.run X.A.in1 X.stack s H ⟨[.ref a], []⟩ [.ref a] [.ref a] _ E sb.room e0 (by
      have := hb s [.ref a] I.kIn (by simpa using hl)
      simpa using this) r2 hsp) fun r s' hq => ?_)
    cases r with
    | error e => exact hx pins σ H s e s' I hq
    | ok fl =>
      cases fl with
      | ret w =>
        obtain ⟨z, H', I', rz, k, ez, hk, q⟩ := I.after hq
        subst ez
        obtain ⟨t, rfl⟩ := rz
        exact ⟨⟨by omega, hk⟩, .int (k : Int), H', I'.tok _, ⟨_, rfl⟩, q⟩
      | next => exact False.elim hq
      | brk => exact False.elim hq
      | cont => exact False.elim hq
end
end L2

set_option Elab.async false
set_option linter.all false
set_option maxRecDepth 100000
set_option maxHeartbeats 4000000
/-! # CwTry: several clauses `except C as n` of one name -/
namespace L2
open PySem PySem.Spec PyProof.Rows
/-- the ends behind a suite whose name stands in slot i -/
def endAs (i : Nat) (D : Ends) : Ends := { nx := fun σ' H' => D.nx (σ'.set i none) H', rt := D.rt, bk := fun σ' H' => D.bk (σ'.set i none) H', ct := fun σ' H' => D.ct (σ'.set i none) H' }
def wManyAs (K : PySem.W.Frag) (i : Nat) (Wout : WX) (D : Ends) : List (Value × (Addr → Value → Option Addr → TS)) → WX
  | [] => Wout
  | (c, ts) :: r => fun cls d σ H => ∃ b, PySem.W.exmOne K cls c = some b ∧ (b = true → ∀ a, H a = none → ts a cls d (endAs i D) (σ.set i (some (.ref a))) H) ∧ (b = false → wManyAs K i Wout D r cls d σ H)
inductive HdsAs (X : Cx) (n : Str) : List ExceptHandler → List (Value × (Addr → Value → Option Addr → TS)) → Prop
  | nil : HdsAs X n [] []
  | cons {x : Str} {c : Value} {ts : Addr → Value → Option Addr → TS} {b₀ : Stmt} {suite : List Stmt} {np pos' : Pos} {hds : List ExceptHandler} {l : List (Value × (Addr → Value → Option Addr → TS))} (hc : Names X x c)
      (hsu : ∀ (a : Addr) (oe : Obj) (cls : Value) (d : Option Addr) (pn : List (Addr × Obj)), Zc cls d oe → (∃ vs, oe.data = .fields vs) → PSs (X.suite a ((a, oe) :: pn)) (b₀ :: suite) (ts a cls d)) (r : HdsAs X n hds l) :
      HdsAs X n (.ExceptHandler (some (.Name x np)) (some n) (b₀ :: suite) pos' :: hds) ((c, ts) :: l)
section
variable {X : Cx} {n : Str} {i : Nat} {body : List Stmt} {h₀ : ExceptHandler} {hds : List ExceptHandler} {l : List (Value × (Addr → Value → Option Addr → TS))} {pos : Pos} {tb : WX → TS} {Wout : WX}
theorem ps_try_manyAs (hs : X.stack = X.env :: X.outer) (hf : X.env.frame = some X.env.locals) (hN : X.N.Nodup) (hi : X.N[i]? = some n) (hln : X.env.kindOf n = some .local) (tk : Takes X Wout)
    (hb : ∀ (W : WX) (pn : List (Addr × Obj)) (xe : Value → Shared → Prop), Takes (X.tr pn xe) W → PassesOwn (model X.prog X.w) X.A X.env xe → PSs (X.tr pn xe) body (tb W))
    (hh : HdsAs X n (h₀ :: hds) l) : PS X (.Try body (h₀ :: hds) [] [] pos) (fun D σ H => tb (wManyAs X.K i Wout D l) D σ H) := by
  refine ⟨fun pins s σ H D I h => ?_⟩
  have ok := I.ok
  have hfr : X.A.frames = some (X.env :: X.outer) := by rw [ok.frames, hs]
  have hloc : Loc X.env.scope n := .inl hln
  refine wpAny_Try_except ?_
  refine wpAny_mono ((hb (wManyAs X.K i Wout D l) (X.pn ++ pins) (fun e s₁ => wpAny (model X.prog X.w) X.A (noteFrame e X.env) (fun _ s₂ => wpAny (model X.prog X.w) X.A (setFlight e none) (fun _ s₃ =>
    wpAny (model X.prog X.w) X.A (handleBy e X.env (h₀ :: hds)) (SP X pins D) X.xe s₃) X.xe s₂) X.xe s₁) (fun u s' xx => ?_) PassesOwn.looking).run [] s σ H D (I.toTry _) h) (fun f s1 hsp => ?_) (fun e s1 he => he)
  · -- the catch
    obtain ⟨a, B, sI, pins', σ', H', cls, d, rfl, J', nb, up, sky, na, os, ag, w⟩ := xx
    have J : Inv X pins σ' H' sI := J'.ofTry ok
    have sky' : Sky B (X.env :: X.outer) a (Zc cls d) X.env.locals s'.heap := by rw [← hs]; exact sky
    show wpAny (model X.prog X.w) X.A (noteFrame (.ref a) X.env) _ _ _
    refine Sky.land Zc.steady hfr hf sky' fun h3 fl3 up3 => ?_
    have J3 : Inv X pins σ' H' { s' with heap := h3 } := J.landed nb fl3.1 (up.trans up3) os ag
    obtain ⟨oe3, vs3, he3, hz3, hd3⟩ := fl3.there
    have notFr : ∀ {h : Heap} {o : Obj} {vs : Array Value}, h.FunFrames B (X.env :: X.outer) → h.get? a = some o → o.data = .fields vs → a ∉ frs (X.env :: X.outer) := fun {h o vs} ff e dd hm => by
      obtain ⟨_, o', e', hnf⟩ := ff.mem hm
      rw [e] at e'; cases e'
      exact hnf _ dd
    have nfr := notFr fl3.2.2.1 he3 hd3
    have nL : a ≠ X.env.locals := fun z => nfr (List.mem_filterMap.mpr ⟨X.env, List.mem_cons_self, by rw [hf, z]⟩)
    have nF : a ∉ X.fs := fun hm => by
      obtain ⟨e, he, q⟩ := List.mem_filterMap.mp hm
      exact nfr (List.mem_filterMap.mpr ⟨e, List.mem_cons_of_mem _ he, q⟩)
    have S3 := J3.suite he3 hd3 na nL nF
    have go : ∀ {hds' : List ExceptHandler} {l' : List (Value × (Addr → Value → Option Addr → TS))}, HdsAs X n hds' l' → wManyAs X.K i Wout D l' cls d σ' H' →
        wpAny (model X.prog X.w) X.A (handleBy (.ref a) X.env hds') (SP X pins D) X.xe { s' with heap := h3 } := by
      intro hds' l' hk
      induction hk with
      | nil =>
        intro w
        refine wpAny_handleBy_nil ?_
        obtain ⟨k1, k2, k3, oe, vs, T, oT, ts', he, hz, hd, h1, hr⟩ := id fl3
        unfold PySem.passOn
        refine wpAny_bind (wpAny_field he hd h1 ?_)
        rw [if_neg (show ¬ ((Value.ref T == Value.none) = true) from by simp)]
        have fin : wpAny (model X.prog X.w) X.A (setFlight (.ref a) X.env.frame) (fun _ s4 => wpAny (model X.prog X.w) X.A (throw (.ref a) : Sem Flow) (SP X pins D) X.xe s4) X.xe { s' with heap := h3 } := by
          rw [hf]
          refine HandSPX.setFlight_upZ fl3 fun h4 hh4 up4 => wpAny_throw (tk _ _ ?_)
          exact ⟨a, B, sI, pins, σ', H', cls, d, rfl, J, nb, (up.trans up3).trans up4, .inr (.inr (by rw [hs]; exact hh4)), na, os, ag, w⟩
        first
          | exact wpAny_bind (wpAny_pure (wpAny_bind fin))
          | exact wpAny_bind fin
      | @cons x c ts b₀ suite np pos' hds2 l2 hc hsu r ih =>
        intro w
        obtain ⟨b, hb1, hyes, hno⟩ := w
        refine wpAny_handleBy_cons (codeAny_handlers_test ?_) (by intro q; cases q)
        have LT : PySem.W.Looks (model X.prog X.w) h3 (typeOf (.ref a)) cls := fun A Q E s k q => wpAny_typeOf_ref (k _ _ he3) (by rw [hz3.1]; exact q)
        have LM := PySem.W.exm_one (M := model X.prog X.w) (J3.kIn) LT hb1
        have test : ∀ {Q : Value → Shared → Prop} {E : Value → Shared → Prop}, Q c { s' with heap := h3 } → wpAny (model X.prog X.w) (X.A.mark (some (.ref a))) (eval (.Name x np) X.env) Q E { s' with heap := h3 } := fun {Q E} q => by
          obtain ⟨hg, hdbg, hm | ⟨hm, hv, hnn⟩⟩ := hc
          · exact ld_glob (X := X.suite a ((a, oe3) :: (X.pn ++ pins))) S3 hg hm q hdbg
          · exact ld_blt (X := X.suite a ((a, oe3) :: (X.pn ++ pins))) S3 hg hm hv q hnn hdbg
        refine test (LM.here ?_)
        cases b with
        | true =>
          refine codeAny_handlers_suite_as ?_
          refine HandSPX.lands_againZ fl3 fun h4 fl4 up4 => ?_
          have J4 : Inv X pins σ' H' { s' with heap := h4 } := J.landed nb fl4.1 ((up.trans up3).trans up4) os ag
          obtain ⟨oe4, vs4, he4, hz4, hd4⟩ := fl4.there
          have S4 := J4.suite he4 hd4 na nL nF
          refine store_ok (X := X.suite a ((a, oe4) :: (X.pn ++ pins))) (v := .ref a) S4 hN hi hloc rfl (fun s5 S5 => ?_) (.inr hln)
          refine wpAny_mono ((hsu a oe4 cls d (X.pn ++ pins) hz4 ⟨_, hd4⟩).run [] s5 _ H' _ S5 (hyes rfl a na)) (fun f s6 hsp => ?_) (fun _ _ z => False.elim z)
          have end_ : ∀ {σ6 : St} {H6 : Hp} {Q : Shared → Prop}, Inv (X.suite a ((a, oe4) :: (X.pn ++ pins))) [] σ6 H6 s6 → (∀ s7, Inv X pins (σ6.set i none) H6 s7 → Q s7) →
              wpAny (model X.prog X.w) X.A (do bindName X.env n .none; unbindBehindTheSuite X.env n pos') (fun _ s7 => Q s7) X.xe s6 := fun {σ6 H6 Q} S6 hq => gone_ok (S6.unsuite ok) hN hi hln hq
          cases f with
          | next =>
            obtain ⟨σ6, H6, S6, q6⟩ := hsp
            exact end_ S6 fun s7 J7 => ⟨_, _, J7, q6⟩
          | brk =>
            obtain ⟨σ6, H6, S6, q6⟩ := hsp
            exact end_ S6 fun s7 J7 => ⟨_, _, J7, q6⟩
          | cont =>
            obtain ⟨σ6, H6, S6, q6⟩ := hsp
            exact end_ S6 fun s7 J7 => ⟨_, _, J7, q6⟩
          | ret u =>
            obtain ⟨v6, σ6, H6, S6, r6, q6⟩ := hsp
            exact end_ S6 fun s7 J7 => ⟨_, _, _, J7, r6, q6⟩
        | false =>
          show wpAny _ X.A (handleBy (.ref a) X.env hds2) _ _ _
          exact ih (hno rfl)
    exact go hh w
  · cases f with
    | next =>
      obtain ⟨σ', H', J', q⟩ := hsp
      exact wpAny_execs_nil ⟨σ', H', J'.ofTry ok, q⟩
    | brk =>
      obtain ⟨σ', H', J', q⟩ := hsp
      exact ⟨σ', H', J'.ofTry ok, q⟩
    | cont =>
      obtain ⟨σ', H', J', q⟩ := hsp
      exact ⟨σ', H', J'.ofTry ok, q⟩
    | ret u =>
      obtain ⟨v, σ', H', J', r, q⟩ := hsp
      exact ⟨v, σ', H', J'.ofTry ok, r, q⟩
end
end L2

set_option Elab.async false
set_option linter.all false
set_option maxRecDepth 100000
set_option maxHeartbeats 4000000
/-! # CwEx: exception classes one step below an own class over Exception, each with an `__init__` that stores its arguments. -/
namespace PySem
namespace CwEx
open Builtin Builtin.ObjectAttr PySem.HandSPX
/-- what stands behind the two own classes in the order of search -/
abbrev tl3 : List Value := [.type "Exception", .type "BaseException", .type "object"]
theorem has_iff (CE : Addr) (Y : String) : (Value.ref CE :: tl3).contains (.type Y) = tl3.contains (.type Y) := by
  rw [List.contains_cons]
  rfl
theorem has_obj (C CE : Addr) : (Value.ref C :: Value.ref CE :: tl3).contains (.type "object") = true := by
  rw [List.contains_cons, has_iff, show tl3.contains (Value.type "object") = true from by decide +kernel, Bool.or_true]
theorem pass2 (self : Value) (C CE : Addr) : refuseLoop self "__setattr__" (Value.ref C :: Value.ref CE :: tl3) = pure () := by
  rw [refuseLoop_ref, refuseLoop_ref]
  exact F.store_Exception.passes _
section
variable {prog : Program} {w : World} {A : Around} {E : Value → Shared → Prop} {R : Result → Shared → Prop} {h0 : Heap} {gs : Array GenState} {dr : Drawn} {t : Nat} {os : OsState}
/-- up to the own dict -/
theorem to_dict {K : W.Frag} {fld : Str} {tk : Tok} {val : Value} {x C CE : Addr} {ob : Obj} {od : Option Obj} {cd : ClassData}
    (KX : K.In h0) (J : W.InstAt h0 x ob C od) (hcd : W.clsIn K C = some cd) (hm : cd.mro = .ref C :: .ref CE :: tl3) (hno : W.findIn K (.ref C) fld = some none)
    (go : wpAny (model prog w) A.in1 (storeInOwnDict (.ref x) (.ref C) (.str fld tk) fld val false)
      (fun fin s' => match fin with | .done f => R (.ok f) s' | .again c' => c'.quiet = true ∧ codeAny (model prog w) A c' R s') (fun e s' => R (.error e) s') ⟨h0, gs, dr, t, os⟩) :
    codeAny (model prog w) A (.call (.builtin "object.__setattr__") ⟨[.ref x, .str fld tk, val], []⟩) R ⟨h0, gs, dr, t, os⟩ := by
  have SO := F.store_object
  have inM : W.mroIn K C (.type "object") = some true := by
    unfold W.mroIn
    rw [hcd, Option.bind_some, hm, if_neg (by simp), has_obj]
  have isO : W.Looks (model prog w) h0 (isInstance (.ref x) (.type "object")) true := J.type.andThen (W.looks_mroIn KX inM)
  have row : W.Looks (model prog w) h0 (mroOf (.ref C)) cd.mro := (W.looks_clsIn KX hcd).andThen .now
  have noTk : W.Looks (model prog w) h0 (storeTaker? none) none := .now
  have free : refuseLoop (.ref x) "__setattr__" cd.mro = pure () := by rw [hm]; exact pass2 _ _ _
  refine codeAny_call_builtin SO.slot.plain SO.entry (@W.check_slot (model prog w) _ _ ⟨h0, gs, dr, t, os⟩ "object.__setattr__" "object" "__setattr__" (.ref x) [.str fld tk, val] [] _ SO.kind SO.split isO (SO.args (.ref x) (.str fld tk) val) ?_)
  rw [W.osa_eq, refuse_eq]
  refine wpAny_bind (wpAny_bind (J.type.at (wpAny_bind (row.at ?_))))
  rw [free]
  exact wpAny_pure (wpAny_bind (J.type.at (wpAny_bind ((W.looks_findIn KX hno).at (wpAny_bind (noTk.at go))))))
theorem put_first {K : W.Frag} {fld : Str} {tk : Tok} {val : Value} {x C CE : Addr} {fv : Array Value} {cd : ClassData}
    (KX : K.In h0) (hx : h0.get? x = some { cls := .ref C, data := .fields fv }) (hcd : W.clsIn K C = some cd) (hm : cd.mro = .ref C :: .ref CE :: tl3) (hh : cd.hasDict = true) (hno : W.findIn K (.ref C) fld = some none)
    (go : ∀ h' tk' dx, (∀ b o, b ≠ x → h0.get? b = some o → h'.get? b = some o) → h0.objs.size ≤ dx → dx ≠ x → h'.get? x = some { cls := .ref C, dict := some dx, data := .fields fv } →
      h'.Ns1 dx (fun y => if y = fld then some val else none) → R (.ok (.ret .none)) ⟨h', gs, dr, tk', os⟩) :
    codeAny (model prog w) A (.call (.builtin "object.__setattr__") ⟨[.ref x, .str fld tk, val], []⟩) R ⟨h0, gs, dr, t, os⟩ := by
  have J : W.InstAt h0 x { cls := .ref C, data := .fields fv } C none := ⟨hx, rfl, rfl, trivial⟩
  have apart : x ≠ h0.objs.size := Nat.ne_of_lt (Heap.lt_size hx)
  refine to_dict KX J hcd hm hno ?_
  have lk : W.Looks (model prog w) h0 (classData C) cd := W.looks_clsIn KX hcd
  rcases cd with ⟨c1, c2, c3, c4, c5, c6, c7, c8, c9, c10, c11⟩
  dsimp only at hh
  subst hh
  unfold storeInOwnDict ownDictForStores
  repeat (first | with_reducible refine HandSPX.store_in_new ?_ ?_ | with_reducible refine wpAny_loadPart_at hx ?_ | with_reducible refine lk.at ?_ | wp_step)
  · exact ⟨_, #[], _, (Heap.get?_update_ne _ _ _ _ apart.symm).trans (Heap.get?_push_at rfl rfl), rfl, fun e he => absurd he (by simp), fun _ => rfl⟩
  · intro h' tk' nsd same
    have hx' : (h0.push { cls := .type "dict", data := .dict #[] }).get? x = some { cls := .ref C, data := .fields fv } := Heap.get?_push_of_some _ hx
    refine go h' tk' h0.objs.size (fun b o hb ho => ?_) (Nat.le_refl _) apart.symm ?_ nsd
    · exact (same.2 b (Nat.ne_of_lt (Heap.lt_size ho))).trans ((Heap.get?_update_ne _ _ _ _ hb).trans (Heap.get?_push_of_some _ ho))
    · exact (same.2 x apart).trans (Heap.get?_update_self _ hx' rfl)
theorem put_next {K : W.Frag} {fld : Str} {tk : Tok} {val : Value} {x C CE dx : Addr} {fv : Array Value} {cd : ClassData} {m0 : Str → Option Value} {nl : List Str}
    (KX : K.In h0) (hx : h0.get? x = some { cls := .ref C, dict := some dx, data := .fields fv }) (hns : h0.Ns1 dx m0) (hw : Within m0 nl) (hz : nl.length ≤ 1000) (hcd : W.clsIn K C = some cd) (hm : cd.mro = .ref C :: .ref CE :: tl3) (hh : cd.hasDict = true)
    (hno : W.findIn K (.ref C) fld = some none)
    (go : ∀ h' tk', (∀ b o, b ≠ dx → h0.get? b = some o → h'.get? b = some o) → h'.Ns1 dx (fun y => if y = fld then some val else m0 y) → R (.ok (.ret .none)) ⟨h', gs, dr, tk', os⟩) :
    codeAny (model prog w) A (.call (.builtin "object.__setattr__") ⟨[.ref x, .str fld tk, val], []⟩) R ⟨h0, gs, dr, t, os⟩ := by
  obtain ⟨oD, _, _, hoD, _, _⟩ := hns.count hw
  have J : W.InstAt h0 x { cls := .ref C, dict := some dx, data := .fields fv } C (some oD) := ⟨hx, rfl, rfl, hoD⟩
  refine to_dict KX J hcd hm hno ?_
  have lk : W.Looks (model prog w) h0 (classData C) cd := W.looks_clsIn KX hcd
  rcases cd with ⟨c1, c2, c3, c4, c5, c6, c7, c8, c9, c10, c11⟩
  dsimp only at hh
  subst hh
  unfold storeInOwnDict ownDictForStores
  repeat (first | with_reducible refine PySem.OEX.store_in_old hns hw hz ?_ | with_reducible refine wpAny_loadPart_at hx ?_ | with_reducible refine lk.at ?_ | wp_step)
  intro h' tk' nsd same
  exact go h' tk' (fun b o hb ho => (same.2 b hb).trans ho) nsd
end
end CwEx
end PySem

set_option Elab.async false
set_option linter.all false
set_option maxRecDepth 100000
set_option maxHeartbeats 4000000
/-! ## the call of such a class, by place and by name -/
namespace PySem
namespace CwEx
open Builtin Builtin.ObjectAttr PySem.HandSPX
section
variable {M : Model} {A : Around} {E : Value → Shared → Prop} {h0 : Heap} {gs : Array GenState} {dr : Drawn} {t : Nat} {os : OsState}
variable {cn cq : Str} {C CE N : Addr} {bs : List Value} {hdct : Bool} {sn : List Str} {sub : List Value} {ab : Bool} {col : Option Bool} {dd : Option Addr} {k0 k1 k2 k3 k5 : Option Value}
variable {args : List Value} {kws : List (Str × Value)}
theorem kw_check_type {Q : Unit → Shared → Prop} (hC : h0.get? C = some (excClassObj cn cq C N bs (.ref CE :: tl3) hdct sn sub ab col dd k0 k1 k2 k3 k5 "Exception.__new__"))
    (go : Q () ⟨h0, gs, dr, t, os⟩) : wpAny M A (checkBuiltinCall "type.__call__" ⟨.ref C :: args, kws⟩) Q E ⟨h0, gs, dr, t, os⟩ := by
  have subT := tc_sub
  have isT : (⟨h0, gs, dr, t, os⟩ : Shared).TypeIs (.ref C) "type" := ⟨_, hC, rfl⟩
  simp only [checkBuiltinCall, tc_kind, tc_split]
  repeat (any_goals (first | assumption | with_reducible refine wpAny_loadPart_at hC ?_ | with_reducible refine wpAny_onRaise ?_ | with_reducible refine wpAny_map ?_ | wp_step))
theorem kw_check_new {Q : Unit → Shared → Prop} (hC : h0.get? C = some (excClassObj cn cq C N bs (.ref CE :: tl3) hdct sn sub ab col dd k0 k1 k2 k3 k5 "Exception.__new__"))
    (go : Q () ⟨h0, gs, dr, t, os⟩) : wpAny M A (checkBuiltinCall "Exception.__new__" ⟨.ref C :: args, kws⟩) Q E ⟨h0, gs, dr, t, os⟩ := by
  have F := F.excBase_Exception
  have holds : (Value.ref C :: Value.ref CE :: tl3).contains (.type "Exception") = true := by rw [List.contains_cons, has_iff, F.hasB, Bool.or_true]
  have star := F.noStar
  simp only [checkBuiltinCall, F.newKind, F.newSplit, F.newRow]
  repeat (first | refine wpAny_loadPart_at hC ?_ | (refine wpAny_isSubtype_exc hC ?_; rw [holds]) | refine wpAny_staticBase_exc hC ?_ | refine wpAny_madeBy_exc hC ?_ | simp only [bne_self_eq_false, Bool.false_eq_true, if_false] | wp_step)
  exact go
end
section
variable {prog : Program} {w : World} {A : Around} {E : Value → Shared → Prop} {R : Result → Shared → Prop} {h0 : Heap} {gs : Array GenState} {dr : Drawn} {t : Nat} {os : OsState}
variable {cn cq : Str} {C CE N : Addr} {bs : List Value} {hdct : Bool} {sn : List Str} {sub : List Value} {ab : Bool} {col : Option Bool} {dd : Option Addr} {k0 k1 k2 k3 k5 : Option Value}
variable {args : List Value} {kws : List (Str × Value)}
theorem kw_new (hC : h0.get? C = some (excClassObj cn cq C N bs (.ref CE :: tl3) hdct sn sub ab col dd k0 k1 k2 k3 k5 "Exception.__new__"))
    (go : R (.ok (.ret (.ref (h0.objs.size + 1)))) ⟨(h0.push (W.kdv_tup args)).push (excO C h0.objs.size), gs, dr, t, os⟩) (few : args.length ≤ sizeLine) :
    codeAny (model prog w) A (.builtin "Exception.__new__" ⟨.ref C :: args, kws⟩) R ⟨h0, gs, dr, t, os⟩ := by
  have F := F.excBase_Exception
  have ends := F.ends
  have has1 : (Value.ref C :: Value.ref CE :: tl3).contains (.type "Exception") = true := by rw [List.contains_cons, has_iff, F.hasB, Bool.or_true]
  have has2 : (Value.ref C :: Value.ref CE :: tl3).contains (.type "AttributeError") = false := by rw [List.contains_cons, has_iff, F.noAttr] <;> rfl
  have has3 : (Value.ref C :: Value.ref CE :: tl3).contains (.type "NameError") = false := by rw [List.contains_cons, has_iff, F.noName] <;> rfl
  refine codeAny_builtinAt F.entry ?_
  unfold Builtin.«BaseException.__new__»
  refine wpAt_bind ?_
  show wpAt _ _ _ (stack >>= _) _ _ _
  refine wpAt_bind (wpAt_stack fun p below => wpAt_of_wpAny ?_)
  wp_walk
  refine wpAt_of_wpAny ?_
  rw [F.owner]
  repeat (first | with_reducible refine wpAny_madeHere_exc F.canon hC ?_ | with_reducible refine wpAny_loadPart_at hC ?_ | (with_reducible refine wpAny_isSubtype_exc hC ?_; first | rw [has1] | rw [has2] | rw [has3]) | wp_step)
  show R _ _
  rw [Heap.size_push]
  exact go
theorem kw_type_call {fI : Addr} {Q : Fin → Shared → Prop} (hC : h0.get? C = some (excClassObj cn cq C N bs (.ref CE :: tl3) hdct sn sub ab col dd k0 k1 k2 k3 k5 "Exception.__new__"))
    (hi : W.Looks (model prog w) h0 (typeLookup (.ref C) "__init__") (some (.ref fI))) (hb : ∀ self, W.Looks (model prog w) h0 (bindSpecial (.ref fI) self) (.ref fI, [self])) (few : args.length ≤ sizeLine)
    (go : codeAny (model prog w) A (.call (.ref fI) ⟨.ref (h0.objs.size + 1) :: args, kws⟩)
      (fun r s' => match r with | .ok (.ret v) => v = .none ∧ Q (.done (.ret (.ref (h0.objs.size + 1)))) s' | .ok _ => False | .error e => E e s')
      ⟨(h0.push (W.kdv_tup args)).push (excO C h0.objs.size), gs, dr, t, os⟩) :
    wpAny (model prog w) A (Builtin.«type.__call__» ⟨.ref C :: args, kws⟩) Q E ⟨h0, gs, dr, t, os⟩ := by
  have Fe := F.excBase_Exception
  repeat (first | with_reducible refine wpAny_loadPart_at hC ?_ | with_reducible refine wpAny_madeBy_exc hC ?_ | wp_step)
  refine codeAny_call_builtin_code (Code.quiet_builtin _ Fe.quiet) (kw_check_new hC ?_)
  refine kw_new hC ?_ few
  show wpAny _ _ _ _ _ _
  have grow : ∀ b o, h0.get? b = some o → ((h0.push (W.kdv_tup args)).push (excO C h0.objs.size)).get? b = some o := fun b o e => Heap.get?_push_of_some _ (Heap.get?_push_of_some _ e)
  have hC1 := grow _ _ hC
  have got : ((h0.push (W.kdv_tup args)).push (excO C h0.objs.size)).get? (h0.objs.size + 1) = some (excO C h0.objs.size) := by heap_get
  have self1 : (Value.ref C :: Value.ref CE :: tl3).contains (.ref C) = true := by simp
  have lk1 := hi.keeps grow
  have bd1 := (hb (.ref (h0.objs.size + 1))).keeps grow
  unfold isInstance
  repeat (first | with_reducible refine wpAny_loadPart_at got ?_ | (with_reducible refine wpAny_isSubtype_exc hC1 ?_; rw [self1]) | wp_step)
  show wpAny _ _ (typeLookup (.ref C) _) _ _ _
  refine lk1.at ?_
  refine wpAny_holding (wpAny_bind (bd1.at ?_))
  refine wpAny_bind (wpAny_call (codeAny_mono go fun r s' z => ?_))
  rcases r with e | (v | _ | _ | _) <;> first | exact z | exact z.elim | skip
  obtain ⟨rfl, z⟩ := z
  first
    | exact wpAny_pure (wpAny_pure z)
    | (wp_walk; exact z)
theorem kw_call {fI : Addr} (hC : h0.get? C = some (excClassObj cn cq C N bs (.ref CE :: tl3) hdct sn sub ab col dd k0 k1 k2 k3 k5 "Exception.__new__"))
    (hi : W.Looks (model prog w) h0 (typeLookup (.ref C) "__init__") (some (.ref fI))) (hb : ∀ self, W.Looks (model prog w) h0 (bindSpecial (.ref fI) self) (.ref fI, [self])) (few : args.length ≤ sizeLine)
    (go : codeAny (model prog w) (A.under (.builtin "type.__call__" ⟨.ref C :: args, kws⟩)) (.call (.ref fI) ⟨.ref (h0.objs.size + 1) :: args, kws⟩) (W.InitBack (h0.objs.size + 1) R)
      ⟨(h0.push (W.kdv_tup args)).push (excO C h0.objs.size), gs, dr, t, os⟩) :
    codeAny (model prog w) A (.call (.ref C) ⟨args, kws⟩) R ⟨h0, gs, dr, t, os⟩ := by
  have lkT := tc_lookup
  have bdT := tc_bind (.ref C)
  have isT : (⟨h0, gs, dr, t, os⟩ : Shared).TypeIs (.ref C) "type" := ⟨_, hC, rfl⟩
  refine codeAny_of_tree ?_
  show wpAny _ _ (callAny (.ref C) _) _ _ _
  repeat (any_goals (first | assumption | with_reducible refine wpAny_loadPart_at hC ?_ | wp_step))
  refine ⟨rfl, ?_⟩
  refine codeAny_call_builtin_at (Code.quiet_builtin _ (by decide +kernel)) entry_typeCall (kw_check_type hC (kw_type_call hC hi hb few ?_))
  refine codeAny_mono go fun r s' z => ?_
  rcases r with e | (v | _ | _ | _) <;> exact z
end
end CwEx
end PySem

set_option Elab.async false
set_option linter.all false
set_option maxRecDepth 100000
set_option maxHeartbeats 4000000
/-! ## the rules: self.f = e in an `__init__`, C(..) as a value, e.f, isinstance -/
namespace PySem.CwEx
open PySem PySem.Spec PySem.Calls PyProof.Rows PySem.W
section
variable {prog : Program} {w : World} {A : Around} {E : Value → Shared → Prop} {s : Shared} {K : Frag} {x D : Addr} {ob : Obj} {od : Option Obj}
theorem bound_of_class {C : Addr} {nm : Str} {a g : Value} (hc : (clsIn K C).isSome = true) (ha : findIn K (.ref C) nm = some (some a)) (hg : specialIn K a "__get__" = some (some g)) (ht : takesIn K a = some true) : findObj K C od nm = some (.bind g a) := by
  obtain ⟨cd, e⟩ := Option.isSome_iff_exists.mp hc
  unfold findObj
  simp [e, ha, hg, ht]
/-- e.__class__ of an exception, with a dict or without -/
theorem class_of_exc {Q : Option Value → Shared → Prop} (g1 : findIn K (.ref D) "__getattribute__" = some (some (.builtin "BaseException.__getattribute__"))) (g2 : findIn K (.ref D) "__getattr__" = some none) (g3 : subIn K (.ref D) (.type "BaseException") = some true)
    (g4 : hasDictIn K D = true) (g5 : findIn K (.ref D) "__class__" = some (some (.builtin "object.__class__")))
    (g6 : specialIn K (.builtin "object.__class__") "__get__" = some (some (.builtin "getset_descriptor.__get__"))) (g7 : takesIn K (.builtin "object.__class__") = some true) (g8 : mroIn K D (.type "object") = some true)
    (KX : K.In s.heap) (J : InstAt s.heap x ob D od) (go : Q (some (.ref D)) { s with toks := s.toks + 1 }) : wpAny (model prog w) A (getAttr? (.ref x) "__class__") Q E s := by
  have found : findObj K D od "__class__" = some (.bind (.builtin "getset_descriptor.__get__") (.builtin "object.__class__")) := bound_of_class (by obtain ⟨cd, hc, _⟩ := any_some g4; rw [hc]; rfl) g5 g6 g7
  obtain ⟨h0, gs, dr, t, os⟩ := s
  have T0 := J.type (M := model prog w)
  have T1 := looks_findIn (M := model prog w) KX g1
  have T2 := looks_findIn (M := model prog w) KX g2
  have T3 := looks_find (M := model prog w) KX J found
  have isB : Looks (model prog w) h0 (isInstance (.ref x) (.type "BaseException")) true := T0.andThen (looks_subIn KX g3)
  have n2 : (Value.builtin "BaseException.__getattribute__" == Value.builtin "object.__getattribute__") = false := by decide +kernel
  have n1 : (onTheHeap (Value.ref D) && Value.builtin "BaseException.__getattribute__" == Value.builtin "object.__getattribute__") = false := by rw [n2] <;> rfl
  have n0 : (false && onTheHeap (Value.builtin "BaseException.__getattribute__")) = false := rfl
  have n3 : onTheHeap (Value.ref D) = true := rfl
  unfold getAttr? getAttrBy? getAttrBy
  refine wpAny_bind (wpAny_mkText (wpAny_bind (wpAny_attempt (wpAny_holding (wpAny_bind (T0.at (wpAny_bind (T1.at ?_))))))))
  show wpAny _ _ (if (onTheHeap (Value.ref D) && Value.builtin "BaseException.__getattribute__" == Value.builtin "object.__getattribute__") = true then _ else _) _ _ ⟨h0, gs, dr, t + 1, os⟩
  rw [n1, if_neg Bool.false_ne_true]
  unfold getAttrByItsOwn hookBefore
  refine wpAny_bind ?_
  rw [if_pos n3]
  refine T2.at (wpAny_bind (wpAny_attempt (wpAny_holding ?_)))
  unfold callGetattribute
  rw [n0, if_neg Bool.false_ne_true]
  unfold boundAndCalled
  rw [PySem.F.attr_Exception.ga.bind (.ref x)]
  refine wpAny_bind (wpAny_pure ?_)
  show wpAny _ _ (call (.builtin "BaseException.__getattribute__") [.ref x, .str "__class__" t]) _ _ ⟨h0, gs, dr, t + 1, os⟩
  refine wpAny_call (codeAny_call_builtin PySem.F.attr_Exception.ga.plain PySem.F.entry_bexc_ga (@check_slot (model prog w) _ _ ⟨h0, gs, dr, t + 1, os⟩ "BaseException.__getattribute__" "BaseException" "__getattribute__" (.ref x) [.str "__class__" t] [] _
    (by decide +kernel) (by decide +kernel) isB (PySem.F.args_bexc_ga (.ref x) (.str "__class__" t)) ?_))
  unfold Builtin.«object.__getattribute__»
  refine wpAny_bind (wpAny_of_eq (a := ((Value.ref x : Value), [Value.str "__class__" t])) (by first | rfl | (simp only [slotArgs]; rfl)) ?_)
  refine wpAny_bind (wpAny_pure (wpAny_bind (T0.at (wpAny_bind (T3.at ?_)))))
  show wpAny _ _ (holding [Value.builtin "object.__class__"] (call (.builtin "getset_descriptor.__get__") [.builtin "object.__class__", .ref x, .ref D]) >>= ret) _ _ ⟨h0, gs, dr, t + 1, os⟩
  refine wpAny_bind (wpAny_holding (wpAny_call (class_get (s := ⟨h0, gs, dr, t + 1, os⟩) (ox := ob) (od := od) KX J g8 ?_)))
  refine wpAny_pure ?_
  show wpAny _ _ (handedOut (.ref D)) _ _ ⟨h0, gs, dr, t + 1, os⟩
  rw [handedOut_of (v := .ref D) rfl]
  first
    | exact wpAny_pure (wpAny_pure go)
    | exact wpAny_pure go
    | exact wpAny_pure (wpAny_bind (wpAny_pure (wpAny_pure go)))
theorem kit_exc (g1 : findIn K (.ref D) "__getattribute__" = some (some (.builtin "BaseException.__getattribute__"))) (g2 : findIn K (.ref D) "__getattr__" = some none) (g3 : subIn K (.ref D) (.type "BaseException") = some true)
    (g4 : hasDictIn K D = true) (g5 : findIn K (.ref D) "__class__" = some (some (.builtin "object.__class__")))
    (g6 : specialIn K (.builtin "object.__class__") "__get__" = some (some (.builtin "getset_descriptor.__get__"))) (g7 : takesIn K (.builtin "object.__class__") = some true) (g8 : mroIn K D (.type "object") = some true) :
    KitX K (.ref x) (.ref D) (fun h => InstAt h x ob D od) where
  ty := fun _ _ _ J => J.type
  it := fun _ _ KX _ => by
    obtain ⟨cd, hc, _⟩ := any_some g4
    unfold clsIn at hc
    split at hc
    · rename_i ho
      intro A' Q' E' s' keep q
      unfold isType loadHead
      exact wpAny_bind (wpAny_loadPart (keep _ _ (KX _ _ ho)) (wpAny_pure q))
    · cases hc
  ne := fun h tp d its n sl KX htp => by
    obtain ⟨cd, hc, _⟩ := any_some g4
    refine Bool.eq_false_iff.mpr fun q => ?_
    have e : D = tp := Value.ref.inj (beq_iff_eq.mp q)
    subst e
    unfold clsIn at hc
    split at hc
    · rename_i ho
      cases (KX _ _ ho).symm.trans htp
    · cases hc
  ca := fun KX J go => class_of_exc g1 g2 g3 g4 g5 g6 g7 g8 KX J go
end
end PySem.CwEx

set_option Elab.async false
set_option linter.all false
set_option maxRecDepth 100000
set_option maxHeartbeats 4000000
namespace PySem.CwEx
open PySem PySem.Spec PySem.W
/-- what the written part must say of such a class (at C, over the one at CE) -/
structure CexC (K : Frag) (C CE : Addr) : Prop where
  cls : ∃ nm q N bs sn sub ab col dd k0 k1 k2 k3 k5, K.lookup C = some (excClassObj nm q C N bs (.ref CE :: tl3) true sn sub ab col dd k0 k1 k2 k3 k5 "Exception.__new__")
  sa : findIn K (.ref C) "__setattr__" = some (some (.builtin "object.__setattr__"))
  ga : findIn K (.ref C) "__getattribute__" = some (some (.builtin "BaseException.__getattribute__"))
  gg : findIn K (.ref C) "__getattr__" = some none
  cl : findIn K (.ref C) "__class__" = some (some (.builtin "object.__class__"))
  sg : specialIn K (.builtin "object.__class__") "__get__" = some (some (.builtin "getset_descriptor.__get__"))
  tk : takesIn K (.builtin "object.__class__") = some true
  mo : mroIn K C (.type "object") = some true
  exC : subIn K (.ref C) (.type "BaseException") = some true
  tyC : typeIn K (.ref C) = some (.type "type")
  hdC : hasDictIn K C = true
  kC : keepIn K (.ref C) = true
theorem CexC.data {K : Frag} {C CE : Addr} (T : CexC K C CE) : ∃ cd, clsIn K C = some cd ∧ cd.mro = .ref C :: .ref CE :: tl3 ∧ cd.hasDict = true := by
  obtain ⟨nm, q, N, bs, sn, sub, ab, col, dd, k0, k1, k2, k3, k5, hC⟩ := T.cls
  exact ⟨{ name := nm, bases := bs, mro := .ref C :: .ref CE :: tl3, ns := N, qualname := q, hasDict := true, slotNames := sn, subclasses := sub, abstract := ab, collection := col, hasDel := false }, by unfold clsIn; rw [hC] <;> rfl, rfl, rfl⟩
end PySem.CwEx
namespace L2
open PySem PySem.Spec PyProof.Rows PySem.CwEx
section
variable {X : Cx} {pins : List (Addr × Obj)} {σ : St} {H : Hp} {s : Shared} {a C CE dx : Addr} {f : Str} {y : V} {u : Value} {fs : List (Str × V)} {Q : Unit → Shared → Prop} {E : Value → Shared → Prop} {A : Around}
theorem cx_first (T : CexC X.K C CE) (I : Inv X pins σ H s) (e : H a = some (exo a C none)) (hno : PySem.W.findIn X.K (.ref C) f = some none) (ry : RelV y u)
    (go : ∀ dx s', H dx = none → dx ≠ a → Inv X pins σ (upd (upd H dx (exd dx [(f, y)])) a (exo a C (some dx))) s' → Q () s') : wpAny (model X.prog X.w) A (setAttr (.ref a) f u) Q E s := by
  obtain ⟨cd, hcd, hm, hh⟩ := T.data
  obtain ⟨t1, ho⟩ := exo_at I.hok e
  obtain ⟨h0, gs, dr, t, os⟩ := s
  refine PySem.W.set_plain I.kIn (ox := { cls := .ref C, dict := none, data := .fields #[.ref t1, .none, .none, .none, .bool false, .none] }) (od := none) ⟨ho, rfl, rfl, trivial⟩ T.sa ?_
  refine put_first I.kIn ho hcd hm hh hno fun h' tk' dx keep dn dne hx hn => ?_
  have gone : H dx = none := I.hok.fresh dn
  have off : ∀ {b : Addr} {o : Obj}, h0.get? b = some o → b ≠ dx := fun {b o} q => Nat.ne_of_lt (Nat.lt_of_lt_of_le (Heap.lt_size q) dn)
  have offa : ∀ {b : Addr}, H b = none → b ≠ a := fun {b} n z => by rw [z, e] at n; cases n
  have un1 : Un X.fs [] H (upd (upd H dx (exd dx [(f, y)])) a (exo a C (some dx))) h0 h' :=
    ⟨fun b o q n _ _ => keep b o (offa n) q, fun b o q n _ _ => ⟨o.slots, keep b o (offa n) q⟩, fun b o q n _ => by rw [upd_ne (offa n), upd_ne (off q)]; exact n,
     fun b o q _ => by
       by_cases hb : b = a
       · subst hb; exact ⟨_, hx⟩
       · exact ⟨o, keep b o hb q⟩,
     fun b xs q => by rw [upd_ne (at_ne e q exo_tup), upd_ne (ne_of_none q gone)]; exact q,
     fun b o v q => by rw [upd_ne (at_ne e q exo_frz), upd_ne (ne_of_none q gone)]; exact q,
     fun b ps q => ⟨#[], by rw [upd_ne (at_ne e q exo_tbl), upd_ne (ne_of_none q gone), q]; simp⟩⟩
  refine go dx _ gone dne (I.un (t' := tk') un1 fun b o q => ?_)
  by_cases hb : b = a
  · subst hb
    rw [upd_same] at q
    cases q
    exact exo_ok hx
  · rw [upd_ne hb] at q
    by_cases hd : b = dx
    · subst hd
      rw [upd_same] at q
      cases q
      exact exd_ok hn (relO_put (fs := []) ry fun g => True.intro)
    · rw [upd_ne hd] at q
      refine (I.hok b o q).stay (fun c v hc z => keep c v ?_ z) (fun c hc => ?_) fun c xs hc => ?_
      · rcases hc with hc | hc
        · rw [hc]; exact hb
        · exact at_ne e hc exo_own
      · rw [upd_ne (at_ne e hc exo_own), upd_ne (ne_of_none hc gone)]; exact hc
      · rw [upd_ne (at_ne e hc exo_tup), upd_ne (ne_of_none hc gone)]; exact hc
theorem cx_next (T : CexC X.K C CE) (I : Inv X pins σ H s) (e : H a = some (exo a C (some dx))) (ed : H dx = some (exd dx fs)) (hl : fs.length ≤ 900) (hno : PySem.W.findIn X.K (.ref C) f = some none) (ry : RelV y u)
    (go : ∀ s', Inv X pins σ (upd H dx (exd dx ((f, y) :: fs))) s' → Q () s') : wpAny (model X.prog X.w) A (setAttr (.ref a) f u) Q E s := by
  obtain ⟨cd, hcd, hm, hh⟩ := T.data
  obtain ⟨t1, ho⟩ := exo_at I.hok e
  obtain ⟨mA, hns, rel⟩ := exd_at I.hok ed
  have inside := within_of rel
  obtain ⟨h0, gs, dr, t, os⟩ := s
  obtain ⟨oD, _, _, hoD, _, _⟩ := hns.count inside
  refine PySem.W.set_plain I.kIn (ox := { cls := .ref C, dict := some dx, data := .fields #[.ref t1, .none, .none, .none, .bool false, .none] }) (od := some oD) ⟨ho, rfl, rfl, hoD⟩ T.sa ?_
  refine put_next I.kIn ho hns inside (by rw [List.length_map]; omega) hcd hm hh hno fun h' tk' keep hn => ?_
  have there : ∃ o, h'.get? dx = some o := by obtain ⟨o, _, _, e', _⟩ := hn; exact ⟨o, e'⟩
  exact go _ (I.write (t' := tk') (x := dx) (e := dx) (o := exd dx ((f, y) :: fs)) (by rw [ed]; exact True.intro) (.inl rfl) keep there (exd_ok hn (relO_put ry rel)))
end
/-! ### self.f = e -/
/-- the first one: the exception at a gets its dict -/
def tX1 (K : PySem.W.Frag) (f : Str) (to te : TE) : TS := fun D σ H => te σ H fun y H1 => to σ H1 fun x H2 => ∃ a C CE : Addr, x = .ref a ∧ CexC K C CE ∧ PySem.W.findIn K (.ref C) f = some none ∧
  ((H2 a = some (exo a C none) ∧ ∀ dx, H2 dx = none → dx ≠ a → D.nx σ (upd (upd H2 dx (exd dx [(f, y)])) a (exo a C (some dx)))) ∨
    ∃ (dx : Addr) (fs : List (Str × V)), H2 a = some (exo a C (some dx)) ∧ H2 dx = some (exd dx fs) ∧ fs.length ≤ 900 ∧ D.nx σ (upd H2 dx (exd dx ((f, y) :: fs))))
section
variable {X : Cx} {CX : CXT} {k n : Nat} {o e : Expr} {es : List Expr} {kws : List Keyword} {to te : TE} {ta tk : TA} {f x : Str} {p p' pos : Pos} {C CE fI : Addr} {fd : FuncData} {ps ks : List Str} {sp : Sp}
theorem ps_x1 (ho : PE X o to) (he : PE X e te) (hs : swapsWith e (some (.Attribute o f p')) pos.line X.env = pure false := by rfl) : PS X (.Assign [.Attribute o f p'] e pos) (tX1 X.K f to te) := by
  refine ⟨fun pins s σ H D I h => ?_⟩
  refine plainObj_wpAny_Assign_Attribute (thn (he.run pins s σ H _ I h) fun v s1 ⟨y, H1, I1, r1, q1⟩ => thn (ho.run pins s1 σ H1 _ I1 q1) fun u s2 ⟨z, H2, I2, r2, a, C, CE, ez, T, hno, q⟩ => ?_) hs
  subst ez
  obtain rfl : u = Value.ref a := r2
  rcases q with ⟨ea, q⟩ | ⟨dx, fs, ea, ed, hl, q⟩
  · exact cx_first T I2 ea hno r1 fun dx s' n ne J => ⟨σ, _, J, q dx n ne⟩
  · exact cx_next T I2 ea ed hl hno r1 fun s' J => ⟨σ, _, J, q⟩
/-! ### C(..) as a value -/
theorem run_cx {pins : List (Addr × Obj)} {σ : St} {H : Hp} {s : Shared} {Q : VK} {us bs : List Value} {bv : List V → List V} {kw : List (Str × Value)} (T : CexC X.K C CE) (iC : PySem.W.findIn X.K (.ref C) "__init__" = some (some (.ref fI))) (tI : PySem.W.typeIn X.K (.ref fI) = some (.type "function"))
    (F : FnOk X.prog X.w X.K X.mg X.base CX k fI fd ps sp) (hr : Room (k + 1) X.A) (few : us.length ≤ sizeLine) (hx : Passes CX X (fun _ _ _ => False)) (I : Inv X pins σ H s)
    (hb : ∀ (s' : Shared) (a : Addr), X.K.In s'.heap → BindsTo s' fd ⟨.ref a :: us, kw⟩ (ps.zip (.ref a :: bs))) (rb : ∀ a : Addr, Vals (bv [.ref a]) (.ref a :: bs))
    (h : ∀ a, H a = none → sp (bv [.ref a]) (upd H a (exo a C none)) (fun v H2 => v = .non ∧ Q (.ref a) H2) (fun _ _ _ => False)) :
    wpAny (model X.prog X.w) X.A (call (.ref C) us kw) (EP X pins σ Q) X.xe s := by
  obtain ⟨nm, q, N, bs', sn, sub, ab, col, dd, k0, k1, k2, k3, k5, hC⟩ := T.cls
  obtain ⟨h0, gs, dr, t, os⟩ := s
  have far : h0.objs.size ≤ h0.objs.size + 1 := Nat.le_succ _
  have gone : H (h0.objs.size + 1) = none := I.hok.fresh far
  have hq := h (h0.objs.size + 1) gone
  have grow : ∀ b o, h0.get? b = some o → ((h0.push (PySem.W.kdv_tup us)).push (PySem.HandSPX.excO C h0.objs.size)).get? b = some o := fun b o e => Heap.get?_push_of_some _ (Heap.get?_push_of_some _ e)
  have got : ((h0.push (PySem.W.kdv_tup us)).push (PySem.HandSPX.excO C h0.objs.size)).get? (h0.objs.size + 1) = some (PySem.HandSPX.excO C h0.objs.size) := by heap_get
  have I2 : Inv X pins σ (upd H (h0.objs.size + 1) (exo (h0.objs.size + 1) C none)) ⟨(h0.push (PySem.W.kdv_tup us)).push (PySem.HandSPX.excO C h0.objs.size), gs, dr, t, os⟩ :=
    I.laid (t' := t) (a := h0.objs.size + 1) (o := exo (h0.objs.size + 1) C none) grow far (exo_ok got)
  refine wpAny_call (kw_call (I.kIn _ _ hC) (PySem.W.looks_findIn I.kIn iC) (fun self => PySem.W.bind_fn I.kIn self tI) few
    (codeAny_mono (F.run _ X.stack _ _ ⟨Value.ref (h0.objs.size + 1) :: us, kw⟩ (Value.ref (h0.objs.size + 1) :: bs) _ _ (fun _ _ _ => False) (hr.make C us kw) (I2.env0.make C us kw) (hb _ _ I2.kIn) (rb _) hq) fun r s' hq' => ?_))
  cases r with
  | error er => exact hx pins σ _ _ er s' I2 hq'
  | ok fl =>
    cases fl with
    | ret u =>
      obtain ⟨v, H2, I3, rv, ev, q3⟩ := I2.after hq'
      subst ev
      exact ⟨rv, ⟨V.ref (h0.objs.size + 1), H2, I3, rfl, q3⟩⟩
    | next => exact False.elim hq'
    | brk => exact False.elim hq'
    | cont => exact False.elim hq'
/-- C(e, ..) -/
def tMkX (C : Addr) (sp : Sp) (ta : TA) : TE := fun σ H Q => ta σ H fun vs H1 => vs.length ≤ 1000 ∧ ∀ a, H1 a = none → sp (.ref a :: vs) (upd H1 a (exo a C none)) (fun v H2 => v = .non ∧ Q (.ref a) H2) (fun _ _ _ => False)
/-- C(k = e, ..) -/
def tMkXk (C : Addr) (sp : Sp) (gV : List V → List V → List V) (tk : TA) : TE := fun σ H Q => tk σ H fun zs H1 => ∀ a, H1 a = none → sp (gV [.ref a] zs) (upd H1 a (exo a C none)) (fun v H2 => v = .non ∧ Q (.ref a) H2) (fun _ _ _ => False)
theorem pe_mkX (T : CexC X.K C CE) (iC : PySem.W.findIn X.K (.ref C) "__init__" = some (some (.ref fI))) (tI : PySem.W.typeIn X.K (.ref fI) = some (.type "function")) (F : FnOk X.prog X.w X.K X.mg X.base CX k fI fd ps sp) (hr : Room (k + 1) X.A)
    (hb : Binds X.K fd ps []) (hx : Passes CX X (fun _ _ _ => False)) (hg : Gl X x) (hm : X.mg x = some (.ref C)) (ha : PA X (e :: es) ta)
    (hdb : (x == ("__debug__" : Str)) = false := by decide) (he : starEach (e :: es) X.env = (false, eval e X.env) :: starEach es X.env := by rfl) (hpl : (backTo pos (starEach es X.env)).any (·.1) = false := by rfl) :
    PE X (.Call (.Name x p) (e :: es) [] pos) (tMkX C sp ta) := by
  refine ⟨fun pins s σ H Q I h => ?_⟩
  refine wpAny_Call_Name_kw (ld_glob I hg hm ?_ hdb)
  refine PySem.W.callWith_K (h₀ := X.base) I.ok.mod.kin T.kC (thn (ha.run pos pins s σ H _ I h) fun us s1 ⟨vs, H1, I1, r1, hz, q1⟩ => ⟨I1.kIn, ?_⟩) he hpl
  have r2 : ∀ a : Addr, Vals (V.ref a :: vs) (Value.ref a :: us) := fun a => .cons rfl r1
  have big := I1.hok.fresh (Nat.le_refl s1.heap.objs.size)
  have l1 := F.len _ _ _ _ (q1 _ big)
  show wpAny _ _ (call (Value.ref C) us []) _ _ s1
  refine run_cx (bv := fun l => l ++ vs) (bs := us) T iC tI F hr (by rw [← Paired.length r1, sizeLine_eq]; omega) hx I1 (fun s' a KX => ?_) r2 q1
  have hl : ((Value.ref a :: us) ++ ([] : List Value)).length = ps.length := by
    rw [List.append_nil, ← l1]
    exact congrArg Nat.succ (Paired.length r1).symm
  have z := hb s' (.ref a :: us) KX hl
  rw [List.append_nil] at z
  exact z
theorem pe_mkXk {g : List Value → List Value → List Value} {gV : List V → List V → List V} (T : CexC X.K C CE) (iC : PySem.W.findIn X.K (.ref C) "__init__" = some (some (.ref fI))) (tI : PySem.W.typeIn X.K (.ref fI) = some (.type "function")) (F : FnOk X.prog X.w X.K X.mg X.base CX k fI fd ps sp) (hr : Room (k + 1) X.A)
    (hb : ∀ (s : Shared) (a : Addr) (ws : List Value), X.K.In s.heap → (g [.ref a] ws).length = ps.length → BindsTo s fd ⟨[.ref a], ks.zip ws⟩ (ps.zip (g [.ref a] ws))) (gh : ∀ a ws, g [.ref a] ws = .ref a :: (g [.ref a] ws).tail) (gt : ∀ a b ws, (g [.ref a] ws).tail = (g [.ref b] ws).tail)
    (rel : ∀ {vs zs : List V} {us ws : List Value}, Vals vs us → Vals zs ws → Vals (gV vs zs) (g us ws)) (hx : Passes CX X (fun _ _ _ => False)) (hg : Gl X x) (hm : X.mg x = some (.ref C)) (hkw : PK X kws tk)
    (hall : (backToKw pos (keywordEach kws X.env)).all (·.1.isSome) = true := by rfl) (hks : (backToKw pos (keywordEach kws X.env)).filterMap (·.1) = ks := by rfl)
    (hdb : (x == ("__debug__" : Str)) = false := by decide) (hpl : ((backTo pos (starEach [] X.env)).any (·.1) || (backToKw pos (keywordEach kws X.env)).any (·.1.isNone)) = false := by rfl) :
    PE X (.Call (.Name x p) [] kws pos) (tMkXk C sp gV tk) := by
  refine ⟨fun pins s σ H Q I h => ?_⟩
  refine wpAny_Call_Name_kw (ld_glob I hg hm ?_ hdb)
  refine PySem.W.callWith_KW0 (h₀ := X.base) I.ok.mod.kin T.kC hall (thn (hkw.run pos pins s σ H _ I h) fun ws s1 ⟨zs, H1, I1, rz, q1⟩ => ⟨I1.kIn, ?_⟩) hpl
  rw [hks]
  have rl : ∀ a : Addr, Vals (gV [.ref a] zs) (g [.ref a] ws) := fun a => rel (.cons rfl .nil) rz
  have big := I1.hok.fresh (Nat.le_refl s1.heap.objs.size)
  have l1 := F.len _ _ _ _ (q1 _ big)
  show wpAny _ _ (call (Value.ref C) [] (ks.zip ws)) _ _ s1
  refine run_cx (bv := fun l => gV l zs) (us := []) (bs := (g [.ref 0] ws).tail) T iC tI F hr (Nat.zero_le _) hx I1 (fun s' a KX => ?_) (fun a => ?_) q1
  · have e : Value.ref a :: (g [.ref 0] ws).tail = g [.ref a] ws := by rw [gt 0 a ws]; exact (gh a ws).symm
    rw [e]
    refine hb s' a ws KX ?_
    have e1 := (rl a).length
    have e2 := (rl s1.heap.objs.size).length
    have e3 : (g [.ref a] ws).length = (g [.ref s1.heap.objs.size] ws).length := by rw [gh a ws, gh s1.heap.objs.size ws, List.length_cons, List.length_cons, gt a s1.heap.objs.size ws]
    rw [e3, ← e2]
    exact l1
  · have e : Value.ref a :: (g [.ref 0] ws).tail = g [.ref a] ws := by rw [gt 0 a ws]; exact (gh a ws).symm
    rw [e]
    exact rl a
/-! ### e.f of such an exception -/
def tXf2 (K : PySem.W.Frag) (te : TE) (f : Str) : TE := fun σ H Q => te σ H fun x H1 => ∃ (a C CE d : Addr) (fs : List (Str × V)) (v : V), x = .ref a ∧ CexC K C CE ∧ PySem.W.findIn K (.ref C) f = some none ∧ H1 a = some (exo a C (some d)) ∧ H1 d = some (exd d fs) ∧ fs.lookup f = some v ∧ Q v H1
theorem pe_xf2 (he : PE X e te) (hb : attributeBase e f X.env (eval e X.env) = eval e X.env := by rfl) : PE X (.Attribute e f pos) (tXf2 X.K te f) := by
  refine ⟨fun pins s σ H Q I h => ?_⟩
  refine attr_of hb (thn (he.run pins s σ H _ I h) fun u s1 hh => ?_)
  obtain ⟨z, H1, I1, rz, a, C, CE, d, fs, v, ez, T, hno, ea, ed, l, q⟩ := hh
  subst ez
  obtain rfl : u = Value.ref a := rz
  obtain ⟨t1, ho⟩ := exo_at I1.hok ea
  obtain ⟨mA, hns, rel⟩ := exd_at I1.hok ed
  obtain ⟨od, hd, hl⟩ := lookIn_ns hns
  obtain ⟨u, hu, ru⟩ := RelO.some_of (v := v) (o := mA f) (by rw [← l]; exact rel f)
  have J : PySem.W.InstAt s1.heap a { cls := .ref C, dict := some d, data := .fields #[.ref t1, .none, .none, .none, .bool false, .none] } C (some od) := ⟨ho, rfl, rfl, hd⟩
  exact HandSPX.exc_get I1.kIn J T.ga T.gg T.exC (PySem.W.findObj_own T.hdC hno rfl (by rw [hl, hu])) (handed_of ru) ⟨v, H1, I1.tok _, ru, q⟩
/-! ### isinstance(e, c), one class -/
def rIsX (K : PySem.W.Frag) : List V → Hp → VK → Prop := fun xs H Q => ∃ (a C CE d : Addr) (c : V) (u : Value) (b : Bool), xs = [.ref a, c] ∧ ClsV c u ∧ CexC K C CE ∧ H a = some (exo a C (some d)) ∧ (∃ fs, H d = some (exd d fs)) ∧ PySem.W.kitOne K (.ref C) u = some b ∧ Q (.bl b) H
theorem call_isX : CallR X (.builtin "isinstance") (rIsX X.K) := by
  intro pins s σ H xs us Q I r h
  obtain ⟨a, C, CE, d, c, u, b, rfl, hc, T, ea, ⟨fs, ed⟩, e, q⟩ := h
  obtain ⟨u1, u2, rfl, r1, r2⟩ := vals2 r
  have e2 := hc.eq r2
  subst e2
  obtain rfl : u1 = Value.ref a := r1
  obtain ⟨t1, ho⟩ := exo_at I.hok ea
  obtain ⟨mA, hns, rel⟩ := exd_at I.hok ed
  obtain ⟨od, hd, hl⟩ := lookIn_ns hns
  have J : PySem.W.InstAt s.heap a { cls := .ref C, dict := some d, data := .fields #[.ref t1, .none, .none, .none, .bool false, .none] } C (some od) := ⟨ho, rfl, rfl, hd⟩
  exact PySem.W.kia_one (kit_exc T.ga T.gg T.exC T.hdC T.cl T.sg T.tk T.mo) I.kIn J e (fun z => nomatch z) fun tk => ⟨.bl b, H, I.tok tk, rfl, q⟩
end
end L2

set_option Elab.async false
set_option linter.all false
set_option maxRecDepth 100000
set_option maxHeartbeats 4000000
namespace L2
open PySem PySem.Spec PyProof.Rows PySem.CwEx
section
variable {X : Cx} {CX : CXT} {k n : Nat} {o e : Expr} {es : List Expr} {ta : TA} {x : Str} {p pos : Pos} {C CE fI : Addr} {fd : FuncData} {ps : List Str} {sp : Sp}
/-- C(e, ..), to be raised: the exception is let go, its dict stays -/
theorem pmk_cx (T : CexC X.K C CE) (iC : PySem.W.findIn X.K (.ref C) "__init__" = some (some (.ref fI))) (tI : PySem.W.typeIn X.K (.ref fI) = some (.type "function")) (F : FnOk X.prog X.w X.K X.mg X.base CX k fI fd ps sp) (hr : Room (k + 1) X.A)
    (hb : Binds X.K fd ps []) (hx : Passes CX X (fun _ _ _ => False)) (hg : Gl X x) (hm : X.mg x = some (.ref C)) (ha : PA X (e :: es) ta)
    (hdb : (x == ("__debug__" : Str)) = false := by decide) (he : starEach (e :: es) X.env = (false, eval e X.env) :: starEach es X.env := by rfl) (hpl : (backTo pos (starEach es X.env)).any (·.1) = false := by rfl) :
    PMk X (.Call (.Name x p) (e :: es) [] pos) (tMkO C sp [] ta) := by
  intro pins s σ H Q I h
  obtain ⟨nm, q, N, bs', sn, sub, ab, col, dd, k0, k1, k2, k3, k5, hC⟩ := T.cls
  refine wpAny_Call_Name_kw (ld_glob I hg hm ?_ hdb)
  refine PySem.W.callWith_K (h₀ := X.base) I.ok.mod.kin T.kC (thn (ha.run pos pins s σ H _ I h) fun us s1 ⟨vs, H1, I1, r1, hz, q1⟩ => ⟨I1.kIn, ?_⟩) he hpl
  show wpAny _ _ (call (Value.ref C) us []) _ _ s1
  obtain ⟨h0, gs, dr, t, os⟩ := s1
  have far : h0.objs.size ≤ h0.objs.size + 1 := Nat.le_succ _
  have gone : H1 (h0.objs.size + 1) = none := I1.hok.fresh far
  have hq := q1 (h0.objs.size + 1) gone
  rw [List.append_nil] at hq
  have grow : ∀ b o, h0.get? b = some o → ((h0.push (PySem.W.kdv_tup us)).push (PySem.HandSPX.excO C h0.objs.size)).get? b = some o := fun b o e => Heap.get?_push_of_some _ (Heap.get?_push_of_some _ e)
  have got : ((h0.push (PySem.W.kdv_tup us)).push (PySem.HandSPX.excO C h0.objs.size)).get? (h0.objs.size + 1) = some (PySem.HandSPX.excO C h0.objs.size) := by heap_get
  have I2 : Inv X pins σ (upd H1 (h0.objs.size + 1) (exo (h0.objs.size + 1) C none)) ⟨(h0.push (PySem.W.kdv_tup us)).push (PySem.HandSPX.excO C h0.objs.size), gs, dr, t, os⟩ :=
    I1.laid (t' := t) (a := h0.objs.size + 1) (o := exo (h0.objs.size + 1) C none) grow far (exo_ok got)
  have l1 := F.len _ _ _ _ hq
  have r2 : Vals (V.ref (h0.objs.size + 1) :: vs) (Value.ref (h0.objs.size + 1) :: us) := .cons rfl r1
  have few : us.length ≤ sizeLine := by rw [← Paired.length r1, sizeLine_eq]; omega
  have bind1 : BindsTo ⟨(h0.push (PySem.W.kdv_tup us)).push (PySem.HandSPX.excO C h0.objs.size), gs, dr, t, os⟩ fd ⟨.ref (h0.objs.size + 1) :: us, []⟩ (ps.zip (.ref (h0.objs.size + 1) :: us)) := by
    have z := hb _ (.ref (h0.objs.size + 1) :: us) I2.kIn (by rw [List.append_nil, ← l1]; exact congrArg Nat.succ (Paired.length r1).symm)
    rw [List.append_nil] at z
    exact z
  refine wpAny_call (kw_call (I1.kIn _ _ hC) (PySem.W.looks_findIn I1.kIn iC) (fun self => PySem.W.bind_fn I1.kIn self tI) few
    (codeAny_mono (F.run _ X.stack _ _ ⟨Value.ref (h0.objs.size + 1) :: us, []⟩ (Value.ref (h0.objs.size + 1) :: us) _ _ (fun _ _ _ => False) (hr.make C us []) (I2.env0.make C us []) bind1 r2 hq) fun r s' hq' => ?_))
  cases r with
  | error er => exact hx pins σ _ _ er s' I2 hq'
  | ok fl =>
    cases fl with
    | ret u =>
      obtain ⟨v, H2, os2, bare2, un2, hok2, rv, ev, d, fs, ea, ed, hd1, q2⟩ := hq'
      subst ev
      obtain ⟨h2, g2, d2, t2, os'⟩ := s'
      exact ⟨rv, mk_end (raises_own T.exC T.tyC) I1 far grow un2 hok2 os2 bare2 ea ed hd1 q2⟩
    | next => exact False.elim hq'
    | brk => exact False.elim hq'
    | cont => exact False.elim hq'
/-- isinstance(e, c), e the exception that the suite holds, its dict at d -/
def rIsH (K : PySem.W.Frag) (cls : Value) (d : Option Addr) (a : Addr) : List V → Hp → VK → Prop := fun xs H Q => ∃ (c : V) (u : Value) (C CE dd : Addr) (b : Bool), xs = [.ref a, c] ∧ ClsV c u ∧ cls = .ref C ∧ CexC K C CE ∧ d = some dd ∧ (∃ fs, H dd = some (.xd fs)) ∧ PySem.W.kitOne K (.ref C) u = some b ∧ Q (.bl b) H
theorem call_isH {a : Addr} {cls : Value} {d : Option Addr} {oe : Obj} {pn : List (Addr × Obj)} (hz : Zc cls d oe) (hf : ∃ vs, oe.data = .fields vs) : CallR (X.suite a ((a, oe) :: pn)) (.builtin "isinstance") (rIsH X.K cls d a) := by
  intro pins s σ H xs us Q I r h
  obtain ⟨c, u, C, CE, dd, b, rfl, hc, ec, T, ed, ⟨fs, hx⟩, e, q⟩ := h
  subst ec
  subst ed
  obtain ⟨u1, u2, rfl, r1, r2⟩ := vals2 r
  have e2 := hc.eq r2
  subst e2
  obtain rfl : u1 = Value.ref a := r1
  obtain ⟨there, _⟩ := I.pin (a, oe) (List.mem_append.mpr (.inl List.mem_cons_self))
  obtain ⟨vs, hv⟩ := hf
  have hx' : ObjOk X.prog X.w H s.heap dd (.xd fs) := I.hok dd _ hx
  obtain ⟨mA, hns, _⟩ := hx'
  obtain ⟨od, ho, _⟩ := lookIn_ns hns
  have J : PySem.W.InstAt s.heap a oe C (some od) := ⟨there, hz.1, by unfold PySem.W.notCls; rw [hv] <;> rfl, by rw [hz.2]; exact ho⟩
  exact PySem.W.kia_one (kit_exc T.ga T.gg T.exC T.hdC T.cl T.sg T.tk T.mo) I.kIn J e (fun z => nomatch z) fun tk => ⟨.bl b, H, I.kept (t' := tk) fun _ _ z => z, rfl, q⟩
end
end L2

set_option Elab.async false
set_option linter.all false
set_option maxRecDepth 100000
set_option maxHeartbeats 4000000
/-! # CwHeld: a field of the exception that a suite holds; defs that may raise beside those that don't -/
namespace L2
open PySem PySem.Spec PyProof.Rows PySem.CwEx
/-- e.f, e the exception that the suite holds, its dict at d -/
def tHeld (K : PySem.W.Frag) (f : Str) (a : Addr) (cls : Value) (d : Option Addr) (te : TE) : TE := fun σ H Q => te σ H fun x H1 => x = .ref a ∧ ∃ (C CE dd : Addr) (fs : List (Str × V)) (v : V), cls = .ref C ∧ CexC K C CE ∧ PySem.W.findIn K (.ref C) f = some none ∧ d = some dd ∧ H1 dd = some (.xd fs) ∧ fs.lookup f = some v ∧ Q v H1
section
variable {X : Cx} {e : Expr} {te : TE} {pos : Pos} {f : Str}
theorem pe_held {a : Addr} {oe : Obj} {cls : Value} {d : Option Addr} {pn : List (Addr × Obj)} (hz : Zc cls d oe) (hf : ∃ vs, oe.data = .fields vs) (he : PE (X.suite a ((a, oe) :: pn)) e te)
    (hb : attributeBase e f X.env (eval e X.env) = eval e X.env := by rfl) :
    PE (X.suite a ((a, oe) :: pn)) (.Attribute e f pos) (tHeld X.K f a cls d te) := by
  refine ⟨fun pins s σ H Q I h => ?_⟩
  refine attr_of hb (thn (he.run pins s σ H _ I h) fun u s1 hh => ?_)
  obtain ⟨x, H1, I1, rx, ex, C, CE, dd, fs, v, ec, T, hno, ed, ea, l, q⟩ := hh
  subst ex
  obtain rfl : u = Value.ref a := rx
  subst ec
  subst ed
  obtain ⟨ha, _⟩ := I1.pin (a, oe) (List.mem_append_left _ List.mem_cons_self)
  obtain ⟨vs, hd⟩ := hf
  have hx : ObjOk X.prog X.w H1 s1.heap dd (.xd fs) := I1.hok dd _ ea
  obtain ⟨mA, hns, hr⟩ := hx
  obtain ⟨od, ho, hl⟩ := lookIn_ns hns
  obtain ⟨u, hu, ru⟩ := RelO.some_of (v := v) (o := mA f) (by rw [← l]; exact hr f)
  have J : PySem.W.InstAt s1.heap a oe C (some od) := ⟨ha, hz.1, by unfold PySem.W.notCls; rw [hd] <;> rfl, by rw [hz.2]; exact ho⟩
  exact HandSPX.exc_get I1.kIn J T.ga T.gg T.exC (PySem.W.findObj_own T.hdC hno rfl (by rw [hl, hu])) (handed_of ru) ⟨v, H1, I1.tok _, ru, q⟩
end
section
variable {P : Program} {w : World} {K : PySem.W.Frag} {mg : Str → Option Value} {base : Heap} {k : Nat} {f : Addr} {fd : FuncData} {ps : List Str} {sp sp1 sp2 : Sp}
/-- what raises nothing, where something might be raised -/
theorem FnOk.lift (F : FnOk P w K mg base CX0 k f fd ps sp) : FnOk P w K mg base (L2.CX P w) k f fd ps sp :=
  ⟨F.len, fun A outer s H args us vs Q E hr he hb hv hs => codeAny_mono (F.run A outer s H args us vs Q E hr he hb hv hs) fun r s' q => by
    cases r with
    | error e => exact False.elim q
    | ok fl => cases fl <;> exact q⟩
theorem FnOk.or {CX : CXT} (F : FnOk P w K mg base CX k f fd ps sp1) (G : FnOk P w K mg base CX k f fd ps sp2) : FnOk P w K mg base CX k f fd ps (fun vs H Q E => sp1 vs H Q E ∨ sp2 vs H Q E) :=
  ⟨fun vs H Q E h => h.elim (F.len vs H Q E) (G.len vs H Q E), fun A outer s H args us vs Q E hr he hb hv hs => hs.elim (F.run A outer s H args us vs Q E hr he hb hv) (G.run A outer s H args us vs Q E hr he hb hv)⟩
end
end L2

set_option Elab.async false
set_option linter.all false
set_option maxRecDepth 100000
set_option maxHeartbeats 4000000
namespace Cw
open PySem PySem.Spec PyProof.Rows L2 LamX
/-! ### classes of the program, what an instance holds -/
structure CI (K : PySem.W.Frag) (mg : Str → Option Value) (x : Str) (ps : List Str) (C f : Addr) (fd : FuncData) : Prop where
  m : Mk K C f
  cl : Cls K C
  g : mg x = some (.ref C)
  b : Binds K fd ps []
structure MI (K : PySem.W.Frag) (C : Addr) (m : Str) (ps : List Str) (f : Addr) (fd : FuncData) : Prop where
  m : Meth K C m f
  b : Binds K fd ps []
/-- no class of it has these names -/
def NA (K : PySem.W.Frag) (C : Addr) (fls : List Str) : Prop := ∀ fl, fl ∈ fls → NoAttr K C fl
abbrev Fs := List (Str × V)
def Ins (H : Hp) (a C : Addr) (fs : Fs) : Prop := ∃ dx, H a = some (.ins C dx fs)
/-! ### frames: all but the tables and what stands at the addresses of A stays -/
def FrN (A : List Addr) (H H' : Hp) : Prop := ∀ b o, b ∉ A → (∀ ps, o ≠ .tbl ps) → H b = some o → H' b = some o
theorem FrN.refl {A : List Addr} (H : Hp) : FrN A H H := fun _ _ _ _ h => h
theorem FrN.trans {A : List Addr} {H H1 H2 : Hp} (f : FrN A H H1) (g : FrN A H1 H2) : FrN A H H2 := fun b o n t e => g b o n t (f b o n t e)
theorem FrN.of {A : List Addr} {H H' : Hp} (f : Fr A H H') : FrN A H H' := fun b o n _ e => f b o n e
theorem FrN.ofS {A : List Addr} {H H' : Hp} (f : Same H H') : FrN A H H' := fun b o _ _ e => f b o e
theorem FrN.ext {A : List Addr} {H H' : Hp} (f : ExtN H H') : FrN A H H' := fun b o _ n e => f b o e n
theorem FrN.ofExt {H H' : Hp} (f : FrN [] H H') : ExtN H H' := fun b o e n => f b o (by simp) n e
theorem FrN.mono {A B : List Addr} {H H' : Hp} (f : FrN A H H') (m : ∀ b, b ∈ A → b ∈ B) : FrN B H H' := fun b o n t e => f b o (fun k => n (m b k)) t e
theorem FrN.drop {A : List Addr} {u : Addr} {H H' : Hp} (f : FrN (u :: A) H H') (hu : H u = none) : FrN A H H' := fun b o n t e => f b o (fun k => by
  rcases List.mem_cons.mp k with rfl | k
  · rw [hu] at e; cases e
  · exact n k) t e
theorem FrN.set {A : List Addr} {H H' : Hp} {p : Addr} {o : HO} (f : FrN A H H') (hp : p ∈ A) : FrN A H (upd H' p o) := fun b x n t e => by
  rw [upd_ne (fun k : b = p => n (by rw [k]; exact hp))]
  exact f b x n t e
/-- an address that is free now was free, or told a table -/
theorem FrN.upd {A : List Addr} {H H' : Hp} {p : Addr} {o : HO} (f : FrN A H H') (hp : H' p = none) : FrN A H (upd H' p o) := fun b x n t e => by
  have h := f b x n t e
  rw [upd_ne (fun k : b = p => by rw [k, hp] at h; cases h)]
  exact h
theorem FrN.sqt {K : PySem.W.Frag} {A : List Addr} {H H' : Hp} (s : FrN A H H') (n : NoTup A H) {a : Addr} {xs : List V} (h : SqT K H a xs) : SqT K H' a xs := by
  rcases h with h | h
  · have na : a ∉ A := fun m => n a m xs h
    rcases h with h | ⟨o, h⟩
    · exact .inl (.inl (s _ _ na (fun _ z => by cases z) h))
    · exact .inl (.inr ⟨o, s _ _ na (fun _ z => by cases z) h⟩)
  · exact .inr h
theorem tabs_upd {T : List (Addr × Str)} {H : Hp} {p : Addr} {o : HO} (t : Tabs T H) (hp : H p = none) : Tabs T (upd H p o) := t.ext fun b x e => by
  rw [upd_ne (ne_of_none e hp)]
  exact e
/-- what is no table, no code object there may change -/
theorem tabs_set {T : List (Addr × Str)} {H : Hp} {p : Addr} {o x : HO} (t : Tabs T H) (hx : H p = some x) (n1 : ∀ ps, x ≠ .tbl ps) (n2 : ∀ φ, x ≠ .ext φ) : Tabs T (upd H p o) := by
  have k : ∀ b y, H b = some y → ((∃ ps, y = .tbl ps) ∨ ∃ φ, y = .ext φ) → upd H p o b = some y := fun b y e h => by
    rw [upd_ne (fun z : b = p => by
      rw [z, hx] at e
      have e := Option.some.inj e
      subst e
      rcases h with ⟨ps, e⟩ | ⟨φ, e⟩
      · exact n1 ps e
      · exact n2 φ e)]
    exact e
  intro q hq
  obtain ⟨ps, h1, h2, h3⟩ := t q hq
  refine ⟨ps, k _ _ h1 (.inl ⟨_, rfl⟩), h2, fun pos cv hc => ?_⟩
  obtain ⟨c, e1, e2⟩ := h3 pos cv hc
  exact ⟨c, e1, k _ _ e2 (.inr ⟨_, rfl⟩)⟩
/-- a new instance and its dict -/
def mkH (H : Hp) (a dx C : Addr) : Hp := L2.upd (L2.upd H dx (.own a)) a (.ins C dx [])
theorem mk_same {H : Hp} {a dx C : Addr} (na : H a = none) (nd : H dx = none) : Same H (mkH H a dx C) := fun b o e => by
  unfold mkH
  rw [upd_ne (ne_of_none e na), upd_ne (ne_of_none e nd)]
  exact e
theorem mk_at {H : Hp} {a dx C : Addr} : mkH H a dx C a = some (.ins C dx []) := upd_same
theorem made_same {H H2 : Hp} {a dx C : Addr} (na : H a = none) (nd : H dx = none) (f : Fr [a] (mkH H a dx C) H2) : Same H H2 := fun b o e => f b o (fun m => ne_of_none e na (List.mem_singleton.mp m)) (mk_same na nd b o e)
theorem made_frn {H H2 : Hp} {a dx C : Addr} (na : H a = none) (nd : H dx = none) (f : FrN [a] (mkH H a dx C) H2) : ExtN H H2 := fun b o e n => f b o (fun m => ne_of_none e na (List.mem_singleton.mp m)) n (mk_same na nd b o e)
theorem same_ext {H H' : Hp} (s : Same H H') : ExtN H H' := fun b o e _ => s b o e
theorem ins_ext {H H' : Hp} {a C : Addr} {fs : Fs} (s : ExtN H H') (h : Ins H a C fs) : Ins H' a C fs := let ⟨dx, e⟩ := h; ⟨dx, s _ _ e (fun _ z => by cases z)⟩
theorem ins_fr {A : List Addr} {H H' : Hp} {a C : Addr} {fs : Fs} (s : FrN A H H') (n : a ∉ A) (h : Ins H a C fs) : Ins H' a C fs := let ⟨dx, e⟩ := h; ⟨dx, s _ _ n (fun _ z => by cases z) e⟩
/-! ### modules without classes, generics, methods -/
abbrev Mo := Str × List Str
def modD (m : Mo) : PyData := .tuple [.str m.1, .tuple (m.2.map .str), .tuple [], .tuple [], .tuple []]
def ModV (K : PySem.W.Frag) (H : Hp) (v : V) (m : Mo) : Prop := ∃ t tu tc tg tm, v = .ref t ∧ SqT K H t [.str m.1, .ref tu, .ref tc, .ref tg, .ref tm] ∧ SqT K H tu (m.2.map V.str) ∧ SqT K H tc [] ∧ SqT K H tg [] ∧ SqT K H tm []
theorem modV_ext {K : PySem.W.Frag} {H H' : Hp} (e : ExtN H H') {v : V} {m : Mo} (h : ModV K H v m) : ModV K H' v m :=
  let ⟨t, tu, tc, tg, tm, h1, h2, h3, h4, h5, h6⟩ := h
  ⟨t, tu, tc, tg, tm, h1, sqt_ext e h2, sqt_ext e h3, sqt_ext e h4, sqt_ext e h5, sqt_ext e h6⟩
theorem modV_fr {K : PySem.W.Frag} {A : List Addr} {H H' : Hp} (e : FrN A H H') (n : NoTup A H) {v : V} {m : Mo} (h : ModV K H v m) : ModV K H' v m :=
  let ⟨t, tu, tc, tg, tm, h1, h2, h3, h4, h5, h6⟩ := h
  ⟨t, tu, tc, tg, tm, h1, e.sqt n h2, e.sqt n h3, e.sqt n h4, e.sqt n h5, e.sqt n h6⟩
/-- the texts of a tuple of texts -/
theorem dps_strs {K : PySem.W.Frag} {H : Hp} : ∀ {us : List Str} {xs : List V}, DpAll K H xs (us.map PyData.str) → xs = us.map V.str
  | [], _, .nil => rfl
  | u :: us, _, .cons (.str _) t => congrArg (V.str u :: ·) (dps_strs t)
theorem modV_of {K : PySem.W.Frag} {H : Hp} {v : V} {m : Mo} (h : Dp K H v (modD m)) : ModV K H v m := by
  unfold modD at h
  cases h with
  | @tup t xs _ ht hd =>
    obtain ⟨x0, x1, x2, x3, x4, d0, d1, d2, d3, d4, rfl, hit, k0, k1, k2, k3, k4⟩ := dps5 hd rfl
    cases hit
    cases k0
    cases k1 with
    | @tup tu us _ h1 e1 =>
      cases k2 with
      | @tup tc cs _ h2 e2 =>
        cases k3 with
        | @tup tg gs _ h3 e3 =>
          cases k4 with
          | @tup tm ms _ h4 e4 =>
            cases e2
            cases e3
            cases e4
            rw [dps_strs e1] at h1
            exact ⟨t, tu, tc, tg, tm, rfl, ht, h1, h2, h3, h4⟩
/-- dicts of such rows: names to values of which R says what they are -/
def KD (R : V → Mo → Prop) : List (Key × V) → List Mo → Prop
  | [], [] => True
  | (k, v) :: kvs, m :: ms => k = .inr m.1 ∧ R v m ∧ KD R kvs ms
  | _, _ => False
end Cw

set_option Elab.async false
set_option linter.all false
set_option maxRecDepth 100000
set_option maxHeartbeats 4000000
namespace Cw
open PySem PySem.Spec PyProof.Rows L2 LamX
abbrev names (ms : List Mo) : List Str := ms.map (·.1)
theorem KD.mono {R R' : V → Mo → Prop} (h : ∀ v m, R v m → R' v m) : ∀ {kvs : List (Key × V)} {ms : List Mo}, KD R kvs ms → KD R' kvs ms
  | [], [], _ => trivial
  | (_, _) :: _, _ :: _, ⟨a, b, c⟩ => ⟨a, h _ _ b, c.mono h⟩
theorem KD.len {R : V → Mo → Prop} : ∀ {kvs : List (Key × V)} {ms : List Mo}, KD R kvs ms → kvs.length = ms.length
  | [], [], _ => rfl
  | (_, _) :: _, _ :: _, ⟨_, _, c⟩ => congrArg Nat.succ c.len
theorem KD.keys {R : V → Mo → Prop} : ∀ {kvs : List (Key × V)} {ms : List Mo}, KD R kvs ms → kvs.map (·.1) = (names ms).map Sum.inr
  | [], [], _ => rfl
  | (_, _) :: _, m :: _, ⟨a, _, c⟩ => by
    subst a
    exact congrArg (Sum.inr m.1 :: ·) c.keys
theorem KD.app {R : V → Mo → Prop} {v : V} {m : Mo} (hr : R v m) : ∀ {kvs : List (Key × V)} {ms : List Mo}, KD R kvs ms → KD R (kvs ++ [(.inr m.1, v)]) (ms ++ [m])
  | [], [], _ => ⟨rfl, hr, trivial⟩
  | (_, _) :: _, _ :: _, ⟨a, b, c⟩ => ⟨a, b, c.app hr⟩
theorem KD.at_ {R : V → Mo → Prop} : ∀ {kvs : List (Key × V)} {ms : List Mo} {i : Nat} {k : Key} {v : V}, KD R kvs ms → kvs[i]? = some (k, v) → ∃ m, ms[i]? = some m ∧ k = .inr m.1 ∧ R v m
  | (_, _) :: _, m :: _, 0, k, v, ⟨a, b, _⟩, e => by
    rw [List.getElem?_cons_zero] at e
    cases e
    exact ⟨m, rfl, a, b⟩
  | (_, _) :: _, _ :: _, i + 1, k, v, ⟨_, _, c⟩, e => by
    rw [List.getElem?_cons_succ] at e ⊢
    exact c.at_ e
  | [], [], _, _, _, _, e => by simp at e
theorem valV_cons {k k2 : Key} {v : V} {kvs : List (Key × V)} : valV ((k, v) :: kvs) k2 = if k = k2 then some v else valV kvs k2 := by
  unfold valV
  by_cases h : k = k2
  · rw [if_pos h, List.find?_cons_of_pos (by simpa using h)]
    rfl
  · rw [if_neg h, List.find?_cons_of_neg (by simpa using h)]
theorem KD.no {R : V → Mo → Prop} {n : Str} : ∀ {kvs : List (Key × V)} {ms : List Mo}, KD R kvs ms → n ∉ names ms → valV kvs (.inr n) = none
  | [], [], _, _ => rfl
  | (_, _) :: _, m :: ms, ⟨a, _, c⟩, h => by
    subst a
    rw [valV_cons, if_neg (fun e => h (by rw [← Sum.inr.inj e]; exact List.mem_cons_self))]
    exact c.no fun k => h (List.mem_cons_of_mem _ k)
theorem KD.get {R : V → Mo → Prop} {m : Mo} : ∀ {kvs : List (Key × V)} {ms : List Mo}, KD R kvs ms → m ∈ ms → (names ms).Nodup → ∃ v, valV kvs (.inr m.1) = some v ∧ R v m
  | (_, v) :: _, x :: ms, ⟨a, b, c⟩, h, nd => by
    subst a
    have nd : x.1 ∉ names ms ∧ (names ms).Nodup := List.nodup_cons.mp nd
    rw [valV_cons]
    rcases List.mem_cons.mp h with rfl | h
    · exact ⟨v, if_pos rfl, b⟩
    · rw [if_neg (fun e => nd.1 (by rw [Sum.inr.inj e]; exact List.mem_map_of_mem h))]
      exact c.get h nd.2
  | [], [], _, h, _ => by cases h
theorem KD.some {R : V → Mo → Prop} {n : Str} : ∀ {kvs : List (Key × V)} {ms : List Mo}, KD R kvs ms → n ∈ names ms → ∃ v, valV kvs (.inr n) = some v
  | (_, v) :: _, x :: ms, ⟨a, b, c⟩, h => by
    subst a
    rw [valV_cons]
    by_cases e : x.1 = n
    · exact ⟨v, if_pos (by rw [e])⟩
    · rw [if_neg (fun g => e (Sum.inr.inj g))]
      rcases List.mem_cons.mp h with g | g
      · exact absurd g.symm e
      · exact c.some g
  | [], [], _, h => by cases h
theorem KD.drop {R : V → Mo → Prop} {n : Str} : ∀ {kvs : List (Key × V)} {ms : List Mo}, KD R kvs ms → KD R (dropK kvs (.inr n)) (ms.filter (fun m => decide (m.1 ≠ n)))
  | [], [], _ => trivial
  | (_, v) :: _, x :: ms, ⟨a, b, c⟩ => by
    subst a
    unfold dropK
    by_cases e : x.1 = n
    · rw [List.filter_cons_of_neg (by simp [e]), List.filter_cons_of_neg (by simp [e])]
      exact c.drop
    · rw [List.filter_cons_of_pos (by simpa using e), List.filter_cons_of_pos (by simpa using e)]
      exact ⟨rfl, b, c.drop⟩
theorem KD.put {R : V → Mo → Prop} {v : V} {m : Mo} {kvs : List (Key × V)} {ms : List Mo} (h : KD R kvs ms) (hr : R v m) (n : m.1 ∉ names ms) : KD R (putK kvs (.inr m.1) v) (ms ++ [m]) := by
  rw [putK_new _ (h.no n)]
  exact h.app hr
/-- the values in their order -/
def VD (R : V → Mo → Prop) : List V → List Mo → Prop
  | [], [] => True
  | v :: vs, m :: ms => R v m ∧ VD R vs ms
  | _, _ => False
theorem KD.vals {R : V → Mo → Prop} : ∀ {kvs : List (Key × V)} {ms : List Mo}, KD R kvs ms → VD R (kvs.map (·.2)) ms
  | [], [], _ => trivial
  | (_, _) :: _, _ :: _, ⟨_, b, c⟩ => ⟨b, c.vals⟩
theorem VD.mono {R R' : V → Mo → Prop} (h : ∀ v m, R v m → R' v m) : ∀ {vs : List V} {ms : List Mo}, VD R vs ms → VD R' vs ms
  | [], [], _ => trivial
  | _ :: _, _ :: _, ⟨b, c⟩ => ⟨h _ _ b, c.mono h⟩
theorem VD.app {R : V → Mo → Prop} {v : V} {m : Mo} (hr : R v m) : ∀ {vs : List V} {ms : List Mo}, VD R vs ms → VD R (vs ++ [v]) (ms ++ [m])
  | [], [], _ => ⟨hr, trivial⟩
  | _ :: _, _ :: _, ⟨b, c⟩ => ⟨b, c.app hr⟩
theorem VD.len {R : V → Mo → Prop} : ∀ {vs : List V} {ms : List Mo}, VD R vs ms → vs.length = ms.length
  | [], [], _ => rfl
  | _ :: _, _ :: _, ⟨_, c⟩ => congrArg Nat.succ c.len
theorem VD.at_ {R : V → Mo → Prop} : ∀ {vs : List V} {ms : List Mo} {i : Nat} {v : V}, VD R vs ms → vs[i]? = some v → ∃ m, ms[i]? = some m ∧ R v m
  | _ :: _, m :: _, 0, v, ⟨b, _⟩, e => by
    rw [List.getElem?_cons_zero] at e
    cases e
    exact ⟨m, rfl, b⟩
  | _ :: _, _ :: _, i + 1, v, ⟨_, c⟩, e => by
    rw [List.getElem?_cons_succ] at e ⊢
    exact c.at_ e
  | [], [], _, _, _, e => by simp at e
theorem VD.firsts {K : PySem.W.Frag} {H : Hp} : ∀ {vs : List V} {ms : List Mo}, VD (ModV K H) vs ms → Firsts K H vs (names ms)
  | [], [], _ => trivial
  | _ :: _, m :: _, ⟨⟨t, tu, tc, tg, tm, h1, h2, _⟩, c⟩ => ⟨⟨t, _, h1, h2⟩, VD.firsts c⟩
theorem VD.perm {R : V → Mo → Prop} {vs vs' : List V} (p : vs'.Perm vs) : ∀ {ms : List Mo}, VD R vs ms → ∃ ms', ms'.Perm ms ∧ VD R vs' ms' := by
  induction p with
  | nil => exact fun h => ⟨_, .refl _, h⟩
  | @cons x l1 l2 p ih =>
    intro ms h
    cases ms with
    | nil => exact h.elim
    | cons m ms =>
      obtain ⟨ms', h1, h2⟩ := ih h.2
      exact ⟨m :: ms', h1.cons m, h.1, h2⟩
  | @swap x y l =>
    intro ms h
    match ms, h with
    | m1 :: m2 :: ms, ⟨h1, h2, h3⟩ => exact ⟨m2 :: m1 :: ms, .swap _ _ _, h2, h1, h3⟩
  | @trans l1 l2 l3 p q ih1 ih2 =>
    intro ms h
    obtain ⟨ms1, a1, b1⟩ := ih2 h
    obtain ⟨ms2, a2, b2⟩ := ih1 b1
    exact ⟨ms2, a2.trans a1, b2⟩
/-! ### what is reached -/
def Us (ms : List Mo) (x : Str) (us : List Str) : Prop := (x, us) ∈ ms ∨ (x ∉ names ms ∧ us = [])
inductive Reach (ms : List Mo) : Nat → List Str → List Str → List Str → Prop
  | done (found : List Str) : Reach ms 0 found [] found
  | seen {n : Nat} {found due res : List Str} {x : Str} : x ∈ found → Reach ms n found due res → Reach ms (n + 1) found (due ++ [x]) res
  | new {n : Nat} {found due us res : List Str} {x : Str} : x ∉ found → Us ms x us → Reach ms n (found ++ [x]) (due ++ us) res → Reach ms (n + 1) found (due ++ [x]) res
theorem Reach.due {ms : List Mo} {n : Nat} {f d r : List Str} (h : Reach ms n f d r) : d.length ≤ n := by
  induction h with
  | done => exact Nat.le_refl _
  | seen _ _ ih => simp; omega
  | new _ _ _ ih => simp at ih ⊢; omega
theorem Reach.found {ms : List Mo} {n : Nat} {f d r : List Str} (h : Reach ms n f d r) : f.length ≤ r.length ∧ r.length ≤ f.length + n := by
  induction h with
  | done => exact ⟨Nat.le_refl _, Nat.le_refl _⟩
  | seen _ _ ih => omega
  | new _ _ _ ih => simp at ih; omega
theorem Reach.nodup {ms : List Mo} {n : Nat} {f d r : List Str} (h : Reach ms n f d r) : f.Nodup → r.Nodup := by
  induction h with
  | done => exact id
  | seen _ _ ih => exact ih
  | new hx _ _ ih =>
    intro nd
    refine ih (List.nodup_append.mpr ⟨nd, by simp, fun a ha b hb => ?_⟩)
    rw [List.mem_singleton] at hb
    subst hb
    exact fun e => hx (e ▸ ha)
theorem Reach.perm {ms ms' : List Mo} (p : ms'.Perm ms) {n : Nat} {f d r : List Str} (h : Reach ms n f d r) : Reach ms' n f d r := by
  have hu : ∀ {x us}, Us ms x us → Us ms' x us := fun {x us} h => by
    rcases h with h | ⟨h, e⟩
    · exact .inl (p.mem_iff.mpr h)
    · exact .inr ⟨fun k => h ((p.map _).mem_iff.mp k), e⟩
  induction h with
  | done => exact .done _
  | seen h _ ih => exact .seen h ih
  | new h u _ ih => exact .new h (hu u) ih
/-! ### the atlas -/
structure Cl where
  PE : Addr
  A : Addr
  E : Addr
def UsR (K : PySem.W.Frag) (H : Hp) (v : V) (m : Mo) : Prop := ∃ tu, v = .ref tu ∧ SqT K H tu (m.2.map V.str)
theorem usR_ext {K : PySem.W.Frag} {H H' : Hp} (e : ExtN H H') (v : V) (m : Mo) (h : UsR K H v m) : UsR K H' v m := let ⟨tu, h1, h2⟩ := h; ⟨tu, h1, sqt_ext e h2⟩
def entryF (nm mo : Str) (op ab : Bool) (tp df : Addr) : Fs := [("name", .str nm), ("module", .str mo), ("is_open", .bl op), ("is_abstract", .bl ab), ("parents", .ref tp), ("fields", .ref df)]
/-- a class of base -/
def BaseE (CE : Addr) (H : Hp) (v : V) (nm : Str) (op ab : Bool) : Prop := ∃ c tp df, v = .ref c ∧ Ins H c CE (entryF nm "base" op ab tp df)
def atlasF (dm dc dg dt du dp da : Addr) : Fs := [("modules", .ref dm), ("classes", .ref dc), ("generics", .ref dg), ("methods", .ref dt), ("_uses", .ref du), ("_parents", .ref dp), ("_aboves", .ref da)]
def AtlasAt (K : PySem.W.Frag) (CA CE : Addr) (H : Hp) (a : Addr) (ms : List Mo) : Prop :=
  ∃ dm dc dg dt du dp da kvs uvs v1 v2 ms', Ins H a CA (atlasF dm dc dg dt du dp da) ∧ ms'.Perm ms ∧ H dm = some (.dK kvs) ∧ KD (ModV K H) kvs ms' ∧ H du = some (.dK uvs) ∧ KD (UsR K H) uvs ms' ∧
    H dc = some (.dK [(.inr "base.Any", v1), (.inr "base.Int", v2)]) ∧ BaseE CE H v1 "base.Any" true true ∧ BaseE CE H v2 "base.Int" false false ∧ H dg = some (.dK [])
theorem atlas_ext {K : PySem.W.Frag} {CA CE : Addr} {H H' : Hp} (e : ExtN H H') {a : Addr} {ms : List Mo} (h : AtlasAt K CA CE H a ms) : AtlasAt K CA CE H' a ms := by
  obtain ⟨dm, dc, dg, dt, du, dp, da, kvs, uvs, v1, v2, ms', h1, h2, h3, h4, h5, h6, h7, ⟨c1, p1, f1, b1, b2⟩, ⟨c2, p2, f2, b3, b4⟩, h9⟩ := h
  have k : ∀ b kv, H b = some (.dK kv) → H' b = some (.dK kv) := fun b kv g => e _ _ g (fun _ z => by cases z)
  exact ⟨dm, dc, dg, dt, du, dp, da, kvs, uvs, v1, v2, ms', ins_ext e h1, h2, k _ _ h3, h4.mono fun _ _ => modV_ext e, k _ _ h5, h6.mono fun _ _ => usR_ext e _ _, k _ _ h7, ⟨c1, p1, f1, b1, ins_ext e b2⟩, ⟨c2, p2, f2, b3, ins_ext e b4⟩, k _ _ h9⟩
end Cw

set_option Elab.async false
set_option linter.all false
set_option maxRecDepth 100000
set_option maxHeartbeats 4000000
namespace Cw
open PySem PySem.Spec PyProof.Rows L2
/-- data without lists, of a depth, its texts and tuples not long -/
inductive Sz (k : Nat) : Nat → PyData → Prop
  | non (n : Nat) : Sz k n .none
  | bool (n : Nat) (b : Bool) : Sz k n (.bool b)
  | int (n : Nat) (i : Int) : Sz k n (.int i)
  | str (n : Nat) (z : Str) (h : z.length ≤ k) : Sz k n (.str z)
  | tuple (n : Nat) (l : List PyData) (h : l.length ≤ k) (t : ∀ d, d ∈ l → Sz k n d) : Sz k (n + 1) (.tuple l)
theorem sz_ont {k n : Nat} {d : PyData} (h : Sz k n d) : OnT d := by
  induction h with
  | non => exact .non
  | bool _ b => exact .bool b
  | int _ i => exact .int i
  | str _ z _ => exact .str z
  | tuple _ l _ _ ih => exact .tuple l ih
theorem sz_mono {k n : Nat} {d : PyData} (h : Sz k n d) : ∀ {k' n' : Nat}, k ≤ k' → n ≤ n' → Sz k' n' d := by
  induction h with
  | non => exact fun _ _ => .non _
  | bool _ b => exact fun _ _ => .bool _ b
  | int _ i => exact fun _ _ => .int _ i
  | str _ z h => exact fun a _ => .str _ z (Nat.le_trans h a)
  | tuple n l h _ ih =>
    intro k' n' a b
    match n', b with
    | m + 1, b => exact .tuple m l (Nat.le_trans h a) fun d hd => ih d hd a (by omega)
theorem sz_ok {k n : Nat} {d : PyData} (h : Sz k n d) (hk : k ≤ 100000) : Ok d := by
  induction h with
  | non => exact .non
  | bool _ b => exact .bool b
  | int _ i => exact .int i
  | str _ z h => exact .str z (by omega)
  | tuple _ l h _ ih => exact .tuple l (by omega) ih
theorem nt_lst {D : Addr} {H : Hp} {acc : List V} (h : H D = some (.lst acc)) : NoTup [D] H := fun b m xs e => by
  rcases List.mem_singleton.mp m with rfl
  rcases e with e | ⟨o, e⟩ <;> · rw [h] at e; cases e
theorem dps_set {K : PySem.W.Frag} {H : Hp} {D : Addr} {acc : List V} {o : HO} {xs : List V} {ds : List PyData} (h : H D = some (.lst acc)) (ho : ∀ d, d ∈ ds → OnT d) (hd : DpAll K H xs ds) : DpAll K (upd H D o) xs ds :=
  dps_fr ((Fr.refl H).set (List.mem_singleton.mpr rfl)) (nt_lst h) ho hd
end Cw

set_option Elab.async false
set_option linter.all false
set_option maxRecDepth 100000
set_option maxHeartbeats 4000000
namespace Cw
open PySem PySem.Spec PyProof.Rows L2 LamX
/-- plain of data without lists is the same data anew -/
def spPlain (K : PySem.W.Frag) : Nat → Sp
  | 0 => fun _ _ _ _ => False
  | n + 1 => fun vs H Q _ => ∃ x d, vs = [x] ∧ Dp K H x d ∧ Sz 10000 n d ∧ ∀ y H', Same H H' → Dp K H' y d → Q y H'
def spDiff (K : PySem.W.Frag) : Sp := fun vs H Q _ => ∃ (a : Addr) (xs : List Str), vs = [.ref a] ∧ SqT K H a (xs.map V.str) ∧ xs.length < 4000 ∧ Q (.bl (decide xs.Nodup)) H
def tk (x : Str) : Key × V := (.inr x, .bl true)
def spReached (K : PySem.W.Frag) : Sp := fun vs H Q _ => ∃ (a d : Addr) (starts res : List Str) (uvs : List (Key × V)) (ms : List Mo) (n : Nat), vs = [.ref a, .ref d] ∧ SqL K H a (starts.map V.str) ∧ H d = some (.dK uvs) ∧ KD (UsR K H) uvs ms ∧ (names ms).Nodup ∧ Reach ms n [] starts res ∧ n ≤ 10000 ∧
  ∀ p H', Same H H' → H p = none → H' p = some (.dK (res.map tk)) → Q (.ref p) H'
theorem iteT' {p : Bool} {A B : Prop} (h : p = true) (a : A) : if p = true then A else B := by
  rw [if_pos h]
  exact a
theorem iteF' {p : Bool} {A B : Prop} (h : p = false) (b : B) : if p = true then A else B := by
  rw [if_neg (by rw [h]; decide)]
  exact b
theorem tk_no {x : Str} {f : List Str} (h : x ∉ f) : valV (f.map tk) (.inr x) = none := by
  induction f with
  | nil => rfl
  | cons y f ih =>
    show valV ((Sum.inr y, V.bl true) :: f.map tk) (.inr x) = none
    rw [valV_cons, if_neg (fun e => h (by rw [← Sum.inr.inj e]; exact List.mem_cons_self))]
    exact ih fun m => h (List.mem_cons_of_mem _ m)
theorem tk_some {x : Str} {f : List Str} (h : x ∈ f) : valV (f.map tk) (.inr x) = some (.bl true) := by
  induction f with
  | nil => cases h
  | cons y f ih =>
    show valV ((Sum.inr y, V.bl true) :: f.map tk) (.inr x) = some (.bl true)
    rw [valV_cons]
    by_cases e : y = x
    · rw [if_pos (by rw [e])]
    · rw [if_neg (fun g => e (Sum.inr.inj g))]
      rcases List.mem_cons.mp h with g | g
      · exact absurd g.symm e
      · exact ih g
theorem tk_put {x : Str} {f : List Str} (h : x ∉ f) : putK (f.map tk) (.inr x) (.bl true) = (f ++ [x]).map tk := by
  rw [putK_new _ (tk_no h), List.map_append]
  rfl
section
variable {P : Program} {w : World} {K : PySem.W.Frag} {mg : Str → Option Value} {base : Heap}
abbrev s_plain : Stmt := topS 32
theorem sc_plain : FnScope ["value", "one"] ["value"] (defScope s_plain) := ⟨rfl, rfl, rfl, by decide +kernel, rfl, by decide +kernel, by decide +kernel⟩
theorem ok_plain {f : Addr} {fd : FuncData} (F : Fun K "plain" "plain" s_plain f fd) (m_isinstance : mg "isinstance" = none) (m_list : mg "list" = none) (m_tuple : mg "tuple" = none) (bF : Binds K fd ["value"] []) (gF : mg "plain" = some (.ref f)) : ∀ n, FnOk P w K mg base CX0 (1 + n) f fd ["value"] (spPlain K n)
  | 0 => ⟨fun _ _ _ _ h => h.elim, fun _ _ _ _ _ _ _ _ _ _ _ _ _ h => h.elim⟩
  | n + 1 => by
    have G := ok_plain F m_isinstance m_list m_tuple bF gF n
    refine F.ok sc_plain (fun vs H Q E h => ?_) (fun cdv A outer s H vs Q E hr h => ?_)
    · obtain ⟨_, _, rfl, _⟩ := h
      rfl
    · obtain ⟨x, d, rfl, hx, hz, q⟩ := h
      refine ⟨_, (pss_cons (ps_if (pt_val (pe_callB call_isiT (by rfl) m_isinstance (by decide +kernel) (pa_cons (pv 0) (pa_cons (pe_tup (pa_cons (pe_bltn (v := .ty "list") (by rfl) m_list (by decide +kernel) rfl) (pa_cons (pe_bltn (v := .ty "tuple") (by rfl) m_tuple (by decide +kernel) rfl) pa_nil))) pa_nil)))) (pss_one (ps_ret (pe_callTy call_tuple_of (by rfl) m_tuple (by decide +kernel) (pa_cons (pe_lc (own := [("one", 1)]) rfl sc_plain.nd (pi_seq (pv 0)) (blkOk_by (N := ["value", "one"]) (sc := defScope s_plain) (by decide +kernel)) (fun _ _ _ _ _ => by exact (pg_name (i := 1) sc_plain.nd rfl (.inl rfl))) (fun _ _ _ _ _ => by exact pts_nil) (fun _ _ _ _ _ => by exact (pe_call G hr (by rfl) gF F.kp bF .nil pass0 (pa_cons (pv 1) pa_nil)))) pa_nil)))) pss_nil)
  (pss_one (ps_ret (pv 0)))), ?_⟩
      refine seqA (ifA ⟨x, rfl, by show 2 ≤ sizeLine; decide, fun tp ntp => ?_⟩)
      have s1 := same_upd (o := .tup [.ty "list", .ty "tuple"]) ntp
      have hx1 := dp_keep s1 hx
      refine ⟨x, tp, [.ty "list", .ty "tuple"], _, [.type "list", .type "tuple"], isSq d, rfl, upd_same, .cons (.ty _) (.cons (.ty _) .nil), ty_dp hx1, kb_sq d, _, rfl, ?_⟩
      generalize upd H tp (.tup [.ty "list", .ty "tuple"]) = H0 at s1 hx1 ⊢
      cases hz with
      | tuple n0 ds hl hall =>
        cases hx1 with
        | @tup a xs _ h1 hd =>
          refine iteT (retA (cb1 (lc_seq (fun R r => ⟨.ref a, rfl, r⟩) (.inr h1) (fun D i H' => Same H0 H' ∧ ∃ acc, H' D = some (.lst acc) ∧ DpAll K H' acc (ds.take i)) ?_ ?_ ?_ ?_)))
          · intro D hD
            exact ⟨same_upd hD, [], upd_same, .nil⟩
          · rintro D i H' ⟨s, _⟩
            exact s
          · rintro D i y H1 hD hy ⟨s2, acc, hacc, hdp⟩
            have hi : i < ds.length := by
              rw [← (dp_get hd).1]
              exact (List.getElem?_eq_some_iff.mp hy).1
            obtain ⟨y', hy1, hy2⟩ := (dp_get hd).2 i ds[i] (List.getElem?_eq_getElem hi)
            obtain rfl : y' = y := Option.some.inj (hy1.symm.trans hy)
            have hzi := hall _ (List.getElem_mem hi)
            refine ⟨rfl, ?_⟩
            unfold tYes
            dsimp only
            rw [if_pos rfl]
            refine ⟨y', rfl, y', ds[i], rfl, dp_keep s2 hy2, hzi, fun x' H3 t1 hx' => ?_⟩
            refine ⟨acc, t1 _ _ hacc, ?_, same_mut (s2.trans t1) hD, acc ++ [x'], upd_same, ?_⟩
            · have := (dp_get hdp).1
              rw [List.length_take] at this
              exact Nat.lt_of_le_of_lt (by omega : acc.length ≤ 10000) (by decide)
            · rw [List.take_add_one, List.getElem?_eq_getElem hi]
              refine dps_app (dps_set (t1 _ _ hacc) (fun d m => ?_) (dps_keep t1 hdp)) (dps_set (t1 _ _ hacc) (fun d m => ?_) (.cons hx' .nil))
              · exact sz_ont (hall _ (List.mem_of_mem_take m))
              · rcases List.mem_singleton.mp m with rfl
                exact sz_ont hzi
          · rintro D H1 hD ⟨s2, acc, hacc, hdp⟩
            rw [(dp_get hd).1, List.take_length] at hdp
            exact ⟨D, acc, rfl, .inl ⟨SqL.of hacc, fun l hl => q (.ref l) _ ((s1.trans s2).trans (same_upd hl)) (.tup (.inl (.inl upd_same)) (dps_keep (same_upd hl) hdp))⟩⟩
      | non => exact iteF (nextA ⟨x, rfl, q x H0 s1 hx1⟩)
      | bool => exact iteF (nextA ⟨x, rfl, q x H0 s1 hx1⟩)
      | int => exact iteF (nextA ⟨x, rfl, q x H0 s1 hx1⟩)
      | str => exact iteF (nextA ⟨x, rfl, q x H0 s1 hx1⟩)
abbrev s_are_different : Stmt := topS 96
theorem sc_are_different : FnScope ["words"] ["words"] (defScope s_are_different) := ⟨rfl, rfl, rfl, by decide +kernel, rfl, by decide +kernel, by decide +kernel⟩
theorem ok_are_different {f : Addr} {fd : FuncData} (F : Fun K "are_different" "are_different" s_are_different f fd) (m_len : mg "len" = none) (m_set : mg "set" = none) : FnOk P w K mg base CX0 1 f fd ["words"] (spDiff K) := by
  refine F.ok sc_are_different (fun vs H Q E h => ?_) (fun cdv A outer s H vs Q E hr h => ?_)
  · obtain ⟨_, _, rfl, _⟩ := h
    rfl
  · obtain ⟨a, xs, rfl, hq, hl, q⟩ := h
    refine ⟨_, (pss_one (ps_ret (pe_cmpR op_eq (pe_lenSetT rfl m_len rfl m_set (pv 0)) (pe_callB call_len_seq (by rfl) m_len PySem.boot_len (pa_cons (pv 0) pa_nil)) (nomark _)))), ?_⟩
    refine retA ⟨.ref a, rfl, a, xs, rfl, hq, hl, .ref a, rfl, a, _, rfl, .inr hq, rfl, ?_⟩
    rw [List.length_map, show decide (V.int (CwSet.cntL xs : Nat) = V.int (xs.length : Nat)) = decide xs.Nodup from ?_]
    · exact q
    · rw [dec_int, Bool.eq_iff_iff, beq_iff_eq, decide_eq_true_iff, ← CwSet.cntL_eq]
      omega
abbrev s_reached : Stmt := topS 9
theorem sc_reached : FnScope ["starts", "steps", "found", "due", "one"] ["starts", "steps"] (defScope s_reached) := ⟨rfl, rfl, rfl, by decide +kernel, rfl, by decide +kernel, by decide +kernel⟩
theorem ok_reached {f : Addr} {fd : FuncData} (F : Fun K "reached" "reached" s_reached f fd) (m_list : mg "list" = none) : FnOk P w K mg base CX0 1 f fd ["starts", "steps"] (spReached K) := by
  refine F.ok sc_reached (fun vs H Q E h => ?_) (fun cdv A outer s H vs Q E hr h => ?_)
  · obtain ⟨_, _, _, _, _, _, _, rfl, _⟩ := h
    rfl
  · obtain ⟨a, d, starts, res, uvs, ms, n, rfl, hl, hd, hk, nd, hr2, hn, q⟩ := h
    refine ⟨_, (pss_cons (ps_set (i := 2) sc_reached.nd rfl (.inl rfl) pe_dnewK)
  (pss_cons (ps_set (i := 3) sc_reached.nd rfl (.inl rfl) (pe_callTy call_list_of (by rfl) m_list (by decide +kernel) (pa_cons (pv 0) pa_nil)))
  (pss_cons (ps_while PassesOwn.never (pt_truth (pv 3) (by intro _; rfl)) (pss_cons (ps_set (i := 4) sc_reached.nd rfl (.inl rfl) (pe_bm0 PySem.F.plainAttrs_list PySem.F.slot_list_pop PySem.F.type_list_pop mt_pop (pv 3)))
  (pss_one (ps_if (pt_cmp (pc_dnotin (hu_of hr) (pv 4) (pv 2))) (pss_cons (ps_dput (hu_of hr) (pv 2) (pv 4) pe_bl rfl)
  (pss_one (ps_expr (pe_bm PySem.F.plainAttrs_list PySem.F.slot_list_extend PySem.F.type_list_extend mt_extendA (pv 3) (pa_cons (pe_dget2 (hu_of hr) (pv 1) (pv 4) (pe_tup pa_nil) ⟨rfl, rfl, rfl, rfl⟩) pa_nil))))) pss_nil))))
  (pss_one (ps_ret (pv 2)))))), ?_⟩
    refine seqA (asgA fun pf npf => nameA ?_)
    dsimp only
    have s1 : Same H (upd H pf (.dK [])) := same_upd npf
    refine seqA (asgA ⟨.ref a, rfl, a, _, rfl, .inl (s1.seq hl), fun pl npl => nameA ?_⟩)
    dsimp only
    have npl0 : H pl = none := s1.free npl
    have nefl : pf ≠ pl := fun e => by rw [← e, upd_same] at npl; cases npl
    have s2 : Same H (upd (upd H pf (.dK [])) pl (.lst (starts.map V.str))) := s1.trans (same_upd npl)
    refine seqA ⟨fun m σ' H' => ∃ found due c4, σ' = [some (.ref a), some (.ref d), some (.ref pf), some (.ref pl), c4] ∧ Same H H' ∧ H' pf = some (.dK (found.map tk)) ∧ H' pl = some (.lst (due.map V.str)) ∧ Reach ms m found due res ∧ m + found.length ≤ 10000,
      ⟨n, [], starts, none, rfl, s2, by rw [upd_ne nefl]; exact upd_same, upd_same, hr2, hn⟩, ?_⟩
    rintro m σ' H' ⟨found, due, c4, rfl, sm, hf, hd2, rc, hb⟩
    refine ⟨.ref pl, rfl, !(due.map V.str).isEmpty, .inl ⟨_, SqL.of hd2, rfl⟩, ?_⟩
    cases rc with
    | done =>
      refine iteF' rfl ?_
      dsimp only
      exact retA ⟨.ref pf, rfl, q pf H' sm npf hf⟩
    | @seen m _ due _ x hx rc =>
      rw [show (!((due ++ [x]).map V.str).isEmpty) = true by simp]
      refine iteT ?_
      refine ⟨fun σ' H' => ∃ found due c4, σ' = [some (.ref a), some (.ref d), some (.ref pf), some (.ref pl), c4] ∧ Same H H' ∧ H' pf = some (.dK (found.map tk)) ∧ H' pl = some (.lst (due.map V.str)) ∧ Reach ms m found due res ∧ m + found.length ≤ 10000, fun σ' H' hw => ⟨m, Nat.lt_succ_self m, hw⟩, ?_⟩
      refine seqA (asgA ⟨.ref pl, rfl, .inl ⟨rfl, _, SqL.of hd2⟩, pl, _, .str x, rfl, rfl, hd2, by simp, nameA ?_⟩)
      dsimp only
      have e1 : ((due ++ [x]).map V.str).dropLast = due.map V.str := by simp
      rw [e1]
      refine ifA ⟨.str x, rfl, .ref pf, rfl, pf, _, rfl, DGet.k (k := .inr x) (by rw [upd_ne nefl]; exact hf), _, rfl, ?_⟩
      rw [tk_some hx]
      exact iteF' rfl (nextA ⟨found, due, _, rfl, same_mut sm npl0, by rw [upd_ne nefl]; exact hf, upd_same, rc, by omega⟩)
    | @new m _ due us _ x hx hu rc =>
      rw [show (!((due ++ [x]).map V.str).isEmpty) = true by simp]
      refine iteT ?_
      refine ⟨fun σ' H' => ∃ found due c4, σ' = [some (.ref a), some (.ref d), some (.ref pf), some (.ref pl), c4] ∧ Same H H' ∧ H' pf = some (.dK (found.map tk)) ∧ H' pl = some (.lst (due.map V.str)) ∧ Reach ms m found due res ∧ m + found.length ≤ 10000, fun σ' H' hw => ⟨m, Nat.lt_succ_self m, hw⟩, ?_⟩
      refine seqA (asgA ⟨.ref pl, rfl, .inl ⟨rfl, _, SqL.of hd2⟩, pl, _, .str x, rfl, rfl, hd2, by simp, nameA ?_⟩)
      dsimp only
      have e1 : ((due ++ [x]).map V.str).dropLast = due.map V.str := by simp
      rw [e1]
      refine ifA ⟨.str x, rfl, .ref pf, rfl, pf, _, rfl, DGet.k (k := .inr x) (by rw [upd_ne nefl]; exact hf), _, rfl, ?_⟩
      rw [tk_no hx]
      have hfl : (found.map tk).length < sizeLine := by
        rw [List.length_map]
        exact Nat.lt_of_le_of_lt (by omega : found.length ≤ 10000) (by decide)
      refine iteT' rfl (seqA ⟨.ref pf, rfl, .str x, rfl, pf, _, rfl, DPut.k (k := .inr x) (by rw [upd_ne nefl]; exact hf) hfl, ?_⟩)
      dsimp only
      rw [tk_put hx]
      have s3 : Same H (upd (upd H' pl (.lst (due.map V.str))) pf (.dK ((found ++ [x]).map tk))) := same_mut (same_mut sm npl0) npf
      have hd3 := s3 _ _ hd
      have hpl3 : upd (upd H' pl (.lst (due.map V.str))) pf (.dK ((found ++ [x]).map tk)) pl = some (.lst (due.map V.str)) := by rw [upd_ne (Ne.symm nefl)]; exact upd_same
      have hpf3 : upd (upd H' pl (.lst (due.map V.str))) pf (.dK ((found ++ [x]).map tk)) pf = some (.dK ((found ++ [x]).map tk)) := upd_same
      generalize upd (upd H' pl (.lst (due.map V.str))) pf (.dK ((found ++ [x]).map tk)) = H3 at s3 hd3 hpl3 hpf3 ⊢
      have fin : ∀ {H4 : Hp} {b : Addr}, Same H3 H4 → SqT K H4 b (us.map V.str) → H4 pl = some (.lst (due.map V.str)) → H4 pf = some (.dK ((found ++ [x]).map tk)) →
          rExtA K (.ref pl) [.ref b] H4 (fun v H' => ∃ found due c4, [some (V.ref a), some (V.ref d), some (V.ref pf), some (V.ref pl), some (V.str x)] = [some (V.ref a), some (V.ref d), some (V.ref pf), some (V.ref pl), c4] ∧ Same H H' ∧ H' pf = some (.dK (found.map tk)) ∧ H' pl = some (.lst (due.map V.str)) ∧ Reach ms m found due res ∧ m + found.length ≤ 10000) := fun {H4 b} s4 hb4 h4 h5 => by
        have l1 := rc.due
        refine ⟨pl, b, _, _, rfl, rfl, h4, .inr hb4, ?_, found ++ [x], due ++ us, _, rfl, same_mut (s3.trans s4) npl0, by rw [upd_ne nefl]; exact h5, by rw [upd_same, List.map_append], rc, by simp; omega⟩
        rw [List.length_append] at l1
        rw [List.length_map, List.length_map]
        exact Nat.le_trans (by omega : due.length + us.length ≤ 10000) (by decide)
      refine ⟨.ref pl, rfl, .inl ⟨rfl, _, SqL.of hpl3⟩, .ref d, rfl, d, rfl, .inl ⟨_, .inl hd3⟩, .str x, rfl, Nat.zero_le _, fun pt npt => ?_⟩
      have s4 : Same H3 (upd H3 pt (.tup [])) := same_upd npt
      refine ⟨_, DGet.k (k := .inr x) (s4 _ _ hd3), ?_⟩
      rcases hu with hu | ⟨hu, rfl⟩
      · obtain ⟨v, e2, tu, rfl, ht⟩ := hk.get hu nd
        rw [e2]
        exact fin s4 (sqt_keep (s3.trans s4) ht) (s4 _ _ hpl3) (s4 _ _ hpf3)
      · rw [hk.no hu]
        exact fin s4 (.inl (.inl upd_same)) (s4 _ _ hpl3) (s4 _ _ hpf3)
end
end Cw

set_option Elab.async false
set_option linter.all false
set_option maxRecDepth 100000
set_option maxHeartbeats 4000000
/-! # CwEnum: for i, x in enumerate(t), t a tuple -/
namespace CwEn
open PySem PySem.Calls PySem.W
/-- the iterator of a tuple, the enumeration behind it, both just made -/
abbrev itO (t : Addr) : Obj := { cls := .type "tuple_iterator", data := .fields #[.ref t, .int 0 0] }
abbrev enO (i : Addr) : Obj := { cls := .type "enumerate", data := .fields #[.none, .bool false, .ref i, rawInt 0, .none, .none] }
theorem new_tup (t : Addr) (items : Array Value) :
    Meets (Builtin.«enumerate.__new__» ⟨[.type "enumerate", .ref t], []⟩) (fun _ R s => s.heap.IsTuple t items ∧ R (.ok (.ret (.ref (s.heap.push (itO t)).objs.size))) { s with heap := (s.heap.push (itO t)).push (enO s.heap.objs.size) }) :=
  .of_wp fun p w A R s h => by
    obtain ⟨h0, g, d, k, o⟩ := s
    obtain ⟨tup, h⟩ := h
    have f1 := sub_enumerate
    have f2 : ∀ {Q : Value → Shared → Prop} {E : Value → Shared → Prop} {A : Around} {s : Shared}, s.heap.IsTuple t items → Q (.ref s.heap.objs.size) { s with heap := s.heap.push (itO t) } → wpAny (model p w) A (pyIter (.ref t)) Q E s := fun a b => wpAny_pyIter_tuple a b
    wp_walk
    refine wpAny_stack_any fun st => wpAny_pure ?_
    split
    · rename_i c _ _ _ _ _
      cases (c == Value.type "enumerate") <;> (wp_walk using f2 tup; exact ⟨_, rfl, h⟩)
    · wp_walk using f2 tup
      exact ⟨_, rfl, h⟩
theorem call_tup {p : Program} {w : World} {A : Around} {E : Value → Shared → Prop} {s : Shared} {t : Addr} {items : Array Value} {Q : Value → Shared → Prop} (tup : s.heap.IsTuple t items)
    (h : ∀ h', IsEnum h' (s.heap.objs.size + 1) s.heap.objs.size 0 .none → h'.IsTupleIter s.heap.objs.size t 0 → (∀ b o, s.heap.get? b = some o → h'.get? b = some o) → Q (.ref (s.heap.objs.size + 1)) { s with heap := h' }) :
    wpAny (model p w) A (call (.type "enumerate") [.ref t]) Q E s := by
  refine callType_new F.called_enumerate (by decide) (F.typeCall_enumerate_1 _) (F.newCall_enumerate_1 _) (fun obj => F.args_object_init_2 obj _) F.entry_enumerate_new (new_tup t items) ⟨tup, ?_⟩
  have sz : (s.heap.push (itO t)).objs.size = s.heap.objs.size + 1 := Heap.size_push ..
  have at1 : ((s.heap.push (itO t)).push (enO s.heap.objs.size)).get? (s.heap.objs.size + 1) = some (enO s.heap.objs.size) := by
    rw [← sz]
    exact Heap.get?_push_size _ rfl
  show _ ∧ _
  rw [sz]
  exact ⟨⟨_, at1, rfl⟩, h _ at1 ⟨_, Heap.get?_push_of_some _ (Heap.get?_push_size _ rfl), rfl, rfl⟩ fun b o q => Heap.get?_push_of_some _ (Heap.get?_push_of_some _ q)⟩
end CwEn
namespace L2
open PySem PySem.Spec PyProof.Rows
/-- the tuple at t as it stands at each turn, each item in a new pair behind its number -/
def IteT (K : PySem.W.Frag) (t : Addr) : It where
  go := fun i H => ∃ (xs : List V) (x : V), SqT K H t xs ∧ xs[i]? = some x
  yld := fun i H v H' => ∃ (T : Addr) (x : V), v = .ref T ∧ H T = none ∧ H' = upd H T (.tup [.int (i : Nat), x]) ∧ ∀ xs, SqT K H t xs → xs[i]? = some x
  stop := fun i H => ∃ xs : List V, SqT K H t xs ∧ xs.length = i
theorem turn_enumT {P : Program} {w : World} {K : PySem.W.Frag} {elts : List Expr} {kk : Nat} {tpos : Pos} (t e it : Addr) :
    Turn P w K (.Tuple elts kk tpos) (IteT K t) [e, it] e (fun i h => (∃ old, IsEnum h e it ((i : Nat) : Int) old) ∧ h.IsTupleIter it t i ∧ e ≠ it) where
  mem := by simp
  obj := fun i h st b hb => by
    obtain ⟨⟨old, he⟩, ⟨o, ho, hc, hd⟩, _⟩ := st
    rcases List.mem_cons.mp hb with rfl | hb
    · exact ⟨_, he, fun v q => nomatch q⟩
    · obtain rfl := List.mem_singleton.mp hb
      exact ⟨o, ho, fun v q => by rw [hd] at q; cases q⟩
  keep := fun i h h' st k => by
    obtain ⟨⟨old, he⟩, hi, ne⟩ := st
    exact ⟨⟨old, k e (by simp) _ he⟩, hi.at fun o q => k it (by simp) o q, ne⟩
  item := by
    intro X hP hw hK hc i pins s σ H E I hf st hg
    subst hP
    subst hw
    subst hK
    obtain ⟨⟨old, he⟩, hit, ne⟩ := st
    obtain ⟨xs, x, hq, hx⟩ := hg
    obtain ⟨its, rv, p, hz⟩ := I.tuple hq
    obtain ⟨u, hu, ru⟩ := rv.get hx
    have le1 := Heap.lt_size he
    have li1 : it < s.heap.objs.size := let ⟨_, q, _⟩ := hit; Heap.lt_size q
    have nt : t ≠ it := fun z => by
      obtain ⟨o1, a1, b1, c1⟩ := p
      obtain ⟨o2, a2, b2, c2⟩ := hit
      rw [z, a2] at a1
      cases a1
      rw [b2] at b1
      exact absurd b1 (by simp)
    have net : e ≠ t := fun z => by
      obtain ⟨o1, a1, b1, c1⟩ := p
      have he : s.heap.get? e = some _ := he
      rw [z, a1] at he
      cases he
      exact absurd b1 (by simp)
    have hi : i < its.toArray.size := by
      have := (List.getElem?_eq_some_iff.mp hu).1
      simpa using this
    refine wpAny_pyNext_enum_itemC (Draws.tuple (A := X.A.in1) (I.ok.hd hc) it t nt its.toArray) he ⟨hit, p⟩ hi ne (by simp [ne, net]) fun y h' tk hP ho hs' hT hsz hk => ?_
    obtain rfl : u = y := by
      have : its.toArray[i]? = some u := by simpa using hu
      rw [this] at hP
      exact Option.some.inj hP
    refine ⟨_, rfl, wpAny_letOwnedTupleGo_enum (s := { s with heap := h', toks := tk + 1 }) ho fun h'' he' sb => ?_⟩
    have hT2 := (sb.2 s.heap.objs.size (Nat.ne_of_gt le1)).trans hT
    have new : ObjOk X.prog X.w (upd H s.heap.objs.size (.tup [.int (i : Nat), x])) h'' s.heap.objs.size (.tup [.int (i : Nat), x]) :=
      ⟨by show 2 ≤ sizeLine; decide, [.int i tk, u], .cons ⟨_, rfl⟩ (.cons ru .nil), ⟨_, hT2, rfl, _, rfl⟩⟩
    have I1 := I.turnedNew (h' := h'') (t' := tk + 1) (ch := [e, it]) (fun b ob hb q => (sb.2 b (fun z => hb (by simp [z]))).trans (hk b ob (fun z => hb (by simp [z])) (fun z => hb (by simp [z])) q)) hf (Nat.le_refl _) new
    refine ⟨.ref s.heap.objs.size, _, I1, rfl, ⟨_, x, rfl, I.hok.fresh (Nat.le_refl _), rfl, fun ys hy => by rw [I.tuple_inj hy hq]; exact hx⟩, ⟨⟨u, ?_⟩, hs'.1.at fun o q => (sb.2 it (Ne.symm ne)).trans q, ne⟩, fun b hb => ?_⟩
    · rw [show ((i + 1 : Nat) : Int) = (i : Int) + 1 by omega]
      exact he'
    · have lb : b < s.heap.objs.size := by
        rcases List.mem_cons.mp hb with rfl | hb
        · exact le1
        · rw [List.mem_singleton.mp hb]
          exact li1
      rw [upd_ne (Nat.ne_of_lt lb)]
      exact (hf b hb).1
  done := by
    intro X hP hw hK hc i pins s σ H E I hf st hg
    subst hP
    subst hw
    subst hK
    obtain ⟨⟨old, he⟩, hit, ne⟩ := st
    obtain ⟨xs, hq, hx⟩ := hg
    obtain ⟨its, rv, p, hz⟩ := I.tuple hq
    obtain ⟨f0, f1, f2, f3, f4, f5⟩ := hf it (by simp)
    have nt : t ≠ it := fun z => by
      obtain ⟨o1, a1, b1, c1⟩ := p
      obtain ⟨o2, a2, b2, c2⟩ := hit
      rw [z, a2] at a1
      cases a1
      rw [b2] at b1
      exact absurd b1 (by simp)
    subst hx
    have hl := rv.length
    exact wpAny_pyNext_enum_endD (Draws.tuple (A := X.A.in1) (I.ok.hd hc) it t nt its.toArray) he ⟨by rw [List.size_toArray, ← hl]; exact hit, p⟩ fun h' eb => ⟨rfl, I.turned (t' := s.toks) (fun b o hb q => eb b o hb q) f0 f1 f3 f4 f5⟩
  self := fun A i s Q E st h => let ⟨⟨_, he⟩, _⟩ := st; wpAny_pyIter_enum he h
def iEnumT (K : PySem.W.Frag) (ta : TE) : TI := fun σ H R => ta σ H fun x H1 => ∃ (t : Addr) (xs : List V), x = .ref t ∧ SqT K H1 t xs ∧ R (IteT K t) H1
theorem pi_enumT {X : Cx} {e : Expr} {ta : TE} {p pos tpos : Pos} {elts : List Expr} {kk : Nat} (hg : Gl X "enumerate") (hm : X.mg "enumerate" = none) (ha : PE X e ta) (hs : starEach [e] X.env = (false, eval e X.env) :: starEach [] X.env := by rfl) :
    PI X (.Tuple elts kk tpos) (.Call (.Name "enumerate" p) [e] [] pos) (iEnumT X.K ta) := by
  refine ⟨fun pins s σ H R I h => Call_ (ld_blt I hg hm boot_enumerate (callWith_type1 (args_cons (thn (ha.run pins s σ H _ I h) fun v s1 ⟨x, H1, I1, r1, q1⟩ => args_nil ?_) hs) hs rfl))⟩
  obtain ⟨t, xs, rfl, hq, q⟩ := q1
  cases r1
  obtain ⟨its, rv, tup, hz⟩ := I1.tuple hq
  refine CwEn.call_tup tup fun h' he hit hk => wpAny_pyIter_enum he ?_
  have I2 : Inv X pins σ H1 { s1 with heap := h' } := I1.kept (t' := s1.toks) hk
  refine ⟨s1.heap.objs.size + 1, [s1.heap.objs.size + 1, s1.heap.objs.size], _, _, H1, rfl, I2, turn_enumT t (s1.heap.objs.size + 1) s1.heap.objs.size, ⟨⟨.none, he⟩, hit, Nat.succ_ne_self _⟩, fun b hb => ?_, q⟩
  have hle : s1.heap.objs.size ≤ b := by
    rcases List.mem_cons.mp hb with rfl | hb
    · exact Nat.le_succ _
    · exact Nat.le_of_eq (List.mem_singleton.mp hb).symm
  exact I1.fpOk hle (I1.hok.fresh hle)
theorem walk_enumT {K : PySem.W.Frag} {t : Addr} {xs : List V} : Walk (IteT K t) xs.length (fun H => SqT K H t xs) (YPair (fun i => some (.int (i : Nat))) (fun i => xs[i]?)) := by
  refine ⟨fun i _ hi q => ⟨xs, xs[i], q, by simp [hi]⟩, fun _ q => ⟨xs, q, rfl⟩, fun i H v H' _ q y => ?_⟩
  obtain ⟨T, x, h1, h2, h3, h4⟩ := y
  exact ⟨T, .int (i : Nat), x, h1, h2, h3, rfl, h4 xs q⟩
end L2

set_option Elab.async false
set_option linter.all false
set_option maxRecDepth 100000
set_option maxHeartbeats 4000000
namespace Cw
open PySem PySem.Spec PyProof.Rows L2 LamX
/-- ClassEntry(module, told) of a class without fields -/
def spCE (K : PySem.W.Frag) (CE : Addr) : Sp := fun vs H Q _ => ∃ (a dx t tp tf : Addr) (mo wd kd : Str) (ab : Bool) (ps : List V), vs = [.ref a, .str mo, .ref t] ∧ H a = some (.ins CE dx []) ∧ NA K CE ["name", "module", "is_open", "is_abstract", "parents", "fields"] ∧
  SqT K H t [.str wd, .str kd, .bl ab, .ref tp, .ref tf] ∧ SqT K H tp ps ∧ SqT K H tf [] ∧ mo.length ≤ 1000 ∧ wd.length ≤ 1000 ∧
  ∀ H' df, Fr [a] H H' → Ins H' a CE (entryF (mo ++ "." ++ wd) mo (decide (kd = "open")) ab tp df) → Q .non H'
/-- what BASE_CLASSES is -/
def BaseT (K : PySem.W.Frag) (H : Hp) (t : Addr) : Prop := ∃ t1 t2 p1 p2 f1 f2, SqT K H t [.ref t1, .ref t2] ∧ SqT K H t1 [.str "Any", .str "open", .bl true, .ref p1, .ref f1] ∧ SqT K H p1 [] ∧ SqT K H f1 [] ∧
  SqT K H t2 [.str "Int", .str "sealed", .bl false, .ref p2, .ref f2] ∧ SqT K H p2 [.str "base.Any"] ∧ SqT K H f2 []
def spEC (K : PySem.W.Frag) (CA CE : Addr) : Sp := fun vs H Q _ => ∃ (a t : Addr) (mo : Str), vs = [.ref a, .str mo, .ref t] ∧
  ((SqT K H t [] ∧ Q .non H) ∨
   ∃ (dm dc dg dt du dp da : Addr), mo = "base" ∧ BaseT K H t ∧ Ins H a CA (atlasF dm dc dg dt du dp da) ∧ H dc = some (.dK []) ∧ H dp = some (.dK []) ∧ dc ≠ dp ∧
    ∀ H' v1 v2, Fr [dc, dp] H H' → H' dc = some (.dK [(.inr "base.Any", v1), (.inr "base.Int", v2)]) → BaseE CE H' v1 "base.Any" true true → BaseE CE H' v2 "base.Int" false false → Q .non H')
def spEG (K : PySem.W.Frag) : Sp := fun vs H Q _ => ∃ (a t : Addr) (mo : Str), vs = [.ref a, .str mo, .ref t] ∧ SqT K H t [] ∧ Q .non H
def spEM (K : PySem.W.Frag) : Sp := fun vs H Q _ => ∃ (a t : Addr) (mo : Str), vs = [.ref a, .str mo, .ref t] ∧ SqT K H t [] ∧ Q .non H
theorem dec_strs (x y : Str) : decide (V.str x = V.str y) = decide (x = y) := by
  by_cases h : x = y
  · rw [decide_eq_true h, decide_eq_true (by rw [h])]
  · rw [decide_eq_false h, decide_eq_false (fun e => h (V.str.inj e))]
theorem ins_nt' {c C dx : Addr} {fs : Fs} {H : Hp} (e : H c = some (.ins C dx fs)) : NoTup [c] H := fun b m xs k => by
  rcases List.mem_singleton.mp m with rfl
  rcases k with k | ⟨o, k⟩ <;> · rw [e] at k; cases k
/-- a field is set: the heap behind it -/
theorem fld_next {A : List Addr} {a C dx : Addr} {H H1 : Hp} {f : Str} {y : V} {fs fs' : Fs} (g : Fr A H H1) (h : putF f y fs = fs') (m : a ∈ A := by simp) : ∃ H2, upd H1 a (.ins C dx (putF f y fs)) = H2 ∧ Fr A H H2 ∧ H2 a = some (.ins C dx fs') :=
  ⟨_, rfl, g.set m, by rw [h]; exact upd_same⟩
/-- a loop over a tuple -/
theorem forT {K : PySem.W.Frag} {tl : TE} {g : TG} {tb : TS} {D : Ends} {σ : L2.St} {H : Hp} {a : Addr} {xs : List V} (e : ∀ R : V → Hp → Prop, R (.ref a) H → tl σ H R) (Pv : Nat → L2.St → Hp → Prop) (h0 : Pv 0 σ H) (hk : ∀ i σ H, Pv i σ H → SqT K H a xs)
    (hs : ∀ i x σ H, xs[i]? = some x → Pv i σ H → g x σ H fun σ2 H2 => tb { D with nx := Pv (i + 1), ct := Pv (i + 1), bk := D.nx } σ2 H2) (hd : ∀ σ H, Pv xs.length σ H → D.nx σ H) : tFor (iTup K tl) g tb D σ H :=
  e _ ⟨a, rfl, ⟨_, hk 0 _ _ h0⟩, for_it walk_tup Pv h0 (fun i σ H _ p => hk i σ H p) (fun i x σ H H' _ p y => by
    obtain ⟨rfl, hx⟩ := y
    exact hs i x σ _ hx p) hd⟩
theorem forT0 {K : PySem.W.Frag} {tl : TE} {g : TG} {tb : TS} {D : Ends} {σ : L2.St} {H : Hp} {a : Addr} (e : ∀ R : V → Hp → Prop, R (.ref a) H → tl σ H R) (h : SqT K H a []) (q : D.nx σ H) : tFor (iTup K tl) g tb D σ H :=
  forT (xs := []) e (fun _ σ' H' => σ' = σ ∧ H' = H) ⟨rfl, rfl⟩ (fun i σ' H' ⟨_, e⟩ => by rw [e]; exact h) (fun i x σ' H' hx => by simp at hx) (fun σ' H' ⟨e1, e2⟩ => by rw [e1, e2]; exact q)
/-- a loop over an enumerated empty tuple -/
theorem forE0 {K : PySem.W.Frag} {tl : TE} {g : TG} {tb : TS} {D : Ends} {σ : L2.St} {H : Hp} {a : Addr} (e : ∀ R : V → Hp → Prop, R (.ref a) H → tl σ H R) (h : SqT K H a []) (q : D.nx σ H) : tFor (iEnumT K tl) g tb D σ H :=
  e _ ⟨a, [], rfl, h, for_it (walk_enumT (xs := [])) (fun _ σ' H' => σ' = σ ∧ H' = H) ⟨rfl, rfl⟩ (fun i σ' H' _ ⟨_, e⟩ => by rw [e]; exact h) (fun i x σ' H' H2 hi => absurd hi (Nat.not_lt_zero i)) (fun σ' H' ⟨e1, e2⟩ => by rw [e1, e2]; exact q)⟩
theorem pss_dead {X : Cx} {sts : List Stmt} : PSs X sts (fun _ _ _ => False) := ⟨fun _ _ _ _ _ _ h => h.elim⟩
section
variable {P : Program} {w : World} {K : PySem.W.Frag} {mg : Str → Option Value} {base : Heap} {CE CA : Addr}
abbrev s_ClassEntry_init : Stmt := inClass (topS 5) 0
theorem sc_ClassEntry_init : FnScope ["self", "module", "told", "word", "kind", "abstract", "parents", "fields", "field", "class_name"] ["self", "module", "told"] (defScope s_ClassEntry_init) := ⟨rfl, rfl, rfl, by decide +kernel, rfl, by decide +kernel, by decide +kernel⟩
theorem ok_ClassEntry_init {f : Addr} {fd : FuncData} (F : Fun K "__init__" "ClassEntry.__init__" s_ClassEntry_init f fd) (m_tuple : mg "tuple" = none) (cl : Cls K CE) : FnOk P w K mg base CX0 1 f fd ["self", "module", "told"] (spCE K CE) := by
  refine F.ok sc_ClassEntry_init (fun vs H Q E h => ?_) (fun cdv A outer s H vs Q E hr h => ?_)
  · obtain ⟨_, _, _, _, _, _, _, _, _, _, rfl, _⟩ := h
    rfl
  · obtain ⟨a, dx, t, tp, tf, mo, wd, kd, ab, ps, rfl, ha, na, ht, hp, hf, l1, l2, q⟩ := h
    have n1 := na "name" (by simp)
    have n2 := na "module" (by simp)
    have n3 := na "is_open" (by simp)
    have n4 := na "is_abstract" (by simp)
    have n5 := na "parents" (by simp)
    have n6 := na "fields" (by simp)
    have cl : Cls K CE := cl
    refine ⟨_, (pss_cons (ps_asg (pv 2) (pg_tup (n := 5) (by rfl) (pgs_cons (pg_name (i := 3) sc_ClassEntry_init.nd rfl (.inl rfl)) (pgs_cons (pg_name (i := 4) sc_ClassEntry_init.nd rfl (.inl rfl)) (pgs_cons (pg_name (i := 5) sc_ClassEntry_init.nd rfl (.inl rfl)) (pgs_cons (pg_name (i := 6) sc_ClassEntry_init.nd rfl (.inl rfl)) (pgs_cons (pg_name (i := 7) sc_ClassEntry_init.nd rfl (.inl rfl)) pgs_nil)))))))
  (pss_cons (ps_fld (pv 0) (pe_op op_add_str (pe_op op_add_str (pv 1) pe_str) (pv 3)) rfl)
  (pss_cons (ps_fld (pv 0) (pv 1) rfl)
  (pss_cons (ps_fld (pv 0) (pe_cmpR op_eq (pv 4) pe_str (nomark _)) rfl)
  (pss_cons (ps_fld (pv 0) (pv 5) rfl)
  (pss_cons (ps_fld (pv 0) (pe_callTy call_tuple_of (by rfl) m_tuple (by decide +kernel) (pa_cons (pv 6) pa_nil)) rfl)
  (pss_cons (ps_fld (pv 0) pe_dnewK rfl)
  (pss_one (ps_for PassesOwn.never rfl (pi_tup (pv 7)) (pg_tup (n := 2) (by rfl) (pgs_cons (pg_name (i := 8) sc_ClassEntry_init.nd rfl (.inl rfl)) (pgs_cons (pg_name (i := 9) sc_ClassEntry_init.nd rfl (.inl rfl)) pgs_nil))) pss_dead))))))))), ?_⟩
    refine seqA (asgA ⟨_, rfl, t, _, rfl, ht, rfl, _, _, rfl, nameA ⟨_, _, rfl, nameA ⟨_, _, rfl, nameA ⟨_, _, rfl, nameA ⟨_, _, rfl, nameA ⟨rfl, ?_⟩⟩⟩⟩⟩⟩)
    dsimp only
    have z1 : mo.length + (("." : Str)).length ≤ sizeLine := Nat.le_trans (by show mo.length + 1 ≤ 1001; omega) (by decide)
    have z2 : (mo ++ ("." : Str)).length + wd.length ≤ sizeLine := by
      rw [show (mo ++ ("." : Str)).length = mo.length + 1 from len_app _ _]
      exact Nat.le_trans (by omega : mo.length + 1 + wd.length ≤ 2001) (by decide)
    refine seqA ⟨_, rfl, _, _, rfl, rfl, z1, _, rfl, _, _, rfl, rfl, z2, _, rfl, a, CE, dx, _, rfl, ha, cl, n1, Nat.le_of_ble_eq_true rfl, ?_⟩
    dsimp only
    obtain ⟨H1, eH1, g1, e1⟩ := fld_next (a := a) (Fr.refl (A := [a]) H) (C := CE) (dx := dx) (fs' := [("name", .str (mo ++ "." ++ wd))]) (f := "name") (y := .str (mo ++ "." ++ wd)) (fs := []) rfl
    rw [eH1]
    refine seqA ⟨_, rfl, _, rfl, a, CE, dx, _, rfl, e1, cl, n2, Nat.le_of_ble_eq_true rfl, ?_⟩
    dsimp only
    obtain ⟨H2, eH2, g2, e2⟩ := fld_next (a := a) g1 (C := CE) (dx := dx) (fs' := [("name", .str (mo ++ "." ++ wd)), ("module", .str mo)]) (f := "module") (y := .str mo) (fs := [("name", .str (mo ++ "." ++ wd))]) rfl
    rw [eH2]
    refine seqA ⟨_, rfl, rfl, _, rfl, a, CE, dx, _, rfl, e2, cl, n3, Nat.le_of_ble_eq_true rfl, ?_⟩
    dsimp only
    rw [dec_strs]
    obtain ⟨H3, eH3, g3, e3⟩ := fld_next (a := a) g2 (C := CE) (dx := dx) (fs' := [("name", .str (mo ++ "." ++ wd)), ("module", .str mo), ("is_open", .bl (decide (kd = "open")))]) (f := "is_open") (y := .bl (decide (kd = "open"))) (fs := [("name", .str (mo ++ "." ++ wd)), ("module", .str mo)]) rfl
    rw [eH3]
    refine seqA ⟨_, rfl, _, rfl, a, CE, dx, _, rfl, e3, cl, n4, Nat.le_of_ble_eq_true rfl, ?_⟩
    dsimp only
    obtain ⟨H4, eH4, g4, e4⟩ := fld_next (a := a) g3 (C := CE) (dx := dx) (fs' := [("name", .str (mo ++ "." ++ wd)), ("module", .str mo), ("is_open", .bl (decide (kd = "open"))), ("is_abstract", .bl ab)]) (f := "is_abstract") (y := .bl ab) (fs := [("name", .str (mo ++ "." ++ wd)), ("module", .str mo), ("is_open", .bl (decide (kd = "open")))]) rfl
    rw [eH4]
    refine seqA ⟨_, rfl, tp, ps, rfl, .inr ⟨sqt_fr g4 (ins_nt' ha) hp, _, rfl, a, CE, dx, _, rfl, e4, cl, n5, Nat.le_of_ble_eq_true rfl, ?_⟩⟩
    dsimp only
    obtain ⟨H5, eH5, g5, e5⟩ := fld_next (a := a) g4 (C := CE) (dx := dx) (fs' := [("name", .str (mo ++ "." ++ wd)), ("module", .str mo), ("is_open", .bl (decide (kd = "open"))), ("is_abstract", .bl ab), ("parents", .ref tp)]) (f := "parents") (y := .ref tp) (fs := [("name", .str (mo ++ "." ++ wd)), ("module", .str mo), ("is_open", .bl (decide (kd = "open"))), ("is_abstract", .bl ab)]) rfl
    rw [eH5]
    refine seqA fun df nf => ⟨_, rfl, a, CE, dx, _, rfl, by rw [upd_ne (ne_of_none e5 nf)]; exact e5, cl, n6, Nat.le_of_ble_eq_true rfl, ?_⟩
    dsimp only
    have nf0 : H df = none := by
      cases e : H df with
      | none => rfl
      | some o =>
        by_cases m : df = a
        · rw [m, e5] at nf; cases nf
        · rw [g5 _ _ (fun k => m (List.mem_singleton.mp k)) e] at nf; cases nf
    have g6 : Fr [a] H (upd H5 df (.dK [])) := g5.upd nf0
    obtain ⟨H6, eH6, g7, e6⟩ := fld_next (a := a) g6 (C := CE) (dx := dx) (fs' := entryF (mo ++ "." ++ wd) mo (decide (kd = "open")) ab tp df) (f := "fields") (y := .ref df) (fs := [("name", .str (mo ++ "." ++ wd)), ("module", .str mo), ("is_open", .bl (decide (kd = "open"))), ("is_abstract", .bl ab), ("parents", .ref tp)]) rfl
    rw [eH6]
    exact forT0 (a := tf) (fun R r => ⟨_, rfl, r⟩) (sqt_fr g7 (ins_nt' ha) hf) (q H6 df g7 ⟨dx, e6⟩)
abbrev s_Atlas_enter_generics : Stmt := inClass (topS 8) 2
theorem sc_Atlas_enter_generics : FnScope ["self", "module", "generics", "told", "entry"] ["self", "module", "generics"] (defScope s_Atlas_enter_generics) := ⟨rfl, rfl, rfl, by decide +kernel, rfl, by decide +kernel, by decide +kernel⟩
theorem ok_Atlas_enter_generics {f : Addr} {fd : FuncData} (F : Fun K "enter_generics" "Atlas.enter_generics" s_Atlas_enter_generics f fd) : FnOk P w K mg base CX0 1 f fd ["self", "module", "generics"] (spEG K) := by
  refine F.ok sc_Atlas_enter_generics (fun vs H Q E h => ?_) (fun cdv A outer s H vs Q E hr h => ?_)
  · obtain ⟨_, _, _, rfl, _⟩ := h
    rfl
  · obtain ⟨a, t, mo, rfl, ht, q⟩ := h
    refine ⟨_, (pss_one (ps_for PassesOwn.never rfl (pi_tup (pv 2)) (pg_name (i := 3) sc_Atlas_enter_generics.nd rfl (.inl rfl)) pss_dead)), ?_⟩
    exact forT0 (a := t) (fun R r => ⟨_, rfl, r⟩) ht q
abbrev s_Atlas_enter_methods : Stmt := inClass (topS 8) 3
theorem sc_Atlas_enter_methods : FnScope ["self", "module", "methods", "number", "told", "entry"] ["self", "module", "methods"] (defScope s_Atlas_enter_methods) := ⟨rfl, rfl, rfl, by decide +kernel, rfl, by decide +kernel, by decide +kernel⟩
theorem ok_Atlas_enter_methods {f : Addr} {fd : FuncData} (F : Fun K "enter_methods" "Atlas.enter_methods" s_Atlas_enter_methods f fd) (m_enumerate : mg "enumerate" = none) : FnOk P w K mg base CX0 1 f fd ["self", "module", "methods"] (spEM K) := by
  refine F.ok sc_Atlas_enter_methods (fun vs H Q E h => ?_) (fun cdv A outer s H vs Q E hr h => ?_)
  · obtain ⟨_, _, _, rfl, _⟩ := h
    rfl
  · obtain ⟨a, t, mo, rfl, ht, q⟩ := h
    refine ⟨_, (pss_one (ps_for PassesOwn.never rfl (pi_enumT rfl m_enumerate (pv 2)) (pg_tup (n := 2) (by rfl) (pgs_cons (pg_name (i := 3) sc_Atlas_enter_methods.nd rfl (.inl rfl)) (pgs_cons (pg_name (i := 4) sc_Atlas_enter_methods.nd rfl (.inl rfl)) pgs_nil))) pss_dead)), ?_⟩
    exact forE0 (a := t) (fun R r => ⟨_, rfl, r⟩) ht q
abbrev s_Atlas_enter_classes : Stmt := inClass (topS 8) 1
theorem sc_Atlas_enter_classes : FnScope ["self", "module", "classes", "told", "entry"] ["self", "module", "classes"] (defScope s_Atlas_enter_classes) := ⟨rfl, rfl, rfl, by decide +kernel, rfl, by decide +kernel, by decide +kernel⟩
theorem ok_Atlas_enter_classes {f : Addr} {fd : FuncData} (F : Fun K "enter_classes" "Atlas.enter_classes" s_Atlas_enter_classes f fd) {f_ClassEntry_init : Addr} {d_ClassEntry_init : FuncData} (K_ClassEntry : CI K mg "ClassEntry" ["self", "module", "told"] CE f_ClassEntry_init d_ClassEntry_init) (G_ClassEntry_init : FnOk P w K mg base CX0 1 f_ClassEntry_init d_ClassEntry_init ["self", "module", "told"] (spCE K CE)) (clE : Cls K CE) (nCE : NA K CE ["name", "module", "is_open", "is_abstract", "parents", "fields"]) (clA : Cls K CA) (nCA : NA K CA ["modules", "classes", "generics", "methods", "_uses", "_parents", "_aboves"]) : FnOk P w K mg base CX0 3 f fd ["self", "module", "classes"] (spEC K CA CE) := by
  refine F.ok sc_Atlas_enter_classes (fun vs H Q E h => ?_) (fun cdv A outer s H vs Q E hr h => ?_)
  · obtain ⟨_, _, _, rfl, _⟩ := h
    rfl
  · obtain ⟨a, t, mo, rfl, h⟩ := h
    refine ⟨_, (pss_one (ps_for PassesOwn.never rfl (pi_tup (pv 2)) (pg_name (i := 3) sc_Atlas_enter_classes.nd rfl (.inl rfl)) (pss_cons (ps_set (i := 4) sc_Atlas_enter_classes.nd rfl (.inl rfl) (pe_make K_ClassEntry.m G_ClassEntry_init (hr.mono (by decide)) rfl K_ClassEntry.g K_ClassEntry.b .nil pass0 (pa_cons (pv 1) (pa_cons (pv 3) pa_nil))))
  (pss_one (ps_if (pt_cmp (pc_dnotin (hu_of hr) (pe_fld (pv 4) rfl) (pe_fld (pv 0) rfl))) (pss_cons (ps_dput (hu_of hr) (pe_fld (pv 0) rfl) (pe_fld (pv 4) rfl) (pv 4) rfl)
  (pss_one (ps_dput (hu_of hr) (pe_fld (pv 0) rfl) (pe_fld (pv 4) rfl) (pe_fld (pv 4) rfl) rfl))) pss_nil))))), ?_⟩
    rcases h with ⟨ht, q⟩ | ⟨dm, dc, dg, dt, du, dp, da, rfl, ⟨t1, t2, p1, p2, f1, f2, ht, ht1, hp1, hf1, ht2, hp2, hf2⟩, ⟨dxa, ha⟩, hc, hp, ne, q⟩
    · exact forT0 (a := t) (fun R r => ⟨_, rfl, r⟩) ht q
    · have nt : NoTup [dc, dp] H := fun b m xs k => by
        have m : b = dc ∨ b = dp := by simpa using m
        rcases m with rfl | rfl
        · rcases k with k | ⟨o, k⟩ <;> · rw [hc] at k; cases k
        · rcases k with k | ⟨o, k⟩ <;> · rw [hp] at k; cases k
      have na : a ∉ [dc, dp] := fun m => by
        have m : a = dc ∨ a = dp := by simpa using m
        rcases m with e | e
        · rw [e, hc] at ha; cases ha
        · rw [e, hp] at ha; cases ha
      refine forT (a := t) (xs := [.ref t1, .ref t2]) (fun R r => ⟨_, rfl, r⟩) (fun i σ H' => (∃ c3 c4, σ = [some (.ref a), some (.str "base"), some (.ref t), c3, c4]) ∧ Fr [dc, dp] H H' ∧ ∃ v1 v2, H' dc = some (.dK (([(.inr "base.Any", v1), (.inr "base.Int", v2)] : List (Key × V)).take i)) ∧
        (1 ≤ i → BaseE CE H' v1 "base.Any" true true) ∧ (2 ≤ i → BaseE CE H' v2 "base.Int" false false) ∧ ∃ kv, H' dp = some (.dK kv) ∧ kv.length ≤ i) ⟨⟨none, none, rfl⟩, Fr.refl H, .non, .non, hc, fun h => absurd h (by omega), fun h => absurd h (by omega), [], hp, Nat.le_refl _⟩
        (fun i σ H' ⟨_, f, _⟩ => sqt_fr f nt ht) ?_ ?_
      rotate_left
      · rintro σ H' ⟨_, f, v1, v2, h1, h2, h3, _⟩
        exact q H' v1 v2 f h1 (h2 (Nat.le_of_ble_eq_true rfl)) (h3 (Nat.le_of_ble_eq_true rfl))
      rintro i x σ H' hx ⟨⟨c3, c4, rfl⟩, f, v1, v2, h1, h2, h3, kv, h4, h5⟩
      obtain ⟨ti, pi, fi, ps, wd, kd, nm, ab, op, rfl, hi, e1, e2, hti, hpi, hfi, hl, hno, fin⟩ : ∃ (ti pi fi : Addr) (ps : List V) (wd kd nm : Str) (ab op : Bool), x = .ref ti ∧ i < 2 ∧ ("base" : Str) ++ "." ++ wd = nm ∧ decide (kd = "open") = op ∧ SqT K H ti [.str wd, .str kd, .bl ab, .ref pi, .ref fi] ∧ SqT K H pi ps ∧ SqT K H fi [] ∧ wd.length ≤ 1000 ∧
          valV (([(.inr "base.Any", v1), (.inr "base.Int", v2)] : List (Key × V)).take i) (.inr nm) = none ∧ ∀ (H2 : Hp) (v : V), Same H' H2 ∨ Fr [dc, dp] H' H2 → H2 dc = some (.dK (([(.inr "base.Any", v1), (.inr "base.Int", v2)] : List (Key × V)).take i ++ [(.inr nm, v)])) → BaseE CE H2 v nm op ab →
            ∃ v1 v2, H2 dc = some (.dK (([(.inr "base.Any", v1), (.inr "base.Int", v2)] : List (Key × V)).take (i + 1))) ∧ (1 ≤ i + 1 → BaseE CE H2 v1 "base.Any" true true) ∧ (2 ≤ i + 1 → BaseE CE H2 v2 "base.Int" false false) := by
        match i, hx with
        | 0, hx =>
          rw [List.getElem?_cons_zero] at hx
          cases hx
          refine ⟨t1, p1, f1, _, "Any", "open", "base.Any", true, true, rfl, by omega, by decide +kernel, by decide +kernel, ht1, hp1, hf1, by decide +kernel, rfl, fun H2 v _ h b => ⟨v, .non, h, fun _ => b, fun h => absurd h (by omega)⟩⟩
        | 1, hx =>
          have hx : x = .ref t2 := by simpa using hx.symm
          subst hx
          refine ⟨t2, p2, f2, _, "Int", "sealed", "base.Int", false, false, rfl, by omega, by decide +kernel, by decide +kernel, ht2, hp2, hf2, by decide +kernel, by kernel_rfl, fun H2 v s h b => ⟨v1, v, h, fun _ => ?_, fun _ => b⟩⟩
          obtain ⟨c, tp, df, rfl, ⟨dx, e⟩⟩ := h2 (by omega)
          rcases s with s | s
          · exact ⟨c, tp, df, rfl, dx, s _ _ e⟩
          · refine ⟨c, tp, df, rfl, dx, s _ _ (fun m => ?_) e⟩
            have m : c = dc ∨ c = dp := by simpa using m
            rcases m with m | m
            · rw [m, h1] at e; cases e
            · rw [m, h4] at e; cases e
        | i + 2, hx => simp at hx
      refine nameA ?_
      dsimp only
      refine seqA (asgA ⟨_, rfl, _, rfl, fun c dx nc ndx nxc => ⟨c, dx, ti, pi, fi, "base", wd, kd, ab, ps, rfl, upd_same, nCE, ?_⟩⟩)
      have sm : Same H' (mkH H' c dx CE) := mk_same nc ndx
      refine ⟨sqt_keep sm (sqt_fr f nt hti), sqt_keep sm (sqt_fr f nt hpi), sqt_keep sm (sqt_fr f nt hfi), by decide +kernel, hl, fun H2 df g ⟨dx2, e3⟩ => ⟨rfl, nameA ?_⟩⟩
      dsimp only
      rw [e1, e2] at e3
      have s2 : Same H' H2 := made_same nc ndx g
      have ha2 := s2 _ _ (f _ _ na ha)
      have hdc2 := s2 _ _ h1
      have hdp2 := s2 _ _ h4
      have tl : (([(.inr "base.Any", v1), (.inr "base.Int", v2)] : List (Key × V)).take i).length ≤ 2 := by rw [List.length_take]; exact Nat.le_trans (Nat.min_le_right _ _) (Nat.le_refl _)
      refine ifA ⟨_, rfl, c, CE, dx2, _, _, rfl, e3, clE, nCE _ (by simp), rfl, _, rfl, a, CA, dxa, _, _, rfl, ha2, clA, nCA _ (by simp), rfl, dc, _, rfl, DGet.k (k := .inr nm) hdc2, _, rfl, ?_⟩
      rw [hno]
      refine iteT' rfl (seqA ⟨_, rfl, _, rfl, a, CA, dxa, _, _, rfl, ha2, clA, nCA _ (by simp), rfl, _, rfl, c, CE, dx2, _, _, rfl, e3, clE, nCE _ (by simp), rfl, dc, _, rfl, DPut.k (k := .inr nm) hdc2 (Nat.lt_of_le_of_lt tl (by decide)), ?_⟩)
      dsimp only
      rw [putK_new _ hno]
      have cd : c ≠ dc := fun e => by rw [e, hdc2] at e3; cases e3
      have cp : c ≠ dp := fun e => by rw [e, hdp2] at e3; cases e3
      have ad : a ≠ dc := fun e => na (by simp [e])
      have ap : a ≠ dp := fun e => na (by simp [e])
      have e4 : upd H2 dc (.dK (([(.inr "base.Any", v1), (.inr "base.Int", v2)] : List (Key × V)).take i ++ [(.inr nm, .ref c)])) c = _ := (upd_ne cd).trans e3
      have e5 : upd H2 dc (.dK (([(.inr "base.Any", v1), (.inr "base.Int", v2)] : List (Key × V)).take i ++ [(.inr nm, .ref c)])) a = _ := (upd_ne ad).trans ha2
      have e6 : upd H2 dc (.dK (([(.inr "base.Any", v1), (.inr "base.Int", v2)] : List (Key × V)).take i ++ [(.inr nm, .ref c)])) dp = _ := (upd_ne (Ne.symm ne)).trans hdp2
      refine ⟨_, rfl, c, CE, dx2, _, _, rfl, e4, clE, nCE _ (by simp), rfl, _, rfl, a, CA, dxa, _, _, rfl, e5, clA, nCA _ (by simp), rfl, _, rfl, c, CE, dx2, _, _, rfl, e4, clE, nCE _ (by simp), rfl, dp, _, rfl, DPut.k (k := .inr nm) e6 (Nat.lt_of_le_of_lt (by omega : kv.length ≤ 2) (by decide)), ?_⟩
      have fr : Fr [dc, dp] H' (upd (upd H2 dc (.dK (([(.inr "base.Any", v1), (.inr "base.Int", v2)] : List (Key × V)).take i ++ [(.inr nm, .ref c)]))) dp (.dK (putK kv (.inr nm) (.ref pi)))) := ((Fr.of s2).set (by simp)).set (by simp)
      obtain ⟨w1, w2, g1, g2, g3⟩ := fin _ (.ref c) (.inr fr) (by rw [upd_ne ne]; exact upd_same) ⟨c, pi, df, rfl, dx2, by rw [upd_ne cp]; exact e4⟩
      refine ⟨⟨_, _, rfl⟩, f.trans fr, w1, w2, g1, g2, g3, _, upd_same, ?_⟩
      unfold putK
      split
      · rw [List.length_map]; omega
      · rw [List.length_append]; show kv.length + 1 ≤ i + 1; omega
end
end Cw

set_option Elab.async false
set_option linter.all false
set_option maxRecDepth 100000
set_option maxHeartbeats 4000000
namespace Cw
open PySem PySem.Spec PyProof.Rows L2 LamX
/-- an atlas in H whose dicts did not stand in H0 -/
def AtlasF (K : PySem.W.Frag) (CA CE : Addr) (H0 H : Hp) (a : Addr) (ms : List Mo) : Prop :=
  ∃ dm dc dg dt du dp da kvs uvs v1 v2 ms', Ins H a CA (atlasF dm dc dg dt du dp da) ∧ ms'.Perm ms ∧ H dm = some (.dK kvs) ∧ KD (ModV K H) kvs ms' ∧ H du = some (.dK uvs) ∧ KD (UsR K H) uvs ms' ∧
    H dc = some (.dK [(.inr "base.Any", v1), (.inr "base.Int", v2)]) ∧ BaseE CE H v1 "base.Any" true true ∧ BaseE CE H v2 "base.Int" false false ∧ H dg = some (.dK []) ∧ ∀ x, (x = dm ∨ x = dc ∨ x = dg ∨ x = du) → ∀ o, (∀ ps, o ≠ .tbl ps) → H0 x ≠ some o
theorem AtlasF.to {K : PySem.W.Frag} {CA CE : Addr} {H0 H : Hp} {a : Addr} {ms : List Mo} (h : AtlasF K CA CE H0 H a ms) : AtlasAt K CA CE H a ms := by
  obtain ⟨dm, dc, dg, dt, du, dp, da, kvs, uvs, v1, v2, ms', h1, h2, h3, h4, h5, h6, h7, h8, h9, h10, _⟩ := h
  exact ⟨dm, dc, dg, dt, du, dp, da, kvs, uvs, v1, v2, ms', h1, h2, h3, h4, h5, h6, h7, h8, h9, h10⟩
theorem AtlasF.ext {K : PySem.W.Frag} {CA CE : Addr} {H0 H H' : Hp} (e : ExtN H H') {a : Addr} {ms : List Mo} (h : AtlasF K CA CE H0 H a ms) : AtlasF K CA CE H0 H' a ms := by
  obtain ⟨dm, dc, dg, dt, du, dp, da, kvs, uvs, v1, v2, ms', h1, h2, h3, h4, h5, h6, h7, ⟨c1, p1, f1, b1, b2⟩, ⟨c2, p2, f2, b3, b4⟩, h10, h11⟩ := h
  have k : ∀ b kv, H b = some (.dK kv) → H' b = some (.dK kv) := fun b kv g => e _ _ g (fun _ z => by cases z)
  exact ⟨dm, dc, dg, dt, du, dp, da, kvs, uvs, v1, v2, ms', ins_ext e h1, h2, k _ _ h3, h4.mono fun _ _ => modV_ext e, k _ _ h5, h6.mono fun _ _ => usR_ext e _ _, k _ _ h7, ⟨c1, p1, f1, b1, ins_ext e b2⟩, ⟨c2, p2, f2, b3, ins_ext e b4⟩, k _ _ h10, h11⟩
/-- a dict that stood in H0 may change -/
theorem AtlasF.set {K : PySem.W.Frag} {CA CE d : Addr} {H0 H : Hp} {kv0 kv kv2 : List (Key × V)} {a : Addr} {ms : List Mo} (h : AtlasF K CA CE H0 H a ms) (h0 : H0 d = some (.dK kv0)) (hd : H d = some (.dK kv)) : AtlasAt K CA CE (L2.upd H d (.dK kv2)) a ms := by
  obtain ⟨dm, dc, dg, dt, du, dp, da, kvs, uvs, v1, v2, ms', ⟨dx, h1⟩, h2, h3, h4, h5, h6, h7, ⟨c1, p1, f1, b1, x1, b2⟩, ⟨c2, p2, f2, b3, x2, b4⟩, h10, h11⟩ := h
  have nt : NoTup [d] H := fun b m xs k => by
    rcases List.mem_singleton.mp m with rfl
    rcases k with k | ⟨o, k⟩ <;> · rw [hd] at k; cases k
  have f : Fr [d] H (L2.upd H d (.dK kv2)) := (Fr.refl H).set (by simp)
  have ne : ∀ {b : Addr} {o : HO}, H b = some o → (∀ kv, o ≠ .dK kv) → L2.upd H d (.dK kv2) b = some o := fun {b o} e k => by
    rw [upd_ne (fun z => by rw [z, hd] at e; exact k _ (Option.some.inj e).symm)]
    exact e
  have nd : ∀ {x : Addr}, (x = dm ∨ x = dc ∨ x = dg ∨ x = du) → x ≠ d := fun {x} hx z => h11 x hx (.dK kv0) (fun ps q => by cases q) (by rw [z]; exact h0)
  have kd : ∀ {x : Addr} {o : HO}, (x = dm ∨ x = dc ∨ x = dg ∨ x = du) → H x = some o → L2.upd H d (.dK kv2) x = some o := fun hx e => by rw [upd_ne (nd hx)]; exact e
  exact ⟨dm, dc, dg, dt, du, dp, da, kvs, uvs, v1, v2, ms', ⟨dx, ne h1 (fun _ z => by cases z)⟩, h2, kd (.inl rfl) h3, h4.mono fun _ _ => modV_fr (FrN.of f) nt, kd (.inr (.inr (.inr rfl))) h5, h6.mono fun _ _ ⟨tu, z1, z2⟩ => ⟨tu, z1, sqt_fr f nt z2⟩, kd (.inr (.inl rfl)) h7,
    ⟨c1, p1, f1, b1, x1, ne b2 (fun _ z => by cases z)⟩, ⟨c2, p2, f2, b3, x2, ne b4 (fun _ z => by cases z)⟩, kd (.inr (.inr (.inl rfl))) h10⟩
/-- the name of the lambda in Atlas.__init__ -/
def qLam : Str := "Atlas.__init__.<locals>.<lambda>"
def spAI (K : PySem.W.Frag) (CA CE : Addr) (T : List (Addr × Str)) : Sp := fun vs H Q _ => ∃ (a dx l : Addr) (xs : List V) (ms : List Mo), vs = [.ref a, .ref l] ∧ H a = some (.ins CA dx []) ∧ SqL K H l xs ∧ VD (ModV K H) xs ms ∧ (names ms).Nodup ∧ ms.length ≤ 1000 ∧ Tabs T H ∧
  ∀ H', FrN [a] H H' → Tabs T H' → AtlasF K CA CE H H' a ms → Q .non H'
theorem ix_tupK {X : Cx} (K : PySem.W.Frag) (h : X.K = K) : IxR X (rIxT K) := by
  subst h
  exact ix_tup
theorem tabs_fr {T : List (Addr × Str)} {H H' : Hp} {a : Addr} {x : HO} (t : Tabs T H) (f : Fr [a] H H') (e : H a = some x) (n1 : ∀ ps, x ≠ .tbl ps) (n2 : ∀ φ, x ≠ .ext φ) : Tabs T H' := by
  have k : ∀ b y, H b = some y → ((∃ ps, y = .tbl ps) ∨ ∃ φ, y = .ext φ) → H' b = some y := fun b y e2 h => f b y (fun m => by
    rw [List.mem_singleton.mp m, e] at e2
    have e2 := Option.some.inj e2
    subst e2
    rcases h with ⟨ps, e⟩ | ⟨φ, e⟩
    · exact n1 ps e
    · exact n2 φ e) e2
  intro q hq
  obtain ⟨ps, h1, h2, h3⟩ := t q hq
  refine ⟨ps, k _ _ h1 (.inl ⟨_, rfl⟩), h2, fun pos cv hc => ?_⟩
  obtain ⟨c, e1, e2⟩ := h3 pos cv hc
  exact ⟨c, e1, k _ _ e2 (.inr ⟨_, rfl⟩)⟩
theorem tabs_frA {T : List (Addr × Str)} {H H' : Hp} {A : List Addr} (t : Tabs T H) (f : Fr A H H') (e : ∀ a, a ∈ A → ∃ x, H a = some x ∧ (∀ ps, x ≠ .tbl ps) ∧ ∀ φ, x ≠ .ext φ) : Tabs T H' := by
  have k : ∀ b y, H b = some y → ((∃ ps, y = .tbl ps) ∨ ∃ φ, y = .ext φ) → H' b = some y := fun b y e2 h => f b y (fun m => by
    obtain ⟨x, g1, g2, g3⟩ := e b m
    rw [g1] at e2
    have e2 := Option.some.inj e2
    subst e2
    rcases h with ⟨ps, e⟩ | ⟨φ, e⟩
    · exact g2 ps e
    · exact g3 φ e) e2
  intro q hq
  obtain ⟨ps, h1, h2, h3⟩ := t q hq
  refine ⟨ps, k _ _ h1 (.inl ⟨_, rfl⟩), h2, fun pos cv hc => ?_⟩
  obtain ⟨c, e1, e2⟩ := h3 pos cv hc
  exact ⟨c, e1, k _ _ e2 (.inr ⟨_, rfl⟩)⟩
theorem free_fr {a d C dx : Addr} {fs : Fs} {Hb H1 : Hp} (gb : Fr [a] Hb H1) (e : H1 a = some (.ins C dx fs)) (nd : H1 d = none) : Hb d = none := by
  cases q : Hb d with
  | none => rfl
  | some o =>
    by_cases m : d = a
    · rw [m, e] at nd; cases nd
    · rw [gb _ _ (fun k => m (List.mem_singleton.mp k)) q] at nd; cases nd
/-- a field is set to a new dict -/
theorem fld_dict {a d C dx : Addr} {Hb H1 : Hp} {f : Str} {fs fs' : Fs} (gb : Fr [a] Hb H1) (e : H1 a = some (.ins C dx fs)) (nd : H1 d = none) (h : putF f (.ref d) fs = fs') :
    ∃ H2, upd (upd H1 d (.dK [])) a (.ins C dx (putF f (.ref d) fs)) = H2 ∧ Fr [a] Hb H2 ∧ H2 a = some (.ins C dx fs') ∧ H2 d = some (.dK []) ∧ Fr [a] H1 H2 ∧ d ≠ a := by
  have ne : d ≠ a := fun z => by rw [z, e] at nd; cases nd
  exact ⟨_, rfl, (gb.upd (free_fr gb e nd)).set (by simp), by rw [h]; exact upd_same, by rw [upd_ne ne]; exact upd_same, ((Fr.refl H1).upd nd).set (by simp), ne⟩
theorem take_no {ms : List Mo} {i : Nat} {m : Mo} (nd : (names ms).Nodup) (h : ms[i]? = some m) : m.1 ∉ names (ms.take i) := by
  have e : (ms.take (i + 1)) = ms.take i ++ [m] := by rw [List.take_add_one, h]; rfl
  have n2 : (names (ms.take i ++ [m])).Nodup := by
    rw [← e]
    exact ((List.take_sublist _ _).map _).nodup nd
  rw [names, List.map_append] at n2
  exact fun k => (List.nodup_append.mp n2).2.2 _ k _ (by simp) rfl
/-- all of the atlas but its modules -/
def CoreAt (K : PySem.W.Frag) (CA CE : Addr) (H : Hp) (a dm dc dg dt du dp da : Addr) (v1 v2 : V) (ms : List Mo) : Prop :=
  Ins H a CA (atlasF dm dc dg dt du dp da) ∧ (∃ uvs, H du = some (.dK uvs) ∧ KD (UsR K H) uvs ms) ∧ H dc = some (.dK [(.inr "base.Any", v1), (.inr "base.Int", v2)]) ∧ BaseE CE H v1 "base.Any" true true ∧ BaseE CE H v2 "base.Int" false false ∧ H dg = some (.dK [])
theorem baseE_ext {CE : Addr} {H H' : Hp} {v : V} {nm : Str} {op ab : Bool} (e : ExtN H H') (h : BaseE CE H v nm op ab) : BaseE CE H' v nm op ab := let ⟨c, tp, df, h1, h2⟩ := h; ⟨c, tp, df, h1, ins_ext e h2⟩
theorem core_ext {K : PySem.W.Frag} {CA CE : Addr} {H H' : Hp} {a dm dc dg dt du dp da : Addr} {v1 v2 : V} {ms : List Mo} (e : ExtN H H') (h : CoreAt K CA CE H a dm dc dg dt du dp da v1 v2 ms) : CoreAt K CA CE H' a dm dc dg dt du dp da v1 v2 ms :=
  let ⟨h1, ⟨uvs, h2, h3⟩, h4, h5, h6, h7⟩ := h
  ⟨ins_ext e h1, ⟨uvs, e _ _ h2 (fun _ z => by cases z), h3.mono fun _ _ => usR_ext e _ _⟩, e _ _ h4 (fun _ z => by cases z), baseE_ext e h5, baseE_ext e h6, e _ _ h7 (fun _ z => by cases z)⟩
theorem lam1 {p : Pos} : Lam1 { posonlyargs := [], args := [{ arg := "one", annotation := none, pos := p }], vararg := none, kwonlyargs := [], kw_defaults := [], kwarg := none, defaults := [] } { kind := .function, names := [("one", .local)], isGenerator := false, isCoroutine := false } "one" := ⟨rfl, rfl, rfl, by decide, rfl, by decide, by decide, fun _ _ _ _ _ _ _ => rfl⟩
section
variable {P : Program} {w : World} {K : PySem.W.Frag} {mg : Str → Option Value} {base : Heap} {CE CA cA PT : Addr}
abbrev s_Atlas_init : Stmt := inClass (topS 8) 0
theorem sc_Atlas_init : FnScope ["self", "modules", "name", "module", "one"] ["self", "modules"] (defScope s_Atlas_init) := ⟨rfl, rfl, rfl, by decide +kernel, rfl, by decide +kernel, by decide +kernel⟩
theorem ok_Atlas_init {f : Addr} {fd : FuncData} (F : Fun K "__init__" "Atlas.__init__" s_Atlas_init f fd) {f_Atlas_init : Addr} {d_Atlas_init : FuncData} (K_Atlas : CI K mg "Atlas" ["self", "modules"] CA f_Atlas_init d_Atlas_init) {f_Atlas_enter_classes : Addr} {d_Atlas_enter_classes : FuncData} (M_Atlas_enter_classes : MI K CA "enter_classes" ["self", "module", "classes"] f_Atlas_enter_classes d_Atlas_enter_classes) {f_Atlas_enter_generics : Addr} {d_Atlas_enter_generics : FuncData} (M_Atlas_enter_generics : MI K CA "enter_generics" ["self", "module", "generics"] f_Atlas_enter_generics d_Atlas_enter_generics) {f_Atlas_enter_methods : Addr} {d_Atlas_enter_methods : FuncData} (M_Atlas_enter_methods : MI K CA "enter_methods" ["self", "module", "methods"] f_Atlas_enter_methods d_Atlas_enter_methods) (G_Atlas_enter_classes : FnOk P w K mg base CX0 3 f_Atlas_enter_classes d_Atlas_enter_classes ["self", "module", "classes"] (spEC K CA CE)) (G_Atlas_enter_generics : FnOk P w K mg base CX0 1 f_Atlas_enter_generics d_Atlas_enter_generics ["self", "module", "generics"] (spEG K)) (G_Atlas_enter_methods : FnOk P w K mg base CX0 1 f_Atlas_enter_methods d_Atlas_enter_methods ["self", "module", "methods"] (spEM K)) {u_BASE : Value} (h_BASE : Cst K mg "BASE" (.str "base") u_BASE) {a_BASE_CLASSES : Addr} {u_BASE_CLASSES : Value} (h_BASE_CLASSES : Cst K mg "BASE_CLASSES" (.ref a_BASE_CLASSES) u_BASE_CLASSES) (t_BASE_CLASSES : ∀ H : Hp, BaseT K H a_BASE_CLASSES) (nCA : NA K CA ["modules", "classes", "generics", "methods", "_uses", "_parents", "_aboves"]) (m_sorted : mg "sorted" = none) (hcode : fd.code = .ref cA) (TB : TabB base mg cA PT) (m_sorted : mg "sorted" = none) : FnOk P w K mg base CX0 6 f fd ["self", "modules"] (spAI K CA CE [(PT, qLam)]) := by
  refine F.okC hcode sc_Atlas_init (fun vs H Q E h => ?_) (fun A outer s H vs Q E hr h => ?_)
  · obtain ⟨_, _, _, _, _, rfl, _⟩ := h
    rfl
  · obtain ⟨a, dx, l, xs, ms, rfl, ha, hl, hv, nd, hlen, hT, q⟩ := h
    refine ⟨_, (pss_cons (ps_fld (pv 0) (pe_dc (own := [("one", 4)]) rfl sc_Atlas_init.nd (pi_list (pe_sortItem0 (P := PT) (c := cA) (pa_cons (pv 1) pa_nil) rfl m_sorted lam1 (k := 0) (hr.mono (by decide)) TB rfl (List.mem_singleton.mpr rfl) (fun p hp _ => by rw [List.mem_singleton.mp hp]))) (blkOk_by (N := ["self", "modules", "name", "module", "one"]) (sc := defScope s_Atlas_init) (by decide +kernel)) (fun _ _ _ _ _ => by exact (pg_name (i := 4) sc_Atlas_init.nd rfl (.inl rfl))) (fun _ _ _ _ _ => by exact pts_nil) (fun _ _ _ _ _ => by exact (pe_ix (ix_tupK K rfl) (pv 4) pe_int (fun _ _ => rfl))) (fun _ _ _ _ _ => by exact (pv 4))) rfl)
  (pss_cons (ps_fld (pv 0) pe_dnewK rfl)
  (pss_cons (ps_fld (pv 0) pe_dnewK rfl)
  (pss_cons (ps_fld (pv 0) pe_dnewK rfl)
  (pss_cons (ps_fld (pv 0) pe_dnewK rfl)
  (pss_cons (ps_fld (pv 0) pe_dnewK rfl)
  (pss_cons (ps_fld (pv 0) pe_dnewK rfl)
  (pss_cons (ps_expr (pe_meth (pv 0) K_Atlas.cl M_Atlas_enter_classes.m G_Atlas_enter_classes (hr.mono (by decide)) M_Atlas_enter_classes.b .nil pass0 (pa_cons (pe_glob (v := .str "base") rfl h_BASE.g h_BASE.r) (pa_cons (pe_glob (v := .ref a_BASE_CLASSES) rfl h_BASE_CLASSES.g h_BASE_CLASSES.r) pa_nil))))
  (pss_one (ps_lock (ps_for PassesOwn.never rfl (pi_items (pe_fld (pv 0) rfl)) (pg_tup (n := 2) (by rfl) (pgs_cons (pg_name (i := 2) sc_Atlas_init.nd rfl (.inl rfl)) (pgs_cons (pg_name (i := 3) sc_Atlas_init.nd rfl (.inl rfl)) pgs_nil))) (pss_cons (ps_dput (hu_of hr) (pe_fld (pv 0) rfl) (pv 2) (pe_ix ix_tup (pv 3) pe_int (fun _ _ => rfl)) rfl)
  (pss_cons (ps_expr (pe_meth (pv 0) K_Atlas.cl M_Atlas_enter_classes.m G_Atlas_enter_classes (hr.mono (by decide)) M_Atlas_enter_classes.b .nil pass0 (pa_cons (pv 2) (pa_cons (pe_ix ix_tup (pv 3) pe_int (fun _ _ => rfl)) pa_nil))))
  (pss_cons (ps_expr (pe_meth (pv 0) K_Atlas.cl M_Atlas_enter_generics.m G_Atlas_enter_generics (hr.mono (by decide)) M_Atlas_enter_generics.b .nil pass0 (pa_cons (pv 2) (pa_cons (pe_ix ix_tup (pv 3) pe_int (fun _ _ => rfl)) pa_nil))))
  (pss_one (ps_expr (pe_meth (pv 0) K_Atlas.cl M_Atlas_enter_methods.m G_Atlas_enter_methods (hr.mono (by decide)) M_Atlas_enter_methods.b .nil pass0 (pa_cons (pv 2) (pa_cons (pe_ix ix_tup (pv 3) pe_int (fun _ _ => rfl)) pa_nil))))))))))))))))))), ?_⟩
    have clA := K_Atlas.cl
    have ia : ∀ {H' : Hp}, FrN [] H H' → H' a = some (.ins CA dx []) := fun f => f _ _ (by simp) (fun _ z => by cases z) ha
    refine seqA ⟨_, rfl, l, xs, names ms, rfl, hl, hv.firsts, hT, fun H2 p ys eN T2 pm np => ⟨p, rfl, ⟨ys, SqL.of upd_same⟩, fun D nD => ?_⟩⟩
    obtain ⟨ms', pm', hv'⟩ := hv.perm pm
    have nd' : (names ms').Nodup := (pm'.map _).nodup_iff.mpr nd
    have lm : ms'.length = ms.length := pm'.length_eq
    have f1 : FrN [] H (upd H2 p (.lst ys)) := (FrN.ext eN).upd np
    have t1 : Tabs [(PT, qLam)] (upd H2 p (.lst ys)) := tabs_upd T2 np
    have p1 : upd H2 p (.lst ys) p = some (.lst ys) := upd_same
    generalize upd H2 p (.lst ys) = H1 at nD f1 t1 p1 ⊢
    have pD : p ≠ D := fun e => by rw [e, nD] at p1; cases p1
    refine dc_it (walk_list (K := K) (a := p) (xs := ys)) (fun i H' => FrN [] H H' ∧ Tabs [(PT, qLam)] H' ∧ H' p = some (.lst ys) ∧ ∃ kvs, H' D = some (.dK kvs) ∧ KD (ModV K H') kvs (ms'.take i)) ⟨f1.upd nD, tabs_upd t1 nD, by rw [upd_ne pD]; exact p1, [], upd_same, trivial⟩ (fun i H' _ ⟨_, _, e, _⟩ => SqL.of e) ?_ ?_
    · rintro i x H' H'' hi ⟨f2, t2, p2, kvs, hD, hk⟩ ⟨rfl, hx⟩
      obtain ⟨m, hm, hmv⟩ := hv'.at_ hx
      have hmv2 := modV_ext f2.ofExt hmv
      obtain ⟨t, tu, tc, tg, tm, rfl, h1, h2, h3, h4, h5⟩ := id hmv2
      have hkl := hk.len
      rw [List.length_take] at hkl
      have nDt : NoTup [D] H'' := fun b m xs k => by
        rcases List.mem_singleton.mp m with rfl
        rcases k with k | ⟨o, k⟩ <;> · rw [hD] at k; cases k
      refine ⟨rfl, ?_⟩
      unfold tYes
      dsimp only
      rw [if_pos rfl]
      refine ⟨_, rfl, t, _, 0, .str m.1, rfl, rfl, h1, atI_nat (j := 0) rfl, _, rfl, kvs, .inr m.1, rfl, hD, Nat.lt_of_le_of_lt (by omega : kvs.length ≤ 1000) (by decide), ?_⟩
      have g : FrN [D] H'' (upd H'' D (.dK (putK kvs (.inr m.1) (.ref t)))) := (FrN.refl H'').set (by simp)
      refine ⟨fun b o n k e => ?_, tabs_set t2 hD (fun _ z => by cases z) (fun _ z => by cases z), by rw [upd_ne pD]; exact p2, _, upd_same, ?_⟩
      · by_cases q : b = D
        · rw [q] at e
          rw [f1 D o (by simp) k e] at nD
          cases nD
        · exact g b o (fun m => q (List.mem_singleton.mp m)) k (f2 b o n k e)
      · rw [List.take_add_one, hm]
        exact (hk.mono fun _ _ => modV_fr g nDt).put (modV_fr g nDt hmv2) (take_no nd' hm)
    rintro Hb ⟨f2, t2, p2, kvs, hD, hk⟩
    have hk : KD (ModV K Hb) kvs ms' := by
      have e : ms'.take ys.length = ms' := by
        rw [hv'.len]
        exact List.take_length
      rw [e] at hk
      exact hk
    have aD : a ≠ D := fun e => by
      have h := ia f2
      rw [e, hD] at h
      cases h
    refine ⟨_, rfl, a, CA, dx, [], rfl, ia f2, clA, nCA _ (by simp), Nat.le_of_ble_eq_true rfl, ?_⟩
    dsimp only
    obtain ⟨G0, eG0, b0, e0⟩ := fld_next (a := a) (Fr.refl (A := [a]) Hb) (C := CA) (dx := dx) (fs' := [("modules", .ref D)]) (f := "modules") (y := .ref D) (fs := []) rfl
    rw [eG0]
    refine seqA fun dc ndc => ⟨_, rfl, a, CA, dx, _, rfl, (by rw [upd_ne (ne_of_none e0 ndc)]; exact e0), clA, nCA _ (by simp), Nat.le_of_ble_eq_true rfl, ?_⟩
    dsimp only
    obtain ⟨G1, eG1, b1, e1, i1, j1, k1⟩ := fld_dict (f := "classes") (fs' := [("modules", .ref D), ("classes", .ref dc)]) b0 e0 ndc rfl
    rw [eG1]
    refine seqA fun dg ndg => ⟨_, rfl, a, CA, dx, _, rfl, (by rw [upd_ne (ne_of_none e1 ndg)]; exact e1), clA, nCA _ (by simp), Nat.le_of_ble_eq_true rfl, ?_⟩
    dsimp only
    obtain ⟨G2, eG2, b2, e2, i2, j2, k2⟩ := fld_dict (f := "generics") (fs' := [("modules", .ref D), ("classes", .ref dc), ("generics", .ref dg)]) b1 e1 ndg rfl
    rw [eG2]
    refine seqA fun dt ndt => ⟨_, rfl, a, CA, dx, _, rfl, (by rw [upd_ne (ne_of_none e2 ndt)]; exact e2), clA, nCA _ (by simp), Nat.le_of_ble_eq_true rfl, ?_⟩
    dsimp only
    obtain ⟨G3, eG3, b3, e3, i3, j3, k3⟩ := fld_dict (f := "methods") (fs' := [("modules", .ref D), ("classes", .ref dc), ("generics", .ref dg), ("methods", .ref dt)]) b2 e2 ndt rfl
    rw [eG3]
    refine seqA fun du ndu => ⟨_, rfl, a, CA, dx, _, rfl, (by rw [upd_ne (ne_of_none e3 ndu)]; exact e3), clA, nCA _ (by simp), Nat.le_of_ble_eq_true rfl, ?_⟩
    dsimp only
    obtain ⟨G4, eG4, b4, e4, i4, j4, k4⟩ := fld_dict (f := "_uses") (fs' := [("modules", .ref D), ("classes", .ref dc), ("generics", .ref dg), ("methods", .ref dt), ("_uses", .ref du)]) b3 e3 ndu rfl
    rw [eG4]
    refine seqA fun dp ndp => ⟨_, rfl, a, CA, dx, _, rfl, (by rw [upd_ne (ne_of_none e4 ndp)]; exact e4), clA, nCA _ (by simp), Nat.le_of_ble_eq_true rfl, ?_⟩
    dsimp only
    obtain ⟨G5, eG5, b5, e5, i5, j5, k5⟩ := fld_dict (f := "_parents") (fs' := [("modules", .ref D), ("classes", .ref dc), ("generics", .ref dg), ("methods", .ref dt), ("_uses", .ref du), ("_parents", .ref dp)]) b4 e4 ndp rfl
    rw [eG5]
    refine seqA fun da nda => ⟨_, rfl, a, CA, dx, _, rfl, (by rw [upd_ne (ne_of_none e5 nda)]; exact e5), clA, nCA _ (by simp), Nat.le_of_ble_eq_true rfl, ?_⟩
    dsimp only
    obtain ⟨G6, eG6, b6, e6, i6, j6, k6⟩ := fld_dict (f := "_aboves") (fs' := [("modules", .ref D), ("classes", .ref dc), ("generics", .ref dg), ("methods", .ref dt), ("_uses", .ref du), ("_parents", .ref dp), ("_aboves", .ref da)]) b5 e5 nda rfl
    rw [eG6]
    have no : ∀ {x : Addr}, x ≠ a → x ∉ [a] := fun h m => h (List.mem_singleton.mp m)
    have dcpos : G6 dc = some (.dK []) := j6 _ _ (no k1) (j5 _ _ (no k1) (j4 _ _ (no k1) (j3 _ _ (no k1) (j2 _ _ (no k1) i1))))
    have dgpos : G6 dg = some (.dK []) := j6 _ _ (no k2) (j5 _ _ (no k2) (j4 _ _ (no k2) (j3 _ _ (no k2) i2)))
    have dupos : G6 du = some (.dK []) := j6 _ _ (no k4) (j5 _ _ (no k4) i4)
    have dppos : G6 dp = some (.dK []) := j6 _ _ (no k5) i5
    have dcp : dc ≠ dp := fun e => by
      have h : G4 dc = some (.dK []) := j4 _ _ (no k1) (j3 _ _ (no k1) (j2 _ _ (no k1) i1))
      rw [e, ndp] at h
      cases h
    have dcu : dc ≠ du := fun e => by
      have h : G3 dc = some (.dK []) := j3 _ _ (no k1) (j2 _ _ (no k1) i1)
      rw [e, ndu] at h
      cases h
    have dup : du ≠ dp := fun e => by
      have h : G4 du = some (.dK []) := i4
      rw [e, ndp] at h
      cases h
    have dgu : dg ≠ du := fun e => by
      have h : G3 dg = some (.dK []) := j3 _ _ (no k2) i2
      rw [e, ndu] at h
      cases h
    have dgc : dg ≠ dc := fun e => by
      have h : G1 dc = some (.dK []) := i1
      rw [← e, ndg] at h
      cases h
    have dgp : dg ≠ dp := fun e => by
      have h : G4 dg = some (.dK []) := j4 _ _ (no k2) (j3 _ _ (no k2) i2)
      rw [e, ndp] at h
      cases h
    have t6 : Tabs [(PT, qLam)] G6 := tabs_fr t2 b6 (ia f2) (fun _ z => by cases z) (fun _ z => by cases z)
    have hD6 : G6 D = some (.dK kvs) := b6 _ _ (no (Ne.symm aD)) hD
    have hk6 : KD (ModV K G6) kvs ms' := hk.mono fun _ _ => modV_fr (FrN.of b6) (ins_nt' (ia f2))
    have f6 : FrN [a] H G6 := (f2.mono (by simp)).trans (FrN.of b6)
    refine seqA ⟨_, rfl, a, dx, _, rfl, e6, rfl, a, a_BASE_CLASSES, "base", rfl, .inr ⟨D, dc, dg, dt, du, dp, da, rfl, t_BASE_CLASSES G6, ⟨dx, e6⟩, dcpos, dppos, dcp, fun H7 v1 v2 f7 c7 b71 b72 => ?_⟩⟩
    dsimp only
    have g0 : FrN [a] H G0 := (f2.mono (by simp)).trans (FrN.of b0)
    have g3 : FrN [a] H G3 := (f2.mono (by simp)).trans (FrN.of b3)
    have g4 : FrN [a] H G4 := (f2.mono (by simp)).trans (FrN.of b4)
    have m2 : ∀ {b : Addr}, b ≠ dc → b ≠ dp → b ∉ [dc, dp] := fun {b} h1 h2 m => by
      have m : b = dc ∨ b = dp := by simpa using m
      rcases m with m | m
      · exact h1 m
      · exact h2 m
    have newc : ∀ o, (∀ ps, o ≠ .tbl ps) → H dc ≠ some o := fun o k e => by
      have h := g0 dc o (no k1) k e
      rw [ndc] at h
      cases h
    have newp : ∀ o, (∀ ps, o ≠ .tbl ps) → H dp ≠ some o := fun o k e => by
      have h := g4 dp o (no k5) k e
      rw [ndp] at h
      cases h
    have newu : ∀ o, (∀ ps, o ≠ .tbl ps) → H du ≠ some o := fun o k e => by
      have h := g3 du o (no k4) k e
      rw [ndu] at h
      cases h
    have newD : ∀ o, (∀ ps, o ≠ .tbl ps) → H D ≠ some o := fun o k e => by
      rw [f1 D o (by simp) k e] at nD
      cases nD
    have nt6 : NoTup [dc, dp] G6 := fun b m xs k => by
      have m : b = dc ∨ b = dp := by simpa using m
      rcases m with rfl | rfl
      · rcases k with k | ⟨o, k⟩ <;> · rw [dcpos] at k; cases k
      · rcases k with k | ⟨o, k⟩ <;> · rw [dppos] at k; cases k
    have e7 : H7 a = some (.ins CA dx (atlasF D dc dg dt du dp da)) := f7 _ _ (m2 (Ne.symm k1) (Ne.symm k5)) e6
    have Dc : D ≠ dc := fun e => by
      have h := b0 _ _ (no (Ne.symm aD)) hD
      rw [e, ndc] at h
      cases h
    have Dp : D ≠ dp := fun e => by
      have h := b4 _ _ (no (Ne.symm aD)) hD
      rw [e, ndp] at h
      cases h
    have Dg : D ≠ dg := fun e => by
      have h := b1 _ _ (no (Ne.symm aD)) hD
      rw [e, ndg] at h
      cases h
    have Du : D ≠ du := fun e => by
      have h := b3 _ _ (no (Ne.symm aD)) hD
      rw [e, ndu] at h
      cases h
    have hD7 : H7 D = some (.dK kvs) := f7 _ _ (m2 Dc Dp) hD6
    have hk7 : KD (ModV K H7) kvs ms' := hk6.mono fun _ _ => modV_fr (FrN.of f7) nt6
    have du7 : H7 du = some (.dK []) := f7 _ _ (m2 (Ne.symm dcu) dup) dupos
    have dg7 : H7 dg = some (.dK []) := f7 _ _ (m2 dgc dgp) dgpos
    have t7 : Tabs [(PT, qLam)] H7 := tabs_frA t6 f7 fun x m => by
      have m : x = dc ∨ x = dp := by simpa using m
      rcases m with rfl | rfl
      · exact ⟨_, dcpos, (fun _ z => by cases z), (fun _ z => by cases z)⟩
      · exact ⟨_, dppos, (fun _ z => by cases z), (fun _ z => by cases z)⟩
    have f7N : FrN [a] H H7 := fun b o n k e => by
      by_cases q1 : b = dc
      · exact absurd (q1 ▸ e) (newc o k)
      · by_cases q2 : b = dp
        · exact absurd (q2 ▸ e) (newp o k)
        · exact f7 b o (m2 q1 q2) (f6 b o n k e)
    have newg : ∀ o, (∀ ps, o ≠ .tbl ps) → H dg ≠ some o := fun o k e => by
      have h := ((f2.mono (by simp)).trans (FrN.of b1) : FrN [a] H G1) dg o (no k2) k e
      rw [ndg] at h
      cases h
    clear newp dcpos dppos nt6 g0 g3 g4 dupos dgpos hD6 hk6 t6 f6
    refine ⟨D, _, hD7, trivial, fun od => ?_⟩
    have ea7 : upd H7 D (.frz od (.dK kvs)) a = some (.ins CA dx (atlasF D dc dg dt du dp da)) := by rw [upd_ne aD]; exact e7
    have ed7 : upd H7 D (.frz od (.dK kvs)) D = some (.frz od (.dK kvs)) := upd_same
    have nt7 : NoTup [D] H7 := fun b m xs k => by
      rcases List.mem_singleton.mp m with rfl
      rcases k with k | ⟨o, k⟩ <;> · rw [hD7] at k; cases k
    have fz : Fr [D] H7 (upd H7 D (.frz od (.dK kvs))) := (Fr.refl H7).set (by simp)
    have kz : KD (ModV K (upd H7 D (.frz od (.dK kvs)))) kvs ms' := hk7.mono fun _ _ => modV_fr (FrN.of fz) nt7
    have tz : Tabs [(PT, qLam)] (upd H7 D (.frz od (.dK kvs))) := tabs_set t7 hD7 (fun _ z => by cases z) (fun _ z => by cases z)
    have uz : upd H7 D (.frz od (.dK kvs)) du = some (.dK []) := by rw [upd_ne (Ne.symm Du)]; exact du7
    generalize upd H7 D (.frz od (.dK kvs)) = Hz at ea7 ed7 fz kz tz uz ⊢
    have ntu : NoTup [du] Hz := fun b m xs k => by
      rcases List.mem_singleton.mp m with rfl
      rcases k with k | ⟨o, k⟩ <;> · rw [uz] at k; cases k
    have nu : ∀ {x : Addr}, x ≠ du → x ∉ [du] := fun h m => h (List.mem_singleton.mp m)
    have au : a ≠ du := Ne.symm k4
    refine ⟨_, rfl, a, CA, dx, _, _, rfl, ea7, clA, nCA _ (by simp), rfl, D, od, kvs, rfl, ed7, ?_⟩
    refine for_it walk_items (D := { nx := fun σ' H' => H' D = some (.frz od (.dK kvs)) ∧ Q .non (upd H' D (.dK kvs)), rt := fun v H' => H' D = some (.frz od (.dK kvs)) ∧ Q v (upd H' D (.dK kvs)), bk := fun σ' H' => H' D = some (.frz od (.dK kvs)) ∧ False, ct := fun σ' H' => H' D = some (.frz od (.dK kvs)) ∧ False })
      (fun i σ H' => (∃ c2 c3 c4, σ = [some (.ref a), some (.ref l), c2, c3, c4]) ∧ Fr [du] Hz H' ∧ ∃ uvs, H' du = some (.dK uvs) ∧ KD (UsR K H') uvs (ms'.take i)) ⟨⟨none, none, none, rfl⟩, Fr.refl Hz, [], uz, trivial⟩ (fun i σ H' _ ⟨_, f, _⟩ => f _ _ (nu Du) ed7) ?_ ?_
    · rintro i x σ H' H'' hi ⟨⟨c2, c3, c4, rfl⟩, f8, uvs, u8, k8⟩ ⟨T, x0, y0, rfl, nT, rfl, hx0, hy0⟩
      obtain ⟨k, v, hkv⟩ : ∃ k v, kvs[i]? = some (k, v) := ⟨kvs[i].1, kvs[i].2, List.getElem?_eq_getElem hi⟩
      dsimp only at hx0 hy0
      rw [hkv] at hx0 hy0
      cases hx0
      cases hy0
      obtain ⟨m, hm, rfl, hmv⟩ := kz.at_ hkv
      have sT : Same H' (upd H' T (.tup [kV (.inr m.1), v])) := same_upd nT
      have f9 : Fr [du] Hz (upd H' T (.tup [kV (.inr m.1), v])) := fun b o n e => sT _ _ (f8 b o n e)
      have u9 := sT _ _ u8
      have tT : upd H' T (.tup [kV (.inr m.1), v]) T = some (.tup [kV (.inr m.1), v]) := upd_same
      generalize upd H' T (.tup [kV (.inr m.1), v]) = H9 at sT f9 u9 tT ⊢
      obtain ⟨t, tu, tc, tg, tm, rfl, h1, h2, h3, h4, h5⟩ := modV_fr (FrN.of f9) ntu hmv
      have hkl := k8.len
      have hlm := hk7.len
      rw [List.length_take] at hkl
      have nt9 : NoTup [du] H9 := fun b m xs k => by
        rcases List.mem_singleton.mp m with rfl
        rcases k with k | ⟨o, k⟩ <;> · rw [u9] at k; cases k
      have a9 := f9 _ _ (nu au) ea7
      refine ⟨T, _, rfl, .inl (.inl tT), rfl, _, _, rfl, nameA ⟨_, _, rfl, nameA ⟨rfl, ?_⟩⟩⟩
      dsimp only
      refine seqA ⟨_, rfl, t, _, 1, _, rfl, rfl, h1, atI_nat (j := 1) rfl, _, rfl, a, CA, dx, _, _, rfl, a9, clA, nCA _ (by simp), rfl, _, rfl, du, _, rfl, DPut.k (k := .inr m.1) u9 (Nat.lt_of_le_of_lt (by omega : uvs.length ≤ 1000) (by decide)), ?_⟩
      dsimp only
      have fp : Fr [du] H9 (upd H9 du (.dK (putK uvs (.inr m.1) (.ref tu)))) := (Fr.refl H9).set (by simp)
      have up : upd H9 du (.dK (putK uvs (.inr m.1) (.ref tu))) du = some (.dK (putK uvs (.inr m.1) (.ref tu))) := upd_same
      have ap := fp _ _ (nu au) a9
      have kp : KD (UsR K (upd H9 du (.dK (putK uvs (.inr m.1) (.ref tu))))) (putK uvs (.inr m.1) (.ref tu)) (ms'.take (i + 1)) := by
        rw [List.take_add_one, hm]
        refine KD.put ((k8.mono fun v m h => usR_ext (same_ext sT) v m h).mono fun v m ⟨tu, z1, z2⟩ => ⟨tu, z1, sqt_fr fp nt9 z2⟩) ⟨tu, rfl, sqt_fr fp nt9 h2⟩ (take_no nd' hm)
      have q1 := sqt_fr fp nt9 h1
      have q3 := sqt_fr fp nt9 h3
      have q4 := sqt_fr fp nt9 h4
      have q5 := sqt_fr fp nt9 h5
      have fz9 := f9.trans fp
      generalize upd H9 du (.dK (putK uvs (.inr m.1) (.ref tu))) = Hp at fp up ap kp q1 q3 q4 q5 fz9 ⊢
      refine seqA ⟨_, rfl, a, dx, _, rfl, ap, rfl, _, rfl, _, rfl, t, _, 2, _, rfl, rfl, q1, atI_nat (j := 2) rfl, a, tc, m.1, rfl, .inl ⟨q3, ?_⟩⟩
      dsimp only
      refine seqA ⟨_, rfl, a, dx, _, rfl, ap, rfl, _, rfl, _, rfl, t, _, 3, _, rfl, rfl, q1, atI_nat (j := 3) rfl, a, tg, m.1, rfl, q4, ?_⟩
      dsimp only
      exact ⟨_, rfl, a, dx, _, rfl, ap, rfl, _, rfl, _, rfl, t, _, 4, _, rfl, rfl, q1, atI_nat (j := 4) rfl, a, tm, m.1, rfl, q5, ⟨_, _, _, rfl⟩, fz9, _, up, kp⟩
    · rintro σ H' ⟨_, f8, uvs, u8, k8⟩
      have k8 : KD (UsR K H') uvs ms' := by
        have e : ms'.take kvs.length = ms' := by
          rw [hk7.len]
          exact List.take_length
        rw [e] at k8
        exact k8
      have d8 := f8 _ _ (nu Du) ed7
      refine ⟨d8, q _ ?_ ?_ ?_⟩
      · intro b o n k e
        by_cases q1 : b = D
        · exact absurd (q1 ▸ e) (newD o k)
        · by_cases q2 : b = du
          · exact absurd (q2 ▸ e) (newu o k)
          · rw [upd_ne q1]
            exact f8 _ _ (nu q2) (fz _ _ (fun m => q1 (List.mem_singleton.mp m)) (f7N b o n k e))
      · refine tabs_set (tabs_frA tz f8 fun x m => ?_) d8 (fun _ z => by cases z) (fun _ z => by cases z)
        rw [List.mem_singleton.mp m]
        exact ⟨_, uz, (fun _ z => by cases z), (fun _ z => by cases z)⟩
      · have nz : NoTup [D] H' := fun b m xs k => by
          rcases List.mem_singleton.mp m with rfl
          rcases k with k | ⟨o, k⟩
          · rw [d8] at k; cases k
          · rw [d8] at k; cases k
        have fD : Fr [D] H' (upd H' D (.dK kvs)) := (Fr.refl H').set (by simp)
        have nD2 : ∀ {x : Addr}, x ≠ D → x ∉ [D] := fun h m => h (List.mem_singleton.mp m)
        have two : ∀ {x : Addr} {o : HO}, x ≠ D → x ≠ du → H7 x = some o → upd H' D (.dK kvs) x = some o := fun h1 h2 e => fD _ _ (nD2 h1) (f8 _ _ (nu h2) (fz _ _ (nD2 h1) e))
        have base : ∀ {v : V} {nm : Str} {op ab : Bool}, BaseE CE H7 v nm op ab → BaseE CE (upd H' D (.dK kvs)) v nm op ab := fun ⟨c, tp, df, h1, ⟨dxx, h2⟩⟩ => ⟨c, tp, df, h1, dxx, two (fun e => by rw [e, hD7] at h2; cases h2) (fun e => by rw [e, du7] at h2; cases h2) h2⟩
        refine ⟨D, dc, dg, dt, du, dp, da, kvs, uvs, v1, v2, ms', ⟨dx, two aD au e7⟩, pm', upd_same, ?_, by rw [upd_ne (Ne.symm Du)]; exact u8, k8.mono fun v m ⟨tu, z1, z2⟩ => ⟨tu, z1, sqt_fr fD nz z2⟩, two (Ne.symm Dc) dcu c7, base b71, base b72, two (Ne.symm Dg) dgu dg7, fun x hx o k => ?_⟩
        · exact (kz.mono fun _ _ => modV_fr (FrN.of f8) ntu).mono fun _ _ => modV_fr (FrN.of fD) nz
        · rcases hx with rfl | rfl | rfl | rfl
          · exact newD o k
          · exact newc o k
          · exact newg o k
          · exact newu o k
end
end Cw

set_option Elab.async false
set_option linter.all false
set_option maxRecDepth 100000
set_option maxHeartbeats 4000000
namespace Cw
open PySem PySem.Spec PyProof.Rows L2 LamX
theorem pe_fldK {X : Cx} {e : Expr} {ta : TE} {f : Str} {pos : Pos} (K : PySem.W.Frag) (h : X.K = K) (he : PE X e ta) (hb : attributeBase e f X.env (eval e X.env) = eval e X.env) : PE X (.Attribute e f pos) (tFld K ta f) := by
  subst h
  exact pe_fld he hb
def spView (K : PySem.W.Frag) (CA CE : Addr) : Sp := fun vs H Q _ => ∃ (a : Addr) (x : Str) (ms : List Mo) (res : List Str) (n : Nat), vs = [.ref a, .str x] ∧ AtlasAt K CA CE H a ms ∧ (names ms).Nodup ∧ Reach ms n [] [x] res ∧ n ≤ 9000 ∧ ("base" : Str) ∉ res ∧
  ∀ p H', Same H H' → H p = none → H' p = some (.dK ((res ++ [("base" : Str)]).map tk)) → Q (.ref p) H'
def spPart (K : PySem.W.Frag) (CA CE : Addr) (T : List (Addr × Str)) : Sp := fun vs H Q _ => ∃ (a d : Addr) (ms : List Mo) (ns : List Str), vs = [.ref a, .ref d] ∧ AtlasAt K CA CE H a ms ∧ (names ms).Nodup ∧ ms.length ≤ 1000 ∧ H d = some (.dK (ns.map tk)) ∧ Tabs T H ∧
  ∀ p H', ExtN H H' → Tabs T H' → AtlasAt K CA CE H' p (ms.filter (fun m => decide (m.1 ∈ ns))) → Q (.ref p) H'
def spScope (K : PySem.W.Frag) (CS : Addr) : Sp := fun vs H Q _ => ∃ (a dx : Addr) (x y z : V), vs = [.ref a, x, y, z] ∧ H a = some (.ins CS dx []) ∧ ∀ H', Fr [a] H H' → Q .non H'
def spFirst (K : PySem.W.Frag) (CA CE : Addr) : Sp := fun vs H Q _ => ∃ (a : Addr) (x : Str) (us : List Str) (ms : List Mo) (res : List Str) (n : Nat), vs = [.ref a, .str x] ∧ AtlasAt K CA CE H a ms ∧ (names ms).Nodup ∧ (x, us) ∈ ms ∧ Reach ms n [] [x] res ∧ n ≤ 9000 ∧ ("base" : Str) ∉ res ∧
  ∀ H', Same H H' → Q .non H'
section
variable {P : Program} {w : World} {K : PySem.W.Frag} {mg : Str → Option Value} {base : Heap} {CE CA CP CS : Addr} {T : List (Addr × Str)}
abbrev s_Atlas_view : Stmt := inClass (topS 8) 4
theorem sc_Atlas_view : FnScope ["self", "module", "found"] ["self", "module"] (defScope s_Atlas_view) := ⟨rfl, rfl, rfl, by decide +kernel, rfl, by decide +kernel, by decide +kernel⟩
theorem ok_Atlas_view {f : Addr} {fd : FuncData} (F : Fun K "view" "Atlas.view" s_Atlas_view f fd) {f_reached : Addr} {d_reached : FuncData} (h_reached : Hd K mg "reached" s_reached ["starts", "steps"] f_reached d_reached) (G_reached : FnOk P w K mg base CX0 1 f_reached d_reached ["starts", "steps"] (spReached K)) {u_BASE : Value} (h_BASE : Cst K mg "BASE" (.str "base") u_BASE) (clA : Cls K CA) (nCA : NA K CA ["modules", "classes", "generics", "methods", "_uses", "_parents", "_aboves"]) : FnOk P w K mg base CX0 2 f fd ["self", "module"] (spView K CA CE) := by
  refine F.ok sc_Atlas_view (fun vs H Q E h => ?_) (fun cdv A outer s H vs Q E hr h => ?_)
  · obtain ⟨_, _, _, _, _, rfl, _⟩ := h
    rfl
  · obtain ⟨a, x, ms, res, n, rfl, ⟨dm, dc, dg, dt, du, dp, da, kvs, uvs, v1, v2, ms', ⟨dx, ha⟩, pm, hdm, hkv, hdu, huv, _⟩, nd, rc, hn, nb, q⟩ := h
    refine ⟨_, (pss_cons (ps_set (i := 2) sc_Atlas_view.nd rfl (.inl rfl) (pe_call G_reached (hr.mono (by decide)) (by rfl) h_reached.g h_reached.F.kp h_reached.b .nil pass0 (pa_cons (pe_lst (pa_cons (pv 1) pa_nil)) (pa_cons (pe_fld (pv 0) rfl) pa_nil))))
  (pss_cons (ps_dput (hu_of hr) (pv 2) (pe_glob (v := .str "base") rfl h_BASE.g h_BASE.r) pe_bl rfl)
  (pss_one (ps_ret (pv 2))))), ?_⟩
    refine seqA (asgA ⟨_, rfl, Nat.le_of_ble_eq_true rfl, fun l nl => ?_⟩)
    have s1 : Same H (upd H l (.lst [.str x])) := same_upd nl
    have l1 : upd H l (.lst [.str x]) l = some (.lst ([x].map V.str)) := upd_same
    generalize upd H l (.lst [.str x]) = H1 at s1 l1 ⊢
    refine ⟨_, rfl, a, CA, dx, _, _, rfl, s1 _ _ ha, clA, nCA _ (by simp), rfl, l, du, [x], res, uvs, ms', n, rfl, SqL.of l1, s1 _ _ hdu, huv.mono fun _ _ => usR_ext (same_ext s1) _ _, (pm.map _).nodup_iff.mpr nd, rc.perm pm, by omega, fun p H2 s2 np e2 => nameA ?_⟩
    dsimp only
    have lr := rc.found
    refine seqA ⟨_, rfl, p, _, rfl, DPut.k (k := .inr "base") e2 (Nat.lt_of_le_of_lt (by rw [List.length_map]; show res.length ≤ 10000; have : ([] : List Str).length = 0 := rfl; omega) (by decide)), ?_⟩
    dsimp only
    rw [tk_put nb]
    have np0 : H p = none := s1.free np
    refine retA ⟨_, rfl, q p _ (same_mut (s1.trans s2) np0) np0 upd_same⟩
abbrev s_Scope_init : Stmt := inClass (topS 73) 0
theorem sc_Scope_init : FnScope ["self", "atlas", "known", "gives"] ["self", "atlas", "known", "gives"] (defScope s_Scope_init) := ⟨rfl, rfl, rfl, by decide +kernel, rfl, by decide +kernel, by decide +kernel⟩
theorem ok_Scope_init {f : Addr} {fd : FuncData} (F : Fun K "__init__" "Scope.__init__" s_Scope_init f fd) (clS : Cls K CS) (nCS : NA K CS ["atlas", "known", "gives"]) : FnOk P w K mg base CX0 1 f fd ["self", "atlas", "known", "gives"] (spScope K CS) := by
  refine F.ok sc_Scope_init (fun vs H Q E h => ?_) (fun cdv A outer s H vs Q E hr h => ?_)
  · obtain ⟨_, _, _, _, _, rfl, _⟩ := h
    rfl
  · obtain ⟨a, dx, x, y, z, rfl, ha, q⟩ := h
    refine ⟨_, (pss_cons (ps_fld (pv 0) (pv 1) rfl)
  (pss_cons (ps_fld (pv 0) (pv 2) rfl)
  (pss_one (ps_fld (pv 0) (pv 3) rfl)))), ?_⟩
    refine seqA ⟨_, rfl, _, rfl, a, CS, dx, _, rfl, ha, clS, nCS _ (by simp), Nat.le_of_ble_eq_true rfl, ?_⟩
    dsimp only
    obtain ⟨H1, eH1, g1, e1⟩ := fld_next (a := a) (Fr.refl (A := [a]) H) (C := CS) (dx := dx) (fs' := [("atlas", x)]) (f := "atlas") (y := x) (fs := []) rfl
    rw [eH1]
    refine seqA ⟨_, rfl, _, rfl, a, CS, dx, _, rfl, e1, clS, nCS _ (by simp), Nat.le_of_ble_eq_true rfl, ?_⟩
    dsimp only
    obtain ⟨H2, eH2, g2, e2⟩ := fld_next (a := a) g1 (C := CS) (dx := dx) (fs' := [("atlas", x), ("known", y)]) (f := "known") (y := y) (fs := [("atlas", x)]) rfl
    rw [eH2]
    exact ⟨_, rfl, _, rfl, a, CS, dx, _, rfl, e2, clS, nCS _ (by simp), Nat.le_of_ble_eq_true rfl, q _ (g2.set (by simp))⟩
abbrev s_Atlas_part : Stmt := inClass (topS 8) 8
theorem sc_Atlas_part : FnScope ["self", "names", "module", "name"] ["self", "names"] (defScope s_Atlas_part) := ⟨rfl, rfl, rfl, by decide +kernel, rfl, by decide +kernel, by decide +kernel⟩
theorem ok_Atlas_part {f : Addr} {fd : FuncData} (F : Fun K "part" "Atlas.part" s_Atlas_part f fd) {f_Atlas_init : Addr} {d_Atlas_init : FuncData} (K_Atlas : CI K mg "Atlas" ["self", "modules"] CA f_Atlas_init d_Atlas_init) (G_Atlas_init : FnOk P w K mg base CX0 6 f_Atlas_init d_Atlas_init ["self", "modules"] (spAI K CA CE T)) (nCA : NA K CA ["modules", "classes", "generics", "methods", "_uses", "_parents", "_aboves"]) : FnOk P w K mg base CX0 8 f fd ["self", "names"] (spPart K CA CE T) := by
  refine F.ok sc_Atlas_part (fun vs H Q E h => ?_) (fun cdv A outer s H vs Q E hr h => ?_)
  · obtain ⟨_, _, _, _, rfl, _⟩ := h
    rfl
  · obtain ⟨a, d, ms, ns, rfl, ⟨dm, dc, dg, dt, du, dp, da, kvs, uvs, v1, v2, ms', ⟨dx, ha⟩, pm, hdm, hkv, hrest⟩, nd, hlen, hd, hT, q⟩ := h
    have clA := K_Atlas.cl
    have hlm : ms'.length = ms.length := pm.length_eq
    refine ⟨_, (pss_one (ps_ret (pe_make K_Atlas.m G_Atlas_init (hr.mono (by decide)) rfl K_Atlas.g K_Atlas.b .nil pass0 (pa_cons (pe_lock (pe_lc (own := [("name", 3), ("module", 2)]) rfl sc_Atlas_part.nd (pi_items (pe_fld (pv 0) rfl)) (blkOk_by (N := ["self", "names", "module", "name"]) (sc := defScope s_Atlas_part) (by decide +kernel)) (fun _ _ _ _ _ => by exact (pg_tupK K rfl (n := 2) (by rfl) (pgs_cons (pg_name (i := 3) sc_Atlas_part.nd rfl (.inl rfl)) (pgs_cons (pg_name (i := 2) sc_Atlas_part.nd rfl (.inl rfl)) pgs_nil)))) (fun _ _ _ _ _ => by exact pts_one (pt_cmp (pc_din (hu_of hr) (pv 3) (pv 1)))) (fun _ _ _ _ _ => by exact (pv 2)))) pa_nil)))), ?_⟩
    refine retA ⟨dm, _, hdm, trivial, fun od => ?_⟩
    have adm : a ≠ dm := fun e => by rw [e, hdm] at ha; cases ha
    have ea : upd H dm (.frz od (.dK kvs)) a = some (.ins CA dx (atlasF dm dc dg dt du dp da)) := by rw [upd_ne adm]; exact ha
    have em : upd H dm (.frz od (.dK kvs)) dm = some (.frz od (.dK kvs)) := upd_same
    have fz : Fr [dm] H (upd H dm (.frz od (.dK kvs))) := (Fr.refl H).set (by simp)
    have ntm : NoTup [dm] H := fun b m xs k => by
      rcases List.mem_singleton.mp m with rfl
      rcases k with k | ⟨o, k⟩ <;> · rw [hdm] at k; cases k
    have kz : KD (ModV K (upd H dm (.frz od (.dK kvs)))) kvs ms' := hkv.mono fun _ _ => modV_fr (FrN.of fz) ntm
    have tz : Tabs T (upd H dm (.frz od (.dK kvs))) := tabs_set hT hdm (fun _ z => by cases z) (fun _ z => by cases z)
    have dd : (∃ o, upd H dm (.frz od (.dK kvs)) d = some o ∧ (o = .dK (ns.map tk) ∨ o = .frz od (.dK (ns.map tk)))) := by
      by_cases e : d = dm
      · rw [e, hdm] at hd
        have hd := Option.some.inj hd
        exact ⟨_, by rw [e]; exact em, .inr (by rw [hd])⟩
      · exact ⟨_, by rw [upd_ne e]; exact hd, .inl rfl⟩
    have sameO : ∀ {H' : Hp}, Same (upd H dm (.frz od (.dK kvs))) H' → Same H (upd H' dm (.dK kvs)) := fun {H'} s b o e => by
      by_cases z : b = dm
      · rw [z, hdm] at e
        rw [z, upd_same]
        exact e
      · rw [upd_ne z]
        exact s _ _ (by rw [upd_ne z]; exact e)
    generalize upd H dm (.frz od (.dK kvs)) = Hz at ea em fz kz tz dd sameO ⊢
    refine ⟨_, rfl, a, CA, dx, _, _, rfl, ea, clA, nCA _ (by simp), rfl, dm, od, kvs, rfl, em, fun D nD => ?_⟩
    refine lc_it walk_items (fun i H' => Same Hz H' ∧ ∃ acc, H' D = some (.lst acc) ∧ VD (ModV K H') acc ((ms'.take i).filter (fun m => decide (m.1 ∈ ns)))) ⟨same_upd nD, [], upd_same, trivial⟩ (fun i H' _ ⟨s, _⟩ => s _ _ em) ?_ ?_
    · rintro i x H' H'' hi ⟨s2, acc, hD, hv⟩ ⟨T0, x0, y0, rfl, nT, rfl, hx0, hy0⟩
      obtain ⟨k, v, hkv2⟩ : ∃ k v, kvs[i]? = some (k, v) := ⟨kvs[i].1, kvs[i].2, List.getElem?_eq_getElem hi⟩
      dsimp only at hx0 hy0
      rw [hkv2] at hx0 hy0
      cases hx0
      cases hy0
      obtain ⟨m, hm, rfl, hmv⟩ := kz.at_ hkv2
      have sT : Same H' (upd H' T0 (.tup [kV (.inr m.1), v])) := same_upd nT
      have tT : upd H' T0 (.tup [kV (.inr m.1), v]) T0 = some (.tup [kV (.inr m.1), v]) := upd_same
      generalize upd H' T0 (.tup [kV (.inr m.1), v]) = H9 at sT tT ⊢
      have s9 := s2.trans sT
      have hrd : Rd H9 d (.dK (ns.map tk)) := by
        obtain ⟨o, g1, g2 | g2⟩ := dd
        · exact .inl (by rw [s9 _ _ g1, g2])
        · exact .inr ⟨od, by rw [s9 _ _ g1, g2]⟩
      have hvl := hv.len
      have hll := List.length_filter_le (fun m : Mo => decide (m.1 ∈ ns)) (ms'.take i)
      rw [List.length_take] at hll
      have e9 : (ms'.take (i + 1)).filter (fun m => decide (m.1 ∈ ns)) = (ms'.take i).filter (fun m => decide (m.1 ∈ ns)) ++ (if m.1 ∈ ns then [m] else []) := by
        rw [List.take_add_one, hm, List.filter_append]
        congr 1
        by_cases g : m.1 ∈ ns
        · rw [if_pos g]; simp [g]
        · rw [if_neg g]; simp [g]
      refine ⟨T0, _, rfl, .inl (.inl tT), rfl, _, _, rfl, _, _, rfl, rfl, rfl, ?_⟩
      refine ⟨_, rfl, _, rfl, d, _, rfl, .inl ⟨_, .inr m.1, hrd, rfl, rfl⟩, _, rfl, ?_⟩
      by_cases g : m.1 ∈ ns
      · rw [tk_some g]
        rw [if_pos g] at e9
        refine iteT' rfl ⟨_, rfl, acc, sT _ _ hD, Nat.lt_of_le_of_lt (by omega : acc.length ≤ 1000) (by decide), same_mut s9 nD, _, upd_same, ?_⟩
        rw [e9]
        have nDl : NoTup [D] H9 := nt_lst (sT _ _ hD)
        have fD : Fr [D] H9 (upd H9 D (.lst (acc ++ [v]))) := (Fr.refl H9).set (by simp)
        exact ((hv.mono fun _ _ => modV_ext (same_ext sT)).mono fun _ _ => modV_fr (FrN.of fD) nDl).app (modV_fr (FrN.of fD) nDl (modV_ext (same_ext s9) hmv))
      · rw [tk_no g]
        rw [if_neg g, List.append_nil] at e9
        refine iteF' rfl ⟨s9, acc, sT _ _ hD, ?_⟩
        rw [e9]
        exact hv.mono fun _ _ => modV_ext (same_ext sT)
    · rintro H' ⟨s2, acc, hD, hv⟩
      have hv : VD (ModV K H') acc (ms'.filter (fun m => decide (m.1 ∈ ns))) := by
        have e : ms'.take kvs.length = ms' := by
          rw [kz.len]
          exact List.take_length
        rw [e] at hv
        exact hv
      have m9 := s2 _ _ em
      refine ⟨m9, fun x dx2 nx ndx nxd => ?_⟩
      have sO := sameO s2
      have Dm : D ≠ dm := fun e => by rw [e, em] at nD; cases nD
      have nm : NoTup [dm] H' := fun b m xs k => by
        rcases List.mem_singleton.mp m with rfl
        rcases k with k | ⟨o, k⟩ <;> · rw [m9] at k; cases k
      have fm : Fr [dm] H' (upd H' dm (.dK kvs)) := (Fr.refl H').set (by simp)
      have t9 : Tabs T (upd H' dm (.dK kvs)) := tabs_set (tz.ext s2) m9 (fun _ z => by cases z) (fun _ z => by cases z)
      have hD9 : upd H' dm (.dK kvs) D = some (.lst acc) := by rw [upd_ne Dm]; exact hD
      have hv9 : VD (ModV K (upd H' dm (.dK kvs))) acc (ms'.filter (fun m => decide (m.1 ∈ ns))) := hv.mono fun _ _ => modV_fr (FrN.of fm) nm
      generalize upd H' dm (.dK kvs) = H9 at nx ndx sO t9 hD9 hv9 ⊢
      have sm := mk_same (C := CA) nx ndx
      refine ⟨x, dx2, D, acc, ms'.filter (fun m => decide (m.1 ∈ ns)), rfl, upd_same, SqL.of (sm _ _ hD9), hv9.mono fun _ _ => modV_ext (same_ext sm), ?_, ?_, t9.ext sm, fun H2 f2 t2 atF => ⟨rfl, ?_⟩⟩
      · exact ((List.filter_sublist).map _).nodup ((pm.map _).nodup_iff.mpr nd)
      · have := List.length_filter_le (fun m : Mo => decide (m.1 ∈ ns)) ms'
        omega
      · refine q x H2 (fun b o e n => ?_) t2 ?_
        · exact made_frn nx ndx f2 b o (sO b o e) n
        · have at2 := atF.to
          obtain ⟨a1, a2, a3, a4, a5, a6, a7, a8, a9, b1, b2, ms2, h1, h2, h3⟩ := at2
          exact ⟨a1, a2, a3, a4, a5, a6, a7, a8, a9, b1, b2, ms2, h1, h2.trans (pm.filter _), h3⟩
end
end Cw

set_option Elab.async false
set_option linter.all false
set_option maxRecDepth 100000
set_option maxHeartbeats 4000000
namespace Cw
open PySem PySem.Spec PyProof.Rows L2 LamX
def spPlace (K : PySem.W.Frag) (CA CE CP : Addr) : Sp := fun vs H Q _ => ∃ (a dx at_ l : Addr) (b : Bool) (ms : List Mo) (zs : List Str), vs = [.ref a, .ref at_, .ref l, .bl b] ∧ H a = some (.ins CP dx []) ∧ AtlasAt K CA CE H at_ ms ∧ H l = some (.lst (zs.map V.str)) ∧ zs.length ≤ 100 ∧ (∀ z, z ∈ zs → z = "base.Any" ∨ z = "base.Int") ∧
  ∀ H', Fr [a] H H' → Q .non H'
def spAny (K : PySem.W.Frag) (CA CE : Addr) : Sp := fun vs H Q _ => ∃ (a : Addr) (ms : List Mo), vs = [.ref a] ∧ AtlasAt K CA CE H a ms ∧ ∀ v H', Same H H' → Q v H'
def spOwn (K : PySem.W.Frag) (CA CE : Addr) : Sp := fun vs H Q _ => ∃ (a : Addr) (m : Str) (ms : List Mo), vs = [.ref a, .str m] ∧ AtlasAt K CA CE H a ms ∧ ∀ v H', Same H H' → Q v H'
def spBad (K : PySem.W.Frag) (CA CE : Addr) : Sp := fun vs H Q _ => ∃ (a : Addr) (m : Str) (ms : List Mo), vs = [.ref a, .str m] ∧ AtlasAt K CA CE H a ms ∧ ∀ H', Same H H' → Q .non H'
def spVP (K : PySem.W.Frag) (CA CE : Addr) (T : List (Addr × Str)) : Sp := fun vs H Q _ => ∃ (a : Addr) (x : Str) (ms : List Mo) (res : List Str) (n : Nat), vs = [.ref a, .str x] ∧ AtlasAt K CA CE H a ms ∧ (names ms).Nodup ∧ ("base" : Str) ∉ names ms ∧ ms.length ≤ 1000 ∧ Reach ms n [] [x] res ∧ n ≤ 9000 ∧ ("base" : Str) ∉ res ∧ res.length ≤ 6 ∧ Tabs T H ∧
  ∀ p H' ms2, ExtN H H' → Tabs T H' → AtlasAt K CA CE H' p ms2 → Q (.ref p) H'
def spRules (K : PySem.W.Frag) (CA CE : Addr) (T : List (Addr × Str)) : Sp := fun vs H Q _ => ∃ (a : Addr) (x : Str) (us : List Str) (ms : List Mo) (res : List Str) (n : Nat), vs = [.ref a, .str x] ∧ AtlasAt K CA CE H a ms ∧ (names ms).Nodup ∧ ("base" : Str) ∉ names ms ∧ ms.length ≤ 1000 ∧ (x, us) ∈ ms ∧ Reach ms n [] [x] res ∧ n ≤ 9000 ∧ ("base" : Str) ∉ res ∧ res.length ≤ 6 ∧ Tabs T H ∧
  ∀ H', ExtN H H' → Tabs T H' → Q .non H'
/-- what a loop asks once its walk has begun -/
def LG (J : It) (H : Hp) (g : TG) (tb : TS) (D : Ends) (σ : L2.St) : Prop := ∃ W : Nat → Nat → L2.St → Hp → Prop, (∃ m, W 0 m σ H) ∧ ∀ i m σ H, W i m σ H →
      (J.stop i H ∧ D.nx σ H) ∨ (J.go i H ∧ ∃ N : L2.St → Hp → Prop, (∀ σ' H', N σ' H' → ∃ m', m' < m ∧ W (i + 1) m' σ' H') ∧ ∀ x H', J.yld i H x H' → g x σ H' fun σ2 H2 => tb { D with nx := N, ct := N, bk := D.nx } σ2 H2)
theorem for_lg {wi : TI} {g : TG} {tb : TS} {D : Ends} {σ : L2.St} {H : Hp} (h : wi σ H fun J H1 => LG J H1 g tb D σ) : tFor wi g tb D σ H := h
theorem lg_it {J : It} {n : Nat} {G : Hp → Prop} {Y : Nat → Hp → V → Hp → Prop} (w : Walk J n G Y) {g : TG} {tb : TS} {D : Ends} {σ : L2.St} {H : Hp} (Pv : Nat → L2.St → Hp → Prop) (h0 : Pv 0 σ H) (hG : ∀ i σ H, i ≤ n → Pv i σ H → G H)
    (hs : ∀ i x σ H H', i < n → Pv i σ H → Y i H x H' → g x σ H' fun σ2 H2 => tb { D with nx := Pv (i + 1), ct := Pv (i + 1), bk := D.nx } σ2 H2) (hd : ∀ σ H, Pv n σ H → D.nx σ H) : LG J H g tb D σ := for_it w Pv h0 hG hs hd
section
variable {P : Program} {w : World} {K : PySem.W.Frag} {mg : Str → Option Value} {base : Heap} {CE CA CP CS : Addr} {T : List (Addr × Str)}
abbrev s_first_fault : Stmt := topS 88
theorem sc_first_fault : FnScope ["atlas", "name", "_", "classes", "generics", "methods", "scope", "parts", "broken_rule", "number", "rule"] ["atlas", "name"] (defScope s_first_fault) := ⟨rfl, rfl, rfl, by decide +kernel, rfl, by decide +kernel, by decide +kernel⟩
theorem ok_first_fault {f : Addr} {fd : FuncData} (F : Fun K "first_fault" "first_fault" s_first_fault f fd) {f_Scope_init : Addr} {d_Scope_init : FuncData} (K_Scope : CI K mg "Scope" ["self", "atlas", "known", "gives"] CS f_Scope_init d_Scope_init) {f_Atlas_init : Addr} {d_Atlas_init : FuncData} (K_Atlas : CI K mg "Atlas" ["self", "modules"] CA f_Atlas_init d_Atlas_init) {f_Atlas_view : Addr} {d_Atlas_view : FuncData} (M_Atlas_view : MI K CA "view" ["self", "module"] f_Atlas_view d_Atlas_view) (G_Scope_init : FnOk P w K mg base CX0 1 f_Scope_init d_Scope_init ["self", "atlas", "known", "gives"] (spScope K CS)) (G_Atlas_view : FnOk P w K mg base CX0 2 f_Atlas_view d_Atlas_view ["self", "module"] (spView K CA CE)) {f_class_fault : Addr} (g_class_fault : mg "class_fault" = some (.ref f_class_fault)) {f_generic_fault : Addr} (g_generic_fault : mg "generic_fault" = some (.ref f_generic_fault)) {f_method_fault : Addr} (g_method_fault : mg "method_fault" = some (.ref f_method_fault)) (m_range : mg "range" = none) (m_len : mg "len" = none) (nCA : NA K CA ["modules", "classes", "generics", "methods", "_uses", "_parents", "_aboves"]) : FnOk P w K mg base CX0 4 f fd ["atlas", "name"] (spFirst K CA CE) := by
  refine F.ok sc_first_fault (fun vs H Q E h => ?_) (fun cdv A outer s H vs Q E hr h => ?_)
  · obtain ⟨_, _, _, _, _, _, rfl, _⟩ := h
    rfl
  · obtain ⟨a, x, us, ms, res, n, rfl, hat, nd, hx, rc, hn, nb, q⟩ := h
    have clA := K_Atlas.cl
    obtain ⟨dm, dc, dg, dt, du, dp, da, kvs, uvs, v1, v2, ms', ⟨dx, ha⟩, pm, hdm, hkv, hrest⟩ := id hat
    obtain ⟨v, ev, hv⟩ := hkv.get (m := (x, us)) (pm.mem_iff.mpr hx) ((pm.map _).nodup_iff.mpr nd)
    obtain ⟨t, tu, tc, tg, tm, rfl, h1, h2, h3, h4, h5⟩ := hv
    have hget : DGet H dm (kV (.inr x)) (some (.ref t)) := by
      have h := DGet.k (k := .inr x) hdm
      rw [ev] at h
      exact h
    refine ⟨_, (pss_cons (ps_asg (pe_dget (hu_of hr) (pe_fld (pv 0) rfl) (pv 1) (fun _ _ => rfl)) (pg_tup (n := 5) (by rfl) (pgs_cons (pg_name (i := 2) sc_first_fault.nd rfl (.inl rfl)) (pgs_cons (pg_name (i := 2) sc_first_fault.nd rfl (.inl rfl)) (pgs_cons (pg_name (i := 3) sc_first_fault.nd rfl (.inl rfl)) (pgs_cons (pg_name (i := 4) sc_first_fault.nd rfl (.inl rfl)) (pgs_cons (pg_name (i := 5) sc_first_fault.nd rfl (.inl rfl)) pgs_nil)))))))
  (pss_cons (ps_set (i := 6) sc_first_fault.nd rfl (.inl rfl) (pe_make K_Scope.m G_Scope_init (hr.mono (by decide)) rfl K_Scope.g K_Scope.b .nil pass0 (pa_cons (pv 0) (pa_cons (pe_meth (pv 0) K_Atlas.cl M_Atlas_view.m G_Atlas_view (hr.mono (by decide)) M_Atlas_view.b .nil pass0 (pa_cons (pv 1) pa_nil)) (pa_cons pe_non pa_nil)))))
  (pss_cons (ps_for PassesOwn.never rfl (pi_tup (pe_tup (pa_cons (pe_tup (pa_cons (pv 3) (pa_cons (pe_glob (v := .ref f_class_fault) rfl g_class_fault rfl) pa_nil))) (pa_cons (pe_tup (pa_cons (pv 4) (pa_cons (pe_glob (v := .ref f_generic_fault) rfl g_generic_fault rfl) pa_nil))) (pa_cons (pe_tup (pa_cons (pv 5) (pa_cons (pe_glob (v := .ref f_method_fault) rfl g_method_fault rfl) pa_nil))) pa_nil))))) (pg_tup (n := 2) (by rfl) (pgs_cons (pg_name (i := 7) sc_first_fault.nd rfl (.inl rfl)) (pgs_cons (pg_name (i := 8) sc_first_fault.nd rfl (.inl rfl)) pgs_nil))) (pss_one (ps_for PassesOwn.never rfl (pi_range1 rfl m_range (pa_cons (pe_callB call_len_seq (by rfl) m_len PySem.boot_len (pa_cons (pv 7) pa_nil)) pa_nil)) (pg_name (i := 9) sc_first_fault.nd rfl (.inl rfl)) pss_dead)))
  (pss_one (ps_ret pe_non))))), ?_⟩
    refine seqA (asgA ⟨_, rfl, a, CA, dx, _, _, rfl, ha, clA, nCA _ (by simp), rfl, _, rfl, dm, _, rfl, hget, t, _, rfl, h1, rfl, _, _, rfl, nameA ⟨_, _, rfl, nameA ⟨_, _, rfl, nameA ⟨_, _, rfl, nameA ⟨_, _, rfl, nameA ⟨rfl, ?_⟩⟩⟩⟩⟩⟩)
    dsimp only
    refine seqA (asgA ⟨_, rfl, _, rfl, a, dx, _, rfl, ha, rfl, _, rfl, a, x, ms, res, n, rfl, hat, nd, rc, hn, nb, fun p H1 s1 np e1 => fun y dy ny ndy nyd => ⟨y, dy, .ref a, .ref p, .non, rfl, upd_same, fun H2 f2 => ⟨rfl, nameA ?_⟩⟩⟩)
    dsimp only
    have s2 : Same H H2 := s1.trans (made_same ny ndy f2)
    refine seqA (for_lg ⟨_, rfl, (by show 2 ≤ sizeLine; decide), fun q1 n1 => ⟨_, rfl, (by show 2 ≤ sizeLine; decide), fun q2 n2 => ⟨_, rfl, (by show 2 ≤ sizeLine; decide), fun q3 n3 => ⟨(by show 3 ≤ sizeLine; decide), fun q4 n4 => ⟨q4, rfl, ?_⟩⟩⟩⟩⟩)
    have z1 := same_upd (o := .tup [.ref tc, .ref f_class_fault]) n1
    have w1 : upd H2 q1 (.tup [.ref tc, .ref f_class_fault]) q1 = some (.tup [.ref tc, .ref f_class_fault]) := upd_same
    generalize upd H2 q1 (.tup [.ref tc, .ref f_class_fault]) = H3 at n2 n3 n4 z1 w1 ⊢
    have z2 := same_upd (o := .tup [.ref tg, .ref f_generic_fault]) n2
    have w2 : upd H3 q2 (.tup [.ref tg, .ref f_generic_fault]) q2 = some (.tup [.ref tg, .ref f_generic_fault]) := upd_same
    generalize upd H3 q2 (.tup [.ref tg, .ref f_generic_fault]) = H4 at n3 n4 z2 w2 ⊢
    have z3 := same_upd (o := .tup [.ref tm, .ref f_method_fault]) n3
    have w3 : upd H4 q3 (.tup [.ref tm, .ref f_method_fault]) q3 = some (.tup [.ref tm, .ref f_method_fault]) := upd_same
    generalize upd H4 q3 (.tup [.ref tm, .ref f_method_fault]) = H5 at n4 z3 w3 ⊢
    have z4 := same_upd (o := .tup [.ref q1, .ref q2, .ref q3]) n4
    have w4 : upd H5 q4 (.tup [.ref q1, .ref q2, .ref q3]) q4 = some (.tup [.ref q1, .ref q2, .ref q3]) := upd_same
    generalize upd H5 q4 (.tup [.ref q1, .ref q2, .ref q3]) = H6 at z4 w4 ⊢
    have s6 : Same H H6 := (((s2.trans z1).trans z2).trans z3).trans z4
    refine ⟨⟨_, .inl (.inl w4)⟩, lg_it (walk_tup (xs := [.ref q1, .ref q2, .ref q3])) (fun i σ H' => H' = H6 ∧ ∃ c2 c3 c4 c5 c6 c7 c8 c9 c10, σ = [some (.ref a), some (.str x), c2, c3, c4, c5, c6, c7, c8, c9, c10]) ⟨rfl, _, _, _, _, _, _, _, _, _, rfl⟩ (fun i σ H' _ ⟨e, _⟩ => by rw [e]; exact .inl (.inl w4)) ?_ ?_⟩
    · rintro i y σ H' H'' hi ⟨rfl, c2, c3, c4, c5, c6, c7, c8, c9, c10, rfl⟩ ⟨rfl, hy⟩
      obtain ⟨qi, ti, fi, rfl, g1, g2⟩ : ∃ (qi ti : Addr) (fi : V), y = .ref qi ∧ H'' qi = some (.tup [.ref ti, fi]) ∧ SqT K H'' ti [] := by
        match i, hy with
        | 0, hy =>
          have hy : y = .ref q1 := by simpa using hy.symm
          exact ⟨q1, tc, _, hy, z4 _ _ (z3 _ _ (z2 _ _ w1)), sqt_keep s6 h3⟩
        | 1, hy =>
          have hy : y = .ref q2 := by simpa using hy.symm
          exact ⟨q2, tg, _, hy, z4 _ _ (z3 _ _ w2), sqt_keep s6 h4⟩
        | 2, hy =>
          have hy : y = .ref q3 := by simpa using hy.symm
          exact ⟨q3, tm, _, hy, z4 _ _ w3, sqt_keep s6 h5⟩
        | i + 3, hy => simp at hy
      refine ⟨qi, _, rfl, .inl (.inl g1), rfl, _, _, rfl, nameA ⟨_, _, rfl, nameA ⟨rfl, ?_⟩⟩⟩
      dsimp only
      refine for_lg ⟨_, rfl, ti, _, rfl, .inr g2, 0, rfl, by decide, by decide, lg_it (walk_range (n := 0)) (fun i σ' H' => H' = H'' ∧ ∃ c2 c3 c4 c5 c6 c7 c8 c9 c10, σ' = [some (.ref a), some (.str x), c2, c3, c4, c5, c6, c7, c8, c9, c10]) ⟨rfl, _, _, _, _, _, _, _, _, _, rfl⟩ (fun _ _ _ _ _ => trivial) (fun i _ _ _ _ hi => absurd hi (Nat.not_lt_zero i)) (fun σ' H' p => p)⟩
    · rintro σ H' ⟨rfl, _, _, _, _, _, _, _, _, _, rfl⟩
      exact q _ s6
end
end Cw

set_option Elab.async false
set_option linter.all false
set_option maxRecDepth 100000
set_option maxHeartbeats 4000000
namespace Cw
open PySem PySem.Spec PyProof.Rows L2 LamX
/-- the classes as the atlas at a tells them, looked up -/
theorem cls_get {K : PySem.W.Frag} {CA CE : Addr} {H : Hp} {a : Addr} {ms : List Mo} (h : AtlasAt K CA CE H a ms) : ∃ dx dm dc dg dt du dp da kvs, H a = some (.ins CA dx (atlasF dm dc dg dt du dp da)) ∧ H dc = some (.dK kvs) ∧ kvs.map (fun kv => kV kv.1) = [.str "base.Any", .str "base.Int"] ∧ H dg = some (.dK []) ∧
    ∀ z : Str, (z = "base.Any" ∨ z = "base.Int") → ∃ c dxc tp df nm op ab, valV kvs (.inr z) = some (.ref c) ∧ H c = some (.ins CE dxc (entryF nm "base" op ab tp df)) := by
  obtain ⟨dm, dc, dg, dt, du, dp, da, kvs, uvs, v1, v2, ms', ⟨dx, ha⟩, pm, hdm, hkv, hdu, huv, hdc, ⟨c1, p1, d1, e1, ⟨x1, g1⟩⟩, ⟨c2, p2, d2, e2, ⟨x2, g2⟩⟩, hdg⟩ := h
  subst e1
  subst e2
  refine ⟨dx, dm, dc, dg, dt, du, dp, da, _, ha, hdc, rfl, hdg, fun z hz => ?_⟩
  rcases hz with rfl | rfl
  · exact ⟨c1, x1, p1, d1, _, _, _, by kernel_rfl, g1⟩
  · exact ⟨c2, x2, p2, d2, _, _, _, by kernel_rfl, g2⟩
theorem dget_of {H : Hp} {d : Addr} {kvs : List (Key × V)} {k : Key} {v : V} (h : H d = some (.dK kvs)) (e : valV kvs k = some v) : DGet H d (kV k) (some v) := by
  rw [← e]
  exact DGet.k h
theorem atlas_fr {K : PySem.W.Frag} {CA CE CP : Addr} {H H' : Hp} {a x dx : Addr} {fs : Fs} {ms : List Mo} (f : Fr [x] H H') (hx : H x = some (.ins CP dx fs)) (n1 : CP ≠ CA) (n2 : CP ≠ CE) (h : AtlasAt K CA CE H a ms) : AtlasAt K CA CE H' a ms := by
  have nt := ins_nt' hx
  have ne : ∀ {b : Addr} {o : HO}, H b = some o → (∀ dx fs, o ≠ .ins CP dx fs) → H' b = some o := fun {b o} e k => f _ _ (fun m => by
    rw [List.mem_singleton.mp m, hx] at e
    exact k _ _ (Option.some.inj e).symm) e
  obtain ⟨dm, dc, dg, dt, du, dp, da, kvs, uvs, v1, v2, ms', ⟨dxa, ha⟩, pm, hdm, hkv, hdu, huv, hdc, ⟨c1, p1, d1, e1, ⟨x1, g1⟩⟩, ⟨c2, p2, d2, e2, ⟨x2, g2⟩⟩, hdg⟩ := h
  have k0 : ∀ kv dx fs, HO.dK kv ≠ .ins CP dx fs := fun _ _ _ z => by cases z
  exact ⟨dm, dc, dg, dt, du, dp, da, kvs, uvs, v1, v2, ms', ⟨dxa, ne ha (fun _ _ z => by injection z with z1; exact n1 z1.symm)⟩, pm, ne hdm (k0 _), hkv.mono fun _ _ => modV_fr (FrN.of f) nt, ne hdu (k0 _), huv.mono fun _ _ ⟨tu, z1, z2⟩ => ⟨tu, z1, sqt_fr f nt z2⟩, ne hdc (k0 _),
    ⟨c1, p1, d1, e1, x1, ne g1 (fun _ _ z => by injection z with z1; exact n2 z1.symm)⟩, ⟨c2, p2, d2, e2, x2, ne g2 (fun _ _ z => by injection z with z1; exact n2 z1.symm)⟩, ne hdg (k0 _)⟩
section
variable {P : Program} {w : World} {K : PySem.W.Frag} {mg : Str → Option Value} {base : Heap} {CE CA CP CS : Addr} {T : List (Addr × Str)}
abbrev s_Place_init : Stmt := inClass (topS 63) 0
theorem sc_Place_init : FnScope ["self", "atlas", "names", "takes_strange", "one"] ["self", "atlas", "names", "takes_strange"] (defScope s_Place_init) := ⟨rfl, rfl, rfl, by decide +kernel, rfl, by decide +kernel, by decide +kernel⟩
theorem ok_Place_init {f : Addr} {fd : FuncData} (F : Fun K "__init__" "Place.__init__" s_Place_init f fd) (clP : Cls K CP) (nCP : NA K CP ["concrete", "extended"]) (clA : Cls K CA) (nCA : NA K CA ["modules", "classes", "generics", "methods", "_uses", "_parents", "_aboves"]) (clE : Cls K CE) (nCE : NA K CE ["name", "module", "is_open", "is_abstract", "parents", "fields"]) (nPA : CP ≠ CA) (nPE : CP ≠ CE) : FnOk P w K mg base CX0 1 f fd ["self", "atlas", "names", "takes_strange"] (spPlace K CA CE CP) := by
  refine F.ok sc_Place_init (fun vs H Q E h => ?_) (fun cdv A outer s H vs Q E hr h => ?_)
  · obtain ⟨_, _, _, _, _, _, _, rfl, _⟩ := h
    rfl
  · obtain ⟨a, dx, at_, l, b, ms, zs, rfl, ha, hat, hl, hlz, hzs, q⟩ := h
    refine ⟨_, (pss_cons (ps_fld (pv 0) (pe_lc (own := [("one", 4)]) rfl sc_Place_init.nd (pi_list (pv 2)) (blkOk_by (N := ["self", "atlas", "names", "takes_strange", "one"]) (sc := defScope s_Place_init) (by decide +kernel)) (fun _ _ _ _ _ => by exact (pg_name (i := 4) sc_Place_init.nd rfl (.inl rfl))) (fun _ _ _ _ _ => by exact pts_one (pt_not (pt_val (pe_fldK K rfl (pe_dget (hu_of hr) (pe_fldK K rfl (pv 1) rfl) (pv 4) (fun _ _ => rfl)) rfl)))) (fun _ _ _ _ _ => by exact (pv 4))) rfl)
  (pss_one (ps_fld (pv 0) (pe_lc (own := [("one", 4)]) rfl sc_Place_init.nd (pi_list (pv 2)) (blkOk_by (N := ["self", "atlas", "names", "takes_strange", "one"]) (sc := defScope s_Place_init) (by decide +kernel)) (fun _ _ _ _ _ => by exact (pg_name (i := 4) sc_Place_init.nd rfl (.inl rfl))) (fun _ _ _ _ _ => by exact pts_one (PW.pt (pw_and (pt_val (pv 3)) (pw_and1 (pt_val (pe_fldK K rfl (pe_dget (hu_of hr) (pe_fldK K rfl (pv 1) rfl) (pv 4) (fun _ _ => rfl)) rfl)))))) (fun _ _ _ _ _ => by exact (pv 4))) rfl))), ?_⟩
    refine seqA ⟨_, rfl, l, rfl, ⟨_, SqL.of hl⟩, fun D nD => ?_⟩
    obtain ⟨dxa, dm, dc, dg, dt, du, dp, da, kvs, hAt, hdc, _, _, hcl⟩ := cls_get hat
    refine lc_it (walk_list (K := K) (a := l) (xs := zs.map V.str)) (fun i H' => Same H H' ∧ ∃ acc, H' D = some (.lst acc) ∧ acc.length ≤ i) ⟨same_upd nD, [], upd_same, Nat.le_refl _⟩ (fun i H' _ ⟨s, _⟩ => SqL.of (s _ _ hl)) ?_ ?_
    · rintro i x H9 H'' hi ⟨s2, acc, hD, hl2⟩ ⟨rfl, hx⟩
      obtain ⟨z, hz, rfl⟩ : ∃ z, z ∈ zs ∧ x = .str z := by
        rw [List.getElem?_map] at hx
        cases e : zs[i]? with
        | none => rw [e] at hx; cases hx
        | some z => rw [e] at hx; exact ⟨z, List.mem_of_getElem? e, (Option.some.inj hx).symm⟩
      obtain ⟨c, dxc, tp, df, nm, op, ab, ev, hc⟩ := hcl z (hzs z hz)
      refine ⟨rfl, ?_⟩
      refine ⟨_, rfl, at_, CA, dxa, _, _, rfl, s2 _ _ hAt, clA, nCA _ (by simp), rfl, _, rfl, dc, _, rfl, dget_of (s2 _ _ hdc) ev, c, CE, dxc, _, _, rfl, s2 _ _ hc, clE, nCE _ (by simp), rfl, _, rfl, ?_⟩
      have hlt : acc.length < sizeLine := Nat.lt_of_le_of_lt (by rw [List.length_map] at hi; omega : acc.length ≤ 100) (by decide)
      exact ite2 (fun _ => ⟨_, rfl, acc, hD, hlt, same_mut s2 nD, _, upd_same, by rw [List.length_append]; show acc.length + 1 ≤ i + 1; omega⟩) (fun _ => ⟨s2, acc, hD, by omega⟩)
    rintro H' ⟨s1, _⟩
    refine ⟨_, rfl, a, CP, dx, _, rfl, s1 _ _ ha, clP, nCP _ (by simp), Nat.le_of_ble_eq_true rfl, ?_⟩
    dsimp only
    obtain ⟨H1, eH1, g1, e1⟩ := fld_next (a := a) ((Fr.of s1 : Fr [a] H H')) (C := CP) (dx := dx) (fs' := [("concrete", .ref D)]) (f := "concrete") (y := .ref D) (fs := []) rfl
    rw [eH1]
    have hat1 : AtlasAt K CA CE H1 at_ ms := atlas_fr g1 ha nPA nPE hat
    have la : l ≠ a := fun e => by rw [e, ha] at hl; cases hl
    have hl1 : H1 l = some (.lst (zs.map V.str)) := g1 _ _ (fun m => la (List.mem_singleton.mp m)) hl
    refine ⟨_, rfl, l, rfl, ⟨_, SqL.of hl1⟩, fun D nD => ?_⟩
    obtain ⟨dxa, dm, dc, dg, dt, du, dp, da, kvs, hAt, hdc, _, _, hcl⟩ := cls_get hat1
    refine lc_it (walk_list (K := K) (a := l) (xs := zs.map V.str)) (fun i H' => Same H1 H' ∧ ∃ acc, H' D = some (.lst acc) ∧ acc.length ≤ i) ⟨same_upd nD, [], upd_same, Nat.le_refl _⟩ (fun i H' _ ⟨s, _⟩ => SqL.of (s _ _ hl1)) ?_ ?_
    · rintro i x H9 H'' hi ⟨s2, acc, hD, hl2⟩ ⟨rfl, hx⟩
      obtain ⟨z, hz, rfl⟩ : ∃ z, z ∈ zs ∧ x = .str z := by
        rw [List.getElem?_map] at hx
        cases e : zs[i]? with
        | none => rw [e] at hx; cases hx
        | some z => rw [e] at hx; exact ⟨z, List.mem_of_getElem? e, (Option.some.inj hx).symm⟩
      obtain ⟨c, dxc, tp, df, nm, op, ab, ev, hc⟩ := hcl z (hzs z hz)
      refine ⟨rfl, ?_⟩
      have hlt : acc.length < sizeLine := Nat.lt_of_le_of_lt (by rw [List.length_map] at hi; omega : acc.length ≤ 100) (by decide)
      refine ⟨_, rfl, b, rfl, ?_⟩
      cases b with
      | false => exact ⟨s2, acc, hD, by omega⟩
      | true =>
        refine ⟨_, rfl, at_, CA, dxa, _, _, rfl, s2 _ _ hAt, clA, nCA _ (by simp), rfl, _, rfl, dc, _, rfl, dget_of (s2 _ _ hdc) ev, c, CE, dxc, _, _, rfl, s2 _ _ hc, clE, nCE _ (by simp), rfl, _, rfl, ?_⟩
        exact ite2 (fun _ => ⟨_, rfl, acc, hD, hlt, same_mut s2 nD, _, upd_same, by rw [List.length_append]; show acc.length + 1 ≤ i + 1; omega⟩) (fun _ => ⟨s2, acc, hD, by omega⟩)
    rintro H2 ⟨s2, _⟩
    exact ⟨_, rfl, a, CP, dx, _, rfl, s2 _ _ e1, clP, nCP _ (by simp), Nat.le_of_ble_eq_true rfl, q _ ((g1.trans (Fr.of s2)).set (by simp))⟩
abbrev s_any_place : Stmt := topS 64
theorem sc_any_place : FnScope ["atlas"] ["atlas"] (defScope s_any_place) := ⟨rfl, rfl, rfl, by decide +kernel, rfl, by decide +kernel, by decide +kernel⟩
theorem ok_any_place {f : Addr} {fd : FuncData} (F : Fun K "any_place" "any_place" s_any_place f fd) {f_Place_init : Addr} {d_Place_init : FuncData} (K_Place : CI K mg "Place" ["self", "atlas", "names", "takes_strange"] CP f_Place_init d_Place_init) (G_Place_init : FnOk P w K mg base CX0 1 f_Place_init d_Place_init ["self", "atlas", "names", "takes_strange"] (spPlace K CA CE CP)) (m_list : mg "list" = none) (clA : Cls K CA) (nCA : NA K CA ["modules", "classes", "generics", "methods", "_uses", "_parents", "_aboves"]) : FnOk P w K mg base CX0 3 f fd ["atlas"] (spAny K CA CE) := by
  refine F.ok sc_any_place (fun vs H Q E h => ?_) (fun cdv A outer s H vs Q E hr h => ?_)
  · obtain ⟨_, _, rfl, _⟩ := h
    rfl
  · obtain ⟨a, ms, rfl, hat, q⟩ := h
    obtain ⟨dxa, dm, dc, dg, dt, du, dp, da, kvs, hAt, hdc, hks, _, hcl⟩ := cls_get hat
    refine ⟨_, (pss_one (ps_ret (pe_make K_Place.m G_Place_init (hr.mono (by decide)) rfl K_Place.g K_Place.b .nil pass0 (pa_cons (pv 0) (pa_cons (pe_callTy (call_list_dK rfl) (by rfl) m_list (by decide +kernel) (pa_cons (pe_fld (pv 0) rfl) pa_nil)) (pa_cons pe_bl pa_nil)))))), ?_⟩
    refine retA ⟨_, rfl, _, rfl, a, CA, dxa, _, _, rfl, hAt, clA, nCA _ (by simp), rfl, dc, kvs, rfl, hdc, fun l nl => ?_⟩
    have s1 : Same H (upd H l (.lst (kvs.map fun kv => kV kv.1))) := same_upd nl
    have e1 : upd H l (.lst (kvs.map fun kv => kV kv.1)) l = some (.lst ((["base.Any", "base.Int"] : List Str).map V.str)) := by rw [upd_same, hks]; rfl
    generalize upd H l (.lst (kvs.map fun kv => kV kv.1)) = H1 at s1 e1 ⊢
    exact fun y dy ny ndy nyd => ⟨y, dy, a, l, true, ms, ["base.Any", "base.Int"], rfl, upd_same, atlas_ext (same_ext (s1.trans (mk_same ny ndy))) hat, mk_same ny ndy _ _ e1, by decide, fun z hz => by simpa using hz, fun H2 f2 => ⟨rfl, q _ _ (s1.trans (made_same ny ndy f2))⟩⟩
abbrev s_own_place : Stmt := topS 65
theorem sc_own_place : FnScope ["atlas", "module", "names", "one"] ["atlas", "module"] (defScope s_own_place) := ⟨rfl, rfl, rfl, by decide +kernel, rfl, by decide +kernel, by decide +kernel⟩
theorem ok_own_place {f : Addr} {fd : FuncData} (F : Fun K "own_place" "own_place" s_own_place f fd) {f_Place_init : Addr} {d_Place_init : FuncData} (K_Place : CI K mg "Place" ["self", "atlas", "names", "takes_strange"] CP f_Place_init d_Place_init) (G_Place_init : FnOk P w K mg base CX0 1 f_Place_init d_Place_init ["self", "atlas", "names", "takes_strange"] (spPlace K CA CE CP)) (clA : Cls K CA) (nCA : NA K CA ["modules", "classes", "generics", "methods", "_uses", "_parents", "_aboves"]) (clE : Cls K CE) (nCE : NA K CE ["name", "module", "is_open", "is_abstract", "parents", "fields"]) : FnOk P w K mg base CX0 3 f fd ["atlas", "module"] (spOwn K CA CE) := by
  refine F.ok sc_own_place (fun vs H Q E h => ?_) (fun cdv A outer s H vs Q E hr h => ?_)
  · obtain ⟨_, _, _, rfl, _⟩ := h
    rfl
  · obtain ⟨a, m, ms, rfl, hat, q⟩ := h
    obtain ⟨dxa, dm, dc, dg, dt, du, dp, da, kvs, hAt, hdc, hks, _, hcl⟩ := cls_get hat
    have adc : a ≠ dc := fun e => by rw [e, hdc] at hAt; cases hAt
    refine ⟨_, (pss_cons (ps_lock (ps_setLc (i := 2) (own := [("one", 3)]) rfl sc_own_place.nd rfl rfl (sw_true rfl rfl rfl (by decide +kernel)) (pi_keys (pe_fld (pv 0) rfl)) (blkOk_by (N := ["atlas", "module", "names", "one"]) (sc := defScope s_own_place) (by decide +kernel)) (fun _ _ _ _ _ => by exact (pg_name (i := 3) sc_own_place.nd rfl (.inl rfl))) (fun _ _ _ _ _ => by exact pts_one (pt_cmpR op_eq (pe_fldK K rfl (pe_dget (hu_of hr) (pe_fldK K rfl (pv 0) rfl) (pv 3) (fun _ _ => rfl)) rfl) (pv 1) (nomark _))) (fun _ _ _ _ _ => by exact (pv 3))))
  (pss_one (ps_ret (pe_make K_Place.m G_Place_init (hr.mono (by decide)) rfl K_Place.g K_Place.b .nil pass0 (pa_cons (pv 0) (pa_cons (pv 2) (pa_cons pe_bl pa_nil))))))), ?_⟩
    refine seqA ⟨dc, _, hdc, trivial, fun od => ?_⟩
    have ea : upd H dc (.frz od (.dK kvs)) a = some (.ins CA dxa (atlasF dm dc dg dt du dp da)) := by rw [upd_ne adc]; exact hAt
    have ed : upd H dc (.frz od (.dK kvs)) dc = some (.frz od (.dK kvs)) := upd_same
    have hcz : ∀ z : Str, (z = "base.Any" ∨ z = "base.Int") → ∃ c dxc tp df nm op ab, valV kvs (.inr z) = some (.ref c) ∧ upd H dc (.frz od (.dK kvs)) c = some (.ins CE dxc (entryF nm "base" op ab tp df)) := fun z hz => by
      obtain ⟨c, dxc, tp, df, nm, op, ab, e1, e2⟩ := hcl z hz
      exact ⟨c, dxc, tp, df, nm, op, ab, e1, by rw [upd_ne (fun e => by rw [e, hdc] at e2; cases e2)]; exact e2⟩
    have sameO : ∀ {H' : Hp}, Same (upd H dc (.frz od (.dK kvs))) H' → Same H (upd H' dc (.dK kvs)) := fun {H'} s b o e => by
      by_cases z : b = dc
      · rw [z, hdc] at e
        rw [z, upd_same]
        exact e
      · rw [upd_ne z]
        exact s _ _ (by rw [upd_ne z]; exact e)
    generalize upd H dc (.frz od (.dK kvs)) = Hz at ea ed hcz sameO ⊢
    refine ⟨_, rfl, a, CA, dxa, _, _, rfl, ea, clA, nCA _ (by simp), rfl, dc, od, rfl, .inl ⟨kvs, ed, fun D nD => ?_⟩⟩
    refine lc_it walk_keys (fun i H' => Same Hz H' ∧ ∃ zs : List Str, H' D = some (.lst (zs.map V.str)) ∧ zs.length ≤ i ∧ ∀ z, z ∈ zs → z = "base.Any" ∨ z = "base.Int") ⟨same_upd nD, [], upd_same, Nat.le_refl _, fun z hz => by cases hz⟩ (fun i H' _ ⟨s, _⟩ => s _ _ ed) ?_ ?_
    · rintro i x H9 H'' hi ⟨s2, zs, hD, hl2, hzs⟩ ⟨rfl, k, v, hkv, rfl⟩
      obtain ⟨z, hz, rfl⟩ : ∃ z : Str, (z = "base.Any" ∨ z = "base.Int") ∧ k = .inr z := by
        have h : (kvs.map (fun kv => kV kv.1))[i]? = some (kV k) := by rw [List.getElem?_map, hkv]; rfl
        rw [hks] at h
        match i, h with
        | 0, h =>
          have h : kV k = .str "base.Any" := by simpa using h.symm
          exact ⟨"base.Any", .inl rfl, by cases k with | inl n => cases h | inr y => exact congrArg Sum.inr (V.str.inj h)⟩
        | 1, h =>
          have h : kV k = .str "base.Int" := by simpa using h.symm
          exact ⟨"base.Int", .inr rfl, by cases k with | inl n => cases h | inr y => exact congrArg Sum.inr (V.str.inj h)⟩
        | i + 2, h => simp at h
      obtain ⟨c, dxc, tp, df, nm, op, ab, ev, hc⟩ := hcz z hz
      have hkl : kvs.length = 2 := by
        have h := congrArg List.length hks
        rw [List.length_map] at h
        exact h
      have hlt : (zs.map V.str).length < sizeLine := Nat.lt_of_le_of_lt (by rw [List.length_map]; omega : (zs.map V.str).length ≤ 100) (by decide)
      refine ⟨rfl, ?_⟩
      refine ⟨_, rfl, a, CA, dxa, _, _, rfl, s2 _ _ ea, clA, nCA _ (by simp), rfl, _, rfl, dc, _, rfl, .inl ⟨kvs, .inr z, .inr ⟨od, s2 _ _ ed⟩, rfl, ev.symm⟩, c, CE, dxc, _, _, rfl, s2 _ _ hc, clE, nCE _ (by simp), rfl, _, rfl, rfl, _, rfl, ?_⟩
      refine ite2 (fun _ => ⟨_, rfl, _, hD, hlt, same_mut s2 nD, zs ++ [z], by rw [upd_same, List.map_append]; rfl, by rw [List.length_append]; show zs.length + 1 ≤ i + 1; omega, fun y hy => ?_⟩) (fun _ => ⟨s2, zs, hD, by omega, hzs⟩)
      rcases List.mem_append.mp hy with h | h
      · exact hzs y h
      · rw [List.mem_singleton.mp h]; exact hz
    · rintro H' ⟨s2, zs, hD, hl2, hzs⟩
      have hkl : kvs.length = 2 := by
        have h := congrArg List.length hks
        rw [List.length_map] at h
        exact h
      have Dc : D ≠ dc := fun e => by rw [e, ed] at nD; cases nD
      refine ⟨s2 _ _ ed, ?_⟩
      dsimp only
      have sO := sameO s2
      have hD9 : upd H' dc (.dK kvs) D = some (.lst (zs.map V.str)) := by rw [upd_ne Dc]; exact hD
      generalize upd H' dc (.dK kvs) = H9 at sO hD9 ⊢
      refine retA ⟨_, rfl, _, rfl, fun y dy ny ndy nyd => ⟨y, dy, a, D, false, ms, zs, rfl, upd_same, atlas_ext (same_ext (sO.trans (mk_same ny ndy))) hat, mk_same ny ndy _ _ hD9, by omega, hzs, fun H2 f2 => ⟨rfl, q _ _ (sO.trans (made_same ny ndy f2))⟩⟩⟩
abbrev s_other_place : Stmt := topS 66
theorem sc_other_place : FnScope ["atlas", "module", "names", "one"] ["atlas", "module"] (defScope s_other_place) := ⟨rfl, rfl, rfl, by decide +kernel, rfl, by decide +kernel, by decide +kernel⟩
theorem ok_other_place {f : Addr} {fd : FuncData} (F : Fun K "other_place" "other_place" s_other_place f fd) {f_Place_init : Addr} {d_Place_init : FuncData} (K_Place : CI K mg "Place" ["self", "atlas", "names", "takes_strange"] CP f_Place_init d_Place_init) (G_Place_init : FnOk P w K mg base CX0 1 f_Place_init d_Place_init ["self", "atlas", "names", "takes_strange"] (spPlace K CA CE CP)) (clA : Cls K CA) (nCA : NA K CA ["modules", "classes", "generics", "methods", "_uses", "_parents", "_aboves"]) (clE : Cls K CE) (nCE : NA K CE ["name", "module", "is_open", "is_abstract", "parents", "fields"]) : FnOk P w K mg base CX0 3 f fd ["atlas", "module"] (spOwn K CA CE) := by
  refine F.ok sc_other_place (fun vs H Q E h => ?_) (fun cdv A outer s H vs Q E hr h => ?_)
  · obtain ⟨_, _, _, rfl, _⟩ := h
    rfl
  · obtain ⟨a, m, ms, rfl, hat, q⟩ := h
    obtain ⟨dxa, dm, dc, dg, dt, du, dp, da, kvs, hAt, hdc, hks, _, hcl⟩ := cls_get hat
    have adc : a ≠ dc := fun e => by rw [e, hdc] at hAt; cases hAt
    refine ⟨_, (pss_cons (ps_lock (ps_setLc (i := 2) (own := [("one", 3)]) rfl sc_other_place.nd rfl rfl (sw_true rfl rfl rfl (by decide +kernel)) (pi_keys (pe_fld (pv 0) rfl)) (blkOk_by (N := ["atlas", "module", "names", "one"]) (sc := defScope s_other_place) (by decide +kernel)) (fun _ _ _ _ _ => by exact (pg_name (i := 3) sc_other_place.nd rfl (.inl rfl))) (fun _ _ _ _ _ => by exact pts_one (pt_cmpR op_ne (pe_fldK K rfl (pe_dget (hu_of hr) (pe_fldK K rfl (pv 0) rfl) (pv 3) (fun _ _ => rfl)) rfl) (pv 1) (nomark _))) (fun _ _ _ _ _ => by exact (pv 3))))
  (pss_one (ps_ret (pe_make K_Place.m G_Place_init (hr.mono (by decide)) rfl K_Place.g K_Place.b .nil pass0 (pa_cons (pv 0) (pa_cons (pv 2) (pa_cons pe_bl pa_nil))))))), ?_⟩
    refine seqA ⟨dc, _, hdc, trivial, fun od => ?_⟩
    have ea : upd H dc (.frz od (.dK kvs)) a = some (.ins CA dxa (atlasF dm dc dg dt du dp da)) := by rw [upd_ne adc]; exact hAt
    have ed : upd H dc (.frz od (.dK kvs)) dc = some (.frz od (.dK kvs)) := upd_same
    have hcz : ∀ z : Str, (z = "base.Any" ∨ z = "base.Int") → ∃ c dxc tp df nm op ab, valV kvs (.inr z) = some (.ref c) ∧ upd H dc (.frz od (.dK kvs)) c = some (.ins CE dxc (entryF nm "base" op ab tp df)) := fun z hz => by
      obtain ⟨c, dxc, tp, df, nm, op, ab, e1, e2⟩ := hcl z hz
      exact ⟨c, dxc, tp, df, nm, op, ab, e1, by rw [upd_ne (fun e => by rw [e, hdc] at e2; cases e2)]; exact e2⟩
    have sameO : ∀ {H' : Hp}, Same (upd H dc (.frz od (.dK kvs))) H' → Same H (upd H' dc (.dK kvs)) := fun {H'} s b o e => by
      by_cases z : b = dc
      · rw [z, hdc] at e
        rw [z, upd_same]
        exact e
      · rw [upd_ne z]
        exact s _ _ (by rw [upd_ne z]; exact e)
    generalize upd H dc (.frz od (.dK kvs)) = Hz at ea ed hcz sameO ⊢
    refine ⟨_, rfl, a, CA, dxa, _, _, rfl, ea, clA, nCA _ (by simp), rfl, dc, od, rfl, .inl ⟨kvs, ed, fun D nD => ?_⟩⟩
    refine lc_it walk_keys (fun i H' => Same Hz H' ∧ ∃ zs : List Str, H' D = some (.lst (zs.map V.str)) ∧ zs.length ≤ i ∧ ∀ z, z ∈ zs → z = "base.Any" ∨ z = "base.Int") ⟨same_upd nD, [], upd_same, Nat.le_refl _, fun z hz => by cases hz⟩ (fun i H' _ ⟨s, _⟩ => s _ _ ed) ?_ ?_
    · rintro i x H9 H'' hi ⟨s2, zs, hD, hl2, hzs⟩ ⟨rfl, k, v, hkv, rfl⟩
      obtain ⟨z, hz, rfl⟩ : ∃ z : Str, (z = "base.Any" ∨ z = "base.Int") ∧ k = .inr z := by
        have h : (kvs.map (fun kv => kV kv.1))[i]? = some (kV k) := by rw [List.getElem?_map, hkv]; rfl
        rw [hks] at h
        match i, h with
        | 0, h =>
          have h : kV k = .str "base.Any" := by simpa using h.symm
          exact ⟨"base.Any", .inl rfl, by cases k with | inl n => cases h | inr y => exact congrArg Sum.inr (V.str.inj h)⟩
        | 1, h =>
          have h : kV k = .str "base.Int" := by simpa using h.symm
          exact ⟨"base.Int", .inr rfl, by cases k with | inl n => cases h | inr y => exact congrArg Sum.inr (V.str.inj h)⟩
        | i + 2, h => simp at h
      obtain ⟨c, dxc, tp, df, nm, op, ab, ev, hc⟩ := hcz z hz
      have hkl : kvs.length = 2 := by
        have h := congrArg List.length hks
        rw [List.length_map] at h
        exact h
      have hlt : (zs.map V.str).length < sizeLine := Nat.lt_of_le_of_lt (by rw [List.length_map]; omega : (zs.map V.str).length ≤ 100) (by decide)
      refine ⟨rfl, ?_⟩
      refine ⟨_, rfl, a, CA, dxa, _, _, rfl, s2 _ _ ea, clA, nCA _ (by simp), rfl, _, rfl, dc, _, rfl, .inl ⟨kvs, .inr z, .inr ⟨od, s2 _ _ ed⟩, rfl, ev.symm⟩, c, CE, dxc, _, _, rfl, s2 _ _ hc, clE, nCE _ (by simp), rfl, _, rfl, rfl, _, rfl, ?_⟩
      refine ite2 (fun _ => ⟨_, rfl, _, hD, hlt, same_mut s2 nD, zs ++ [z], by rw [upd_same, List.map_append]; rfl, by rw [List.length_append]; show zs.length + 1 ≤ i + 1; omega, fun y hy => ?_⟩) (fun _ => ⟨s2, zs, hD, by omega, hzs⟩)
      rcases List.mem_append.mp hy with h | h
      · exact hzs y h
      · rw [List.mem_singleton.mp h]; exact hz
    · rintro H' ⟨s2, zs, hD, hl2, hzs⟩
      have hkl : kvs.length = 2 := by
        have h := congrArg List.length hks
        rw [List.length_map] at h
        exact h
      have Dc : D ≠ dc := fun e => by rw [e, ed] at nD; cases nD
      refine ⟨s2 _ _ ed, ?_⟩
      dsimp only
      have sO := sameO s2
      have hD9 : upd H' dc (.dK kvs) D = some (.lst (zs.map V.str)) := by rw [upd_ne Dc]; exact hD
      generalize upd H' dc (.dK kvs) = H9 at sO hD9 ⊢
      refine retA ⟨_, rfl, _, rfl, fun y dy ny ndy nyd => ⟨y, dy, a, D, true, ms, zs, rfl, upd_same, atlas_ext (same_ext (sO.trans (mk_same ny ndy))) hat, mk_same ny ndy _ _ hD9, by omega, hzs, fun H2 f2 => ⟨rfl, q _ _ (sO.trans (made_same ny ndy f2))⟩⟩⟩
end
end Cw

set_option Elab.async false
set_option linter.all false
set_option maxRecDepth 100000
set_option maxHeartbeats 4000000
namespace Cw
open PySem PySem.Spec PyProof.Rows L2 LamX
theorem ps_dead {X : Cx} {st : Stmt} : PS X st (fun _ _ _ => False) := ⟨fun _ _ _ _ _ _ h => h.elim⟩
theorem filter_le {ms : List Mo} {res : List Str} (nd : (names ms).Nodup) (nb : ("base" : Str) ∉ names ms) : (ms.filter (fun m => decide (m.1 ∈ res ++ [("base" : Str)]))).length ≤ res.length := by
  have h := nodup_le (names (ms.filter (fun m => decide (m.1 ∈ res ++ [("base" : Str)])))) res (((List.filter_sublist).map _).nodup nd) fun x hx => by
    obtain ⟨m, hm, rfl⟩ := List.mem_map.mp hx
    obtain ⟨h1, h2⟩ := List.mem_filter.mp hm
    have h2 := of_decide_eq_true h2
    rcases List.mem_append.mp h2 with h | h
    · exact h
    · have e := List.mem_singleton.mp h
      exact absurd (e ▸ List.mem_map_of_mem h1) nb
  rw [names, List.length_map] at h
  exact h
section
variable {P : Program} {w : World} {K : PySem.W.Frag} {mg : Str → Option Value} {base : Heap} {CE CA CP CS : Addr} {T : List (Addr × Str)}
abbrev s_bad_call : Stmt := topS 103
theorem sc_bad_call : FnScope ["atlas", "name", "anywhere", "own", "others", "generic", "owners", "owner", "places", "sights", "_"] ["atlas", "name"] (defScope s_bad_call) := ⟨rfl, rfl, rfl, by decide +kernel, rfl, by decide +kernel, by decide +kernel⟩
theorem ok_bad_call {f : Addr} {fd : FuncData} (F : Fun K "bad_call" "bad_call" s_bad_call f fd) {f_any_place : Addr} {d_any_place : FuncData} (h_any_place : Hd K mg "any_place" s_any_place ["atlas"] f_any_place d_any_place) (G_any_place : FnOk P w K mg base CX0 3 f_any_place d_any_place ["atlas"] (spAny K CA CE)) {f_own_place : Addr} {d_own_place : FuncData} (h_own_place : Hd K mg "own_place" s_own_place ["atlas", "module"] f_own_place d_own_place) (G_own_place : FnOk P w K mg base CX0 3 f_own_place d_own_place ["atlas", "module"] (spOwn K CA CE)) {f_other_place : Addr} {d_other_place : FuncData} (h_other_place : Hd K mg "other_place" s_other_place ["atlas", "module"] f_other_place d_other_place) (G_other_place : FnOk P w K mg base CX0 3 f_other_place d_other_place ["atlas", "module"] (spOwn K CA CE)) (clA : Cls K CA) (nCA : NA K CA ["modules", "classes", "generics", "methods", "_uses", "_parents", "_aboves"]) : FnOk P w K mg base CX0 4 f fd ["atlas", "name"] (spBad K CA CE) := by
  refine F.ok sc_bad_call (fun vs H Q E h => ?_) (fun cdv A outer s H vs Q E hr h => ?_)
  · obtain ⟨_, _, _, rfl, _⟩ := h
    rfl
  · obtain ⟨a, m, ms, rfl, hat, q⟩ := h
    refine ⟨_, (pss_cons (ps_set (i := 2) sc_bad_call.nd rfl (.inr rfl) (pe_call G_any_place (hr.mono (by decide)) (by rfl) h_any_place.g h_any_place.F.kp h_any_place.b .nil pass0 (pa_cons (pv 0) pa_nil)))
  (pss_cons (ps_set (i := 3) sc_bad_call.nd rfl (.inl rfl) (pe_call G_own_place (hr.mono (by decide)) (by rfl) h_own_place.g h_own_place.F.kp h_own_place.b .nil pass0 (pa_cons (pv 0) (pa_cons (pv 1) pa_nil))))
  (pss_cons (ps_set (i := 4) sc_bad_call.nd rfl (.inl rfl) (pe_call G_other_place (hr.mono (by decide)) (by rfl) h_other_place.g h_other_place.F.kp h_other_place.b .nil pass0 (pa_cons (pv 0) (pa_cons (pv 1) pa_nil))))
  (pss_cons (ps_lock (ps_for PassesOwn.never rfl (pi_values (pe_fld (pv 0) rfl)) (pg_name (i := 5) sc_bad_call.nd rfl (.inl rfl)) pss_dead))
  (pss_one (ps_ret pe_non)))))), ?_⟩
    refine seqA (asgA ⟨_, rfl, a, ms, rfl, hat, fun v1 H1 s1 => nameA ?_⟩)
    dsimp only
    refine seqA (asgA ⟨_, rfl, _, rfl, a, m, ms, rfl, atlas_ext (same_ext s1) hat, fun v2 H2 s2 => nameA ?_⟩)
    dsimp only
    have s12 := s1.trans s2
    refine seqA (asgA ⟨_, rfl, _, rfl, a, m, ms, rfl, atlas_ext (same_ext s12) hat, fun v3 H3 s3 => nameA ?_⟩)
    dsimp only
    have s13 := s12.trans s3
    obtain ⟨dxa, dm, dc, dg, dt, du, dp, da, kvs, hAt, hdc, hks, hdg, _⟩ := cls_get (atlas_ext (same_ext s13) hat)
    have adg : a ≠ dg := fun e => by rw [e, hdg] at hAt; cases hAt
    refine seqA ⟨dg, _, hdg, trivial, fun od => for_lg ⟨_, rfl, a, CA, dxa, _, _, rfl, (by rw [upd_ne adg]; exact hAt), clA, nCA _ (by simp), rfl, dg, od, [], rfl, upd_same, lg_it (walk_values (kvs := [])) (fun i σ H' => H' = upd H3 dg (.frz od (.dK [])) ∧ ∃ c2 c3 c4 c5 c6 c7 c8 c9 c10, σ = [some (.ref a), some (.str m), c2, c3, c4, c5, c6, c7, c8, c9, c10]) ⟨rfl, _, _, _, _, _, _, _, _, _, rfl⟩ (fun i σ H' _ ⟨e, _⟩ => by rw [e]; exact upd_same) (fun i _ _ _ _ hi => absurd hi (Nat.not_lt_zero i)) (fun σ H' p => ?_)⟩⟩
    obtain ⟨rfl, c2, c3, c4, c5, c6, c7, c8, c9, c10, rfl⟩ := p
    refine ⟨upd_same, ?_⟩
    dsimp only
    refine retA (q _ (s13.trans fun b o e => ?_))
    by_cases z : b = dg
    · rw [z, upd_same, ← hdg, ← z, e]
    · rw [upd_ne z, upd_ne z]; exact e
abbrev s_viewed_part : Stmt := topS 102
theorem sc_viewed_part : FnScope ["atlas", "name", "viewed"] ["atlas", "name"] (defScope s_viewed_part) := ⟨rfl, rfl, rfl, by decide +kernel, rfl, by decide +kernel, by decide +kernel⟩
theorem ok_viewed_part {f : Addr} {fd : FuncData} (F : Fun K "viewed_part" "viewed_part" s_viewed_part f fd) {f_Atlas_init : Addr} {d_Atlas_init : FuncData} (K_Atlas : CI K mg "Atlas" ["self", "modules"] CA f_Atlas_init d_Atlas_init) {f_Atlas_part : Addr} {d_Atlas_part : FuncData} (M_Atlas_part : MI K CA "part" ["self", "names"] f_Atlas_part d_Atlas_part) {f_Atlas_view : Addr} {d_Atlas_view : FuncData} (M_Atlas_view : MI K CA "view" ["self", "module"] f_Atlas_view d_Atlas_view) (G_Atlas_part : FnOk P w K mg base CX0 8 f_Atlas_part d_Atlas_part ["self", "names"] (spPart K CA CE T)) (G_Atlas_view : FnOk P w K mg base CX0 2 f_Atlas_view d_Atlas_view ["self", "module"] (spView K CA CE)) {u_MOST_VIEWED : Value} (h_MOST_VIEWED : Cst K mg "MOST_VIEWED" (.int 6) u_MOST_VIEWED) (m_len : mg "len" = none) (nCA : NA K CA ["modules", "classes", "generics", "methods", "_uses", "_parents", "_aboves"]) : FnOk P w K mg base CX0 9 f fd ["atlas", "name"] (spVP K CA CE T) := by
  refine F.ok sc_viewed_part (fun vs H Q E h => ?_) (fun cdv A outer s H vs Q E hr h => ?_)
  · obtain ⟨_, _, _, _, _, rfl, _⟩ := h
    rfl
  · obtain ⟨a, x, ms, res, n, rfl, hat, nd, nb, hlen, rc, hn, nr, h6, hT, q⟩ := h
    have clA := K_Atlas.cl
    obtain ⟨dm, dc, dg, dt, du, dp, da, kvs, uvs, v1, v2, ms', ⟨dx, ha⟩, hrest⟩ := id hat
    refine ⟨_, (pss_cons (ps_set (i := 2) sc_viewed_part.nd rfl (.inl rfl) (pe_meth (pv 0) K_Atlas.cl M_Atlas_part.m G_Atlas_part (hr.mono (by decide)) M_Atlas_part.b .nil pass0 (pa_cons (pe_meth (pv 0) K_Atlas.cl M_Atlas_view.m G_Atlas_view (hr.mono (by decide)) M_Atlas_view.b .nil pass0 (pa_cons (pv 1) pa_nil)) pa_nil)))
  (pss_cons (ps_if (pt_cmpR op_gt (pe_callB call_lenD (by rfl) m_len PySem.boot_len (pa_cons (pe_fld (pv 2) rfl) pa_nil)) (pe_glob (v := .int 6) rfl h_MOST_VIEWED.g h_MOST_VIEWED.r) (nomark _)) (pss_one ps_dead) pss_nil)
  (pss_one (ps_ret (pv 2))))), ?_⟩
    refine seqA (asgA ⟨_, rfl, a, dx, _, rfl, ha, rfl, _, rfl, a, dx, _, rfl, ha, rfl, _, rfl, a, x, ms, res, n, rfl, hat, nd, rc, hn, nr, fun p H1 s1 np e1 => ⟨a, p, ms, res ++ [("base" : Str)], rfl, atlas_ext (same_ext s1) hat, nd, hlen, e1, hT.ext s1, fun y H2 x2 t2 at2 => nameA ?_⟩⟩)
    dsimp only
    have hl := filter_le (res := res) nd nb
    have at3 := at2
    obtain ⟨dm, dc, dg, dt, du, dp, da, kvs, uvs, v1, v2, ms2, ⟨dx2, ha2⟩, pm, hdm, hkv, hrest⟩ := at3
    have hkl : kvs.length ≤ 6 := by
      rw [hkv.len, pm.length_eq]
      omega
    refine seqA (ifA ⟨_, rfl, y, CA, dx2, _, _, rfl, ha2, clA, nCA _ (by simp), rfl, dm, kvs, rfl, hdm, _, _, rfl, rfl, _, rfl, iteF' (by simp; omega) (nextA ?_)⟩)
    dsimp only
    exact retA ⟨_, rfl, q y H2 _ (fun b o e n => x2 b o (s1 b o e) n) t2 at2⟩
abbrev s_check_rules : Stmt := topS 107
theorem sc_check_rules : FnScope ["atlas", "name", "fault", "rule", "number"] ["atlas", "name"] (defScope s_check_rules) := ⟨rfl, rfl, rfl, by decide +kernel, rfl, by decide +kernel, by decide +kernel⟩
theorem ok_check_rules {f : Addr} {fd : FuncData} (F : Fun K "check_rules" "check_rules" s_check_rules f fd) {f_first_fault : Addr} {d_first_fault : FuncData} (h_first_fault : Hd K mg "first_fault" s_first_fault ["atlas", "name"] f_first_fault d_first_fault) (G_first_fault : FnOk P w K mg base CX0 4 f_first_fault d_first_fault ["atlas", "name"] (spFirst K CA CE)) {f_bad_call : Addr} {d_bad_call : FuncData} (h_bad_call : Hd K mg "bad_call" s_bad_call ["atlas", "name"] f_bad_call d_bad_call) (G_bad_call : FnOk P w K mg base CX0 4 f_bad_call d_bad_call ["atlas", "name"] (spBad K CA CE)) {f_viewed_part : Addr} {d_viewed_part : FuncData} (h_viewed_part : Hd K mg "viewed_part" s_viewed_part ["atlas", "name"] f_viewed_part d_viewed_part) (G_viewed_part : FnOk P w K mg base CX0 9 f_viewed_part d_viewed_part ["atlas", "name"] (spVP K CA CE T)) : FnOk P w K mg base CX0 10 f fd ["atlas", "name"] (spRules K CA CE T) := by
  refine F.ok sc_check_rules (fun vs H Q E h => ?_) (fun cdv A outer s H vs Q E hr h => ?_)
  · obtain ⟨_, _, _, _, _, _, rfl, _⟩ := h
    rfl
  · obtain ⟨a, x, us, ms, res, n, rfl, hat, nd, nb, hlen, hx, rc, hn, nr, h6, hT, q⟩ := h
    refine ⟨_, (pss_cons (ps_set (i := 2) sc_check_rules.nd rfl (.inl rfl) (pe_call G_first_fault (hr.mono (by decide)) (by rfl) h_first_fault.g h_first_fault.F.kp h_first_fault.b .nil pass0 (pa_cons (pv 0) (pa_cons (pv 1) pa_nil))))
  (pss_cons (ps_if (pt_cmpR op_notN (pv 2) pe_non (nomark _)) (pss_cons (ps_asg (pv 2) (pg_tup (n := 2) (by rfl) (pgs_cons (pg_name (i := 3) sc_check_rules.nd rfl (.inl rfl)) (pgs_cons (pg_name (i := 4) sc_check_rules.nd rfl (.inl rfl)) pgs_nil))))
  (pss_one ps_dead)) pss_nil)
  (pss_one (ps_if (pt_cmpR op_notN (pe_call G_bad_call (hr.mono (by decide)) (by rfl) h_bad_call.g h_bad_call.F.kp h_bad_call.b .nil pass0 (pa_cons (pe_call G_viewed_part (hr.mono (by decide)) (by rfl) h_viewed_part.g h_viewed_part.F.kp h_viewed_part.b .nil pass0 (pa_cons (pv 0) (pa_cons (pv 1) pa_nil))) (pa_cons (pv 1) pa_nil))) pe_non (nomark _)) (pss_one ps_dead) pss_nil)))), ?_⟩
    refine seqA (asgA ⟨_, rfl, _, rfl, a, x, us, ms, res, n, rfl, hat, nd, hx, rc, hn, nr, fun H1 s1 => nameA ?_⟩)
    dsimp only
    refine seqA (ifA ⟨_, rfl, rfl, _, rfl, iteF' rfl (nextA ?_)⟩)
    dsimp only
    refine ifA ⟨_, rfl, _, rfl, a, x, ms, res, n, rfl, atlas_ext (same_ext s1) hat, nd, nb, hlen, rc, hn, nr, h6, hT.ext s1, fun p H2 ms2 x2 t2 at2 => ⟨_, rfl, p, x, ms2, rfl, at2, fun H3 s3 => ⟨rfl, _, rfl, iteF' rfl (nextA ?_)⟩⟩⟩
    exact q H3 (fun b o e n => s3 _ _ (x2 _ _ (s1 _ _ e) n)) (t2.ext s3)
end
end Cw

set_option Elab.async false
set_option linter.all false
set_option maxRecDepth 100000
set_option maxHeartbeats 4000000
namespace Cw
open PySem PySem.CwEx PySem.Spec PyProof.Rows L2 LamX
def spI1 (K : PySem.W.Frag) (fl : Str) : Sp := fun vs H Q _ => ∃ (a C CE : Addr) (v : V), vs = [.ref a, v] ∧ CexC K C CE ∧ PySem.W.findIn K (.ref C) fl = some none ∧ H a = some (exo a C none) ∧
  ∀ dx, H dx = none → dx ≠ a → Q .non (upd (upd H dx (exd dx [(fl, v)])) a (exo a C (some dx)))
def spI2 (K : PySem.W.Frag) (f1 f2 : Str) : Sp := fun vs H Q _ => ∃ (a C CE : Addr) (v1 v2 : V), vs = [.ref a, v1, v2] ∧ CexC K C CE ∧ PySem.W.findIn K (.ref C) f1 = some none ∧ PySem.W.findIn K (.ref C) f2 = some none ∧ H a = some (exo a C none) ∧
  ∀ dx, H dx = none → dx ≠ a → Q .non (upd (upd (upd H dx (exd dx [(f1, v1)])) a (exo a C (some dx))) dx (exd dx [(f2, v2), (f1, v1)]))
/-- what the top has written of such a class -/
structure EC (K : PySem.W.Frag) (mg : Str → Option Value) (x qual : Str) (st : Stmt) (fls : List Str) (CE C f : Addr) (fd : FuncData) : Prop where
  cx : CexC K C CE
  gC : mg x = some (.ref C)
  iC : PySem.W.findIn K (.ref C) "__init__" = some (some (.ref f))
  tI : PySem.W.typeIn K (.ref f) = some (.type "function")
  F : Fun K "__init__" qual st f fd
  no : ∀ fl, fl ∈ fls → PySem.W.findIn K (.ref C) fl = some none
/-- what such a raise leaves: only the exception's dict is new -/
def Wr (C : Addr) (fs : Fs) (H : Hp) (E : XK) : Prop := ∀ d H', Same H H' → H' d = some (.xd fs) → E (.ref C) (some d) H'
theorem Wr.mono {C : Addr} {fs : Fs} {H H1 : Hp} {E : XK} (h : Wr C fs H E) (s : Same H H1) : Wr C fs H1 E := fun d H' s2 e => h d H' (s.trans s2) e
theorem go1 {C CE : Addr} {fl : Str} {v : V} {H : Hp} {E : XK} {K : PySem.W.Frag} (T : CexC K C CE) (no : PySem.W.findIn K (.ref C) fl = some none) (h : Wr C [(fl, v)] H E) (a : Addr) (na : H a = none) :
    spI1 K fl (.ref a :: ([v] ++ [])) (upd H a (exo a C none)) (fun v H2 => v = .non ∧ ∃ (d : Addr) (fs : List (Str × V)), H2 a = some (exo a C (some d)) ∧ H2 d = some (exd d fs) ∧ H d = none ∧ E (.ref C) (some d) (upd (del H2 a) d (.xd fs))) (fun _ _ _ => False) :=
  ⟨a, C, CE, v, rfl, T, no, upd_same, fun dx nd ne => by
    have nd0 : H dx = none := by rw [upd_ne ne] at nd; exact nd
    refine ⟨rfl, dx, _, upd_same, by rw [upd_ne ne]; exact upd_same, nd0, h dx _ (fun b o hb => ?_) upd_same⟩
    have ba : b ≠ a := ne_of_none hb na
    have bd : b ≠ dx := ne_of_none hb nd0
    rw [upd_ne bd, del_ne ba, upd_ne ba, upd_ne bd, upd_ne ba]
    exact hb⟩
theorem go2 {C CE : Addr} {f1 f2 : Str} {v1 v2 : V} {H : Hp} {E : XK} {K : PySem.W.Frag} (T : CexC K C CE) (n1 : PySem.W.findIn K (.ref C) f1 = some none) (n2 : PySem.W.findIn K (.ref C) f2 = some none) (h : Wr C [(f2, v2), (f1, v1)] H E) (a : Addr) (na : H a = none) :
    spI2 K f1 f2 (.ref a :: ([v1, v2] ++ [])) (upd H a (exo a C none)) (fun v H2 => v = .non ∧ ∃ (d : Addr) (fs : List (Str × V)), H2 a = some (exo a C (some d)) ∧ H2 d = some (exd d fs) ∧ H d = none ∧ E (.ref C) (some d) (upd (del H2 a) d (.xd fs))) (fun _ _ _ => False) :=
  ⟨a, C, CE, v1, v2, rfl, T, n1, n2, upd_same, fun dx nd ne => by
    have nd0 : H dx = none := by rw [upd_ne ne] at nd; exact nd
    refine ⟨rfl, dx, _, by rw [upd_ne (Ne.symm ne)]; exact upd_same, upd_same, nd0, h dx _ (fun b o hb => ?_) upd_same⟩
    have ba : b ≠ a := ne_of_none hb na
    have bd : b ≠ dx := ne_of_none hb nd0
    rw [upd_ne bd, del_ne ba, upd_ne bd, upd_ne ba, upd_ne bd, upd_ne ba]
    exact hb⟩
def spCU (K : PySem.W.Frag) (T : List (Addr × Str)) (CMU CUL : Addr) : Sp := fun vs H Q E => ∃ (d t : Addr) (n : Str) (us : List Str) (R : V → Mo → Prop) (kvs : List (Key × V)) (ms : List Mo), vs = [.ref d, .str n, .ref t] ∧ H d = some (.dK kvs) ∧ KD R kvs ms ∧ n ≠ "base" ∧ n ∉ names ms ∧ SqT K H t (us.map V.str) ∧ us.length ≤ 100 ∧
  (((∀ u, u ∈ us → u ∈ names ms) ∧ us.Nodup ∧ Q .non H) ∨ ((∀ u, u ∈ us → u ∈ names ms) ∧ ¬ us.Nodup ∧ Wr CUL [("at", .int 0), ("rule", .str "uses")] H E) ∨
   ∃ pre x post, us = pre ++ x :: post ∧ (∀ u, u ∈ pre → u ∈ names ms) ∧ x ∉ names ms ∧ Wr CMU [("name", .str x)] H E)
section
variable {P : Program} {w : World} {K : PySem.W.Frag} {mg : Str → Option Value} {base : Heap} {C0 CMU CUL fMU fUL : Addr} {dMU dUL : FuncData} {CE CA CP CS : Addr} {T : List (Addr × Str)}
abbrev s_MissingUse_init : Stmt := inClass (topS 15) 0
theorem scI_MissingUse : FnScope ["self", "name"] ["self", "name"] (defScope s_MissingUse_init) := ⟨rfl, rfl, rfl, by decide +kernel, rfl, by decide +kernel, by decide +kernel⟩
theorem okI_MissingUse {f : Addr} {fd : FuncData} {k : Nat} (F : Fun K "__init__" "MissingUse.__init__" s_MissingUse_init f fd) : FnOk P w K mg base CX0 (k + 1) f fd ["self", "name"] (spI1 K "name") := by
  refine F.ok scI_MissingUse (fun vs H Q E h => ?_) (fun cdv A outer s H vs Q E hr h => ?_)
  · obtain ⟨_, _, _, _, rfl, _⟩ := h
    rfl
  · obtain ⟨a, C, CE, v, rfl, T, no, ha, q⟩ := h
    exact ⟨_, pss_one (ps_x1 (pv 0) (pv 1)), v, rfl, _, rfl, a, C, CE, rfl, T, no, .inl ⟨ha, q⟩⟩
theorem bI_MissingUse {f : Addr} {fd : FuncData} (F : Fun K "__init__" "MissingUse.__init__" s_MissingUse_init f fd) : Binds K fd ["self", "name"] [] := F.binds (ps := ["self", "name"]) fun _ _ _ _ _ _ us hl => match us, hl with | [_, _], _ => rfl
abbrev s_Unlawful_init : Stmt := inClass (topS 18) 0
theorem scI_Unlawful : FnScope ["self", "rule", "at"] ["self", "rule", "at"] (defScope s_Unlawful_init) := ⟨rfl, rfl, rfl, by decide +kernel, rfl, by decide +kernel, by decide +kernel⟩
theorem okI_Unlawful {f : Addr} {fd : FuncData} {k : Nat} (F : Fun K "__init__" "Unlawful.__init__" s_Unlawful_init f fd) : FnOk P w K mg base CX0 (k + 1) f fd ["self", "rule", "at"] (spI2 K "rule" "at") := by
  refine F.ok scI_Unlawful (fun vs H Q E h => ?_) (fun cdv A outer s H vs Q E hr h => ?_)
  · obtain ⟨_, _, _, _, _, rfl, _⟩ := h
    rfl
  · obtain ⟨a, C, CE, v1, v2, rfl, T, n1, n2, ha, q⟩ := h
    exact ⟨_, pss_cons (ps_x1 (pv 0) (pv 1)) (pss_one (ps_x1 (pv 0) (pv 2))), v1, rfl, _, rfl, a, C, CE, rfl, T, n1, .inl ⟨ha, fun dx hn ne => ⟨v2, rfl, _, rfl, a, C, CE, rfl, T, n2, .inr ⟨dx, _, upd_same, by rw [upd_ne ne]; exact upd_same, by show 1 ≤ 900; decide, q dx hn ne⟩⟩⟩⟩
theorem bI_Unlawful {f : Addr} {fd : FuncData} (F : Fun K "__init__" "Unlawful.__init__" s_Unlawful_init f fd) : Binds K fd ["self", "rule", "at"] [] := F.binds (ps := ["self", "rule", "at"]) fun _ _ _ _ _ _ us hl => match us, hl with | [_, _, _], _ => rfl
abbrev MissE (K : PySem.W.Frag) (mg : Str → Option Value) (CE C f : Addr) (fd : FuncData) : Prop := EC K mg "MissingUse" "MissingUse.__init__" s_MissingUse_init ["name"] CE C f fd
abbrev UnlE (K : PySem.W.Frag) (mg : Str → Option Value) (CE C f : Addr) (fd : FuncData) : Prop := EC K mg "Unlawful" "Unlawful.__init__" s_Unlawful_init ["rule", "at"] CE C f fd
abbrev s_check_uses : Stmt := topS 106
theorem sc_check_uses : FnScope ["modules", "name", "uses", "used"] ["modules", "name", "uses"] (defScope s_check_uses) := ⟨rfl, rfl, rfl, by decide +kernel, rfl, by decide +kernel, by decide +kernel⟩
theorem ok_check_uses {f : Addr} {fd : FuncData} (F : Fun K "check_uses" "check_uses" s_check_uses f fd) {f_are_different : Addr} {d_are_different : FuncData} (h_are_different : Hd K mg "are_different" s_are_different ["words"] f_are_different d_are_different) (G_are_different : FnOk P w K mg base CX0 1 f_are_different d_are_different ["words"] (spDiff K)) {u_BASE : Value} (h_BASE : Cst K mg "BASE" (.str "base") u_BASE) (EMissingUse : MissE K mg C0 CMU fMU dMU) (EUnlawful : UnlE K mg C0 CUL fUL dUL) : FnOk P w K mg base (L2.CX P w) 4 f fd ["modules", "name", "uses"] (spCU K T CMU CUL) := by
  refine F.okX sc_check_uses (fun vs H Q E h => ?_) (fun cdv A outer s H vs Q E hr h => ?_)
  · obtain ⟨_, _, _, _, _, _, _, rfl, _⟩ := h
    rfl
  · obtain ⟨d, t, n, us, R, kvs, ms, rfl, hd, hk, n1, n2, ht, hl, way⟩ := h
    refine ⟨_, (pss_cons (ps_if (PW.pt (pw_or (pt_cmpR op_eq (pv 1) (pe_glob (v := .str "base") rfl h_BASE.g h_BASE.r) (nomark _)) (pw_or1 (pt_cmp (pc_din (hu_of hr) (pv 1) (pv 0)))))) (pss_one ps_dead) pss_nil)
  (pss_cons (ps_for (passes_of rfl) rfl (pi_tup (pv 2)) (pg_name (i := 3) sc_check_uses.nd rfl (.inl rfl)) (pss_one (ps_if (pt_cmp (pc_dnotin (hu_of hr) (pv 3) (pv 0))) (pss_one (ps_raise rfl (takes_of rfl rfl rfl rfl) (by exact (pmk_cx EMissingUse.cx EMissingUse.iC EMissingUse.tI (okI_MissingUse (k := 0) EMissingUse.F) (hr.mono (by decide)) (bI_MissingUse EMissingUse.F) pass0 rfl EMissingUse.gC (pa_cons (pv 3) pa_nil))))) pss_nil)))
  (pss_one (ps_if (pt_not (pt_val (pe_call G_are_different (hr.mono (by decide)) (by rfl) h_are_different.g h_are_different.F.kp h_are_different.b .nil pass0 (pa_cons (pv 2) pa_nil)))) (pss_one (ps_raise rfl (takes_of rfl rfl rfl rfl) (by exact (pmk_cx EUnlawful.cx EUnlawful.iC EUnlawful.tI (okI_Unlawful (k := 0) EUnlawful.F) (hr.mono (by decide)) (bI_Unlawful EUnlawful.F) pass0 rfl EUnlawful.gC (pa_cons pe_str (pa_cons pe_int pa_nil)))))) pss_nil)))), ?_⟩
    try dsimp only [cxOf]
    refine seqA (ifA ⟨_, rfl, rfl, _, rfl, ?_⟩)
    rw [dec_strs, decide_eq_false n1]
    refine iteF ⟨_, rfl, _, rfl, d, _, rfl, DGet.k (k := .inr n) hd, _, rfl, ?_⟩
    rw [hk.no n2]
    refine iteF' rfl (nextA ?_)
    dsimp only
    refine seq_merge (fun σ' H' => (∃ c3, σ' = [some (.ref d), some (.str n), some (.ref t), c3]) ∧ H' = H ∧ ∀ u, u ∈ us → u ∈ names ms) ?_ (fun kont => ?_)
    rotate_left
    · refine for_lg ⟨_, rfl, t, rfl, ⟨_, ht⟩, ?_⟩
      refine lg_it (walk_tup (xs := us.map V.str)) (fun i σ' H' => (∃ c3, σ' = [some (.ref d), some (.str n), some (.ref t), c3]) ∧ H' = H ∧ ∀ u, u ∈ us.take i → u ∈ names ms) ⟨⟨_, rfl⟩, rfl, fun u m => by simp at m⟩ (fun i σ' H' _ ⟨_, e, _⟩ => by rw [e]; exact ht) ?_ (fun σ' H' ⟨e1, e2, e3⟩ => kont _ _ ⟨e1, e2, by rw [List.length_map, List.take_length] at e3; exact e3⟩)
      rintro i x σ' H' H'' hi ⟨⟨c3, rfl⟩, rfl, hin⟩ ⟨rfl, hx⟩
      rw [List.getElem?_map] at hx
      obtain ⟨u, hu, rfl⟩ : ∃ u, us[i]? = some u ∧ x = .str u := by
        cases e : us[i]? with
        | none => rw [e] at hx; cases hx
        | some u => rw [e] at hx; exact ⟨u, rfl, (Option.some.inj hx).symm⟩
      refine nameA ?_
      dsimp only
      refine ifA ⟨_, rfl, _, rfl, d, _, rfl, DGet.k (k := .inr u) hd, _, rfl, ?_⟩
      by_cases hm : u ∈ names ms
      · obtain ⟨v, ev⟩ := hk.some hm
        rw [ev]
        refine iteF' rfl (nextA ⟨⟨_, rfl⟩, rfl, fun y hy => ?_⟩)
        rw [List.take_add_one, hu] at hy
        rcases List.mem_append.mp hy with h | h
        · exact hin y h
        · rw [List.mem_singleton.mp h]; exact hm
      · rw [hk.no hm]
        refine iteT' rfl ?_
        rcases way with ⟨all, _⟩ | ⟨all, _⟩ | ⟨pre, y, post, e, hpre, hy, wr⟩
        · exact absurd (all u (List.mem_of_getElem? hu)) hm
        · exact absurd (all u (List.mem_of_getElem? hu)) hm
        · have hiy : u = y := by
            by_cases h1 : i < pre.length
            · rw [e, List.getElem?_append_left h1] at hu
              exact absurd (hpre u (List.mem_of_getElem? hu)) hm
            · by_cases h2 : i = pre.length
              · rw [e, List.getElem?_append_right (by omega), h2, Nat.sub_self, List.getElem?_cons_zero] at hu
                exact (Option.some.inj hu).symm
              · have : y ∈ us.take i := by
                  rw [e, List.take_append]
                  refine List.mem_append_right _ ?_
                  rw [show i - pre.length = (i - pre.length - 1) + 1 by omega, List.take_succ_cons]
                  exact List.mem_cons_self
                exact absurd (hin y this) hy
          subst hiy
          exact ⟨_, rfl, Nat.le_of_ble_eq_true rfl, fun b nb => go1 EMissingUse.cx (EMissingUse.no _ (by simp)) wr b nb⟩
    rintro σ' H' ⟨⟨c3, rfl⟩, rfl, all⟩
    refine ifA ⟨_, rfl, t, us, rfl, ht, by omega, _, rfl, ?_⟩
    rcases way with ⟨_, nd, q⟩ | ⟨_, nd, wr⟩ | ⟨pre, y, post, e, hpre, hy, wr⟩
    · rw [decide_eq_true nd]
      exact iteF' rfl (nextA q)
    · rw [decide_eq_false nd]
      exact iteT' rfl ⟨Nat.le_of_ble_eq_true rfl, fun b nb => go2 EUnlawful.cx (EUnlawful.no _ (by simp)) (EUnlawful.no _ (by simp)) wr b nb⟩
    · exact absurd (all y (by rw [e]; simp)) hy
end
end Cw

set_option Elab.async false
set_option linter.all false
set_option maxRecDepth 100000
set_option maxHeartbeats 4000000
namespace Cw
open PySem PySem.CwEx PySem.Spec PyProof.Rows L2 LamX
def linkF (d at_ : Addr) : Fs := [("_modules", .ref d), ("_atlas", .ref at_)]
/-- a link at a with its modules in the dict at d -/
def LinkAt (K : PySem.W.Frag) (CA CE CL : Addr) (H : Hp) (a d : Addr) (ms : List Mo) : Prop := ∃ dx at_ kvs, H a = some (.ins CL dx (linkF d at_)) ∧ H d = some (.dK kvs) ∧ KD (ModV K H) kvs ms ∧ AtlasAt K CA CE H at_ ms
theorem link_ext {K : PySem.W.Frag} {CA CE CL : Addr} {H H' : Hp} {a d : Addr} {ms : List Mo} (e : ExtN H H') (h : LinkAt K CA CE CL H a d ms) : LinkAt K CA CE CL H' a d ms :=
  let ⟨dx, at_, kvs, h1, h2, h3, h4⟩ := h
  ⟨dx, at_, kvs, e _ _ h1 (fun _ z => by cases z), e _ _ h2 (fun _ z => by cases z), h3.mono fun _ _ => modV_ext e, atlas_ext e h4⟩
def spCM (K : PySem.W.Frag) (CA CE : Addr) : Sp := fun vs H Q _ => ∃ (a : Addr) (n : Str) (ms : List Mo), vs = [.ref a, .str n] ∧ AtlasAt K CA CE H a ms ∧ n ∈ names ms ∧ Q .non H
def spLI (K : PySem.W.Frag) (CA CE CL : Addr) (T : List (Addr × Str)) : Sp := fun vs H Q _ => ∃ (a dx : Addr), vs = [.ref a] ∧ H a = some (.ins CL dx []) ∧ Tabs T H ∧
  ∀ d H', FrN [a] H H' → Tabs T H' → (∀ o, (∀ ps, o ≠ .tbl ps) → H d ≠ some o) → LinkAt K CA CE CL H' a d [] → Q .non H'
def spNames (K : PySem.W.Frag) (CA CE CL : Addr) : Sp := fun vs H Q _ => ∃ (a d : Addr) (ms : List Mo), vs = [.ref a] ∧ LinkAt K CA CE CL H a d ms ∧ ms.length < 64 ∧ ∀ ys p H', ys.Perm (names ms) → sortedS ys = true → Same H H' → H' p = some (.tup (ys.map V.str)) → Q (.ref p) H'
def spLen (CL : Addr) : Sp := fun vs H Q _ => ∃ (a d dx at_ : Addr) (kvs : List (Key × V)), vs = [.ref a] ∧ H a = some (.ins CL dx (linkF d at_)) ∧ H d = some (.dK kvs) ∧ Q (.int (kvs.length : Nat)) H
def spUnload (K : PySem.W.Frag) (CA CE CL : Addr) (T : List (Addr × Str)) : Sp := fun vs H Q _ => ∃ (a d : Addr) (n : Str) (ms : List Mo), vs = [.ref a, .str n] ∧ LinkAt K CA CE CL H a d ms ∧ n ∈ names ms ∧ (names ms).Nodup ∧ ms.length ≤ 100 ∧ (∀ m, m ∈ ms → n ∉ m.2) ∧ Tabs T H ∧
  ∀ H', FrN [a, d] H H' → Tabs T H' → LinkAt K CA CE CL H' a d (ms.filter (fun m => decide (m.1 ≠ n))) → Q .non H'
section
variable {P : Program} {w : World} {K : PySem.W.Frag} {mg : Str → Option Value} {base : Heap} {C0 CMU CUL CL fMU fUL : Addr} {dMU dUL : FuncData} {CE CA CP CS : Addr} {T : List (Addr × Str)}
abbrev s_check_module : Stmt := topS 99
theorem sc_check_module : FnScope ["atlas", "name"] ["atlas", "name"] (defScope s_check_module) := ⟨rfl, rfl, rfl, by decide +kernel, rfl, by decide +kernel, by decide +kernel⟩
theorem ok_check_module {f : Addr} {fd : FuncData} (F : Fun K "check_module" "check_module" s_check_module f fd) (m_isinstance : mg "isinstance" = none) (m_str : mg "str" = none) (clA : Cls K CA) (nCA : NA K CA ["modules", "classes", "generics", "methods", "_uses", "_parents", "_aboves"]) : FnOk P w K mg base CX0 1 f fd ["atlas", "name"] (spCM K CA CE) := by
  refine F.ok sc_check_module (fun vs H Q E h => ?_) (fun cdv A outer s H vs Q E hr h => ?_)
  · obtain ⟨_, _, _, rfl, _⟩ := h
    rfl
  · obtain ⟨a, n, ms, rfl, hat, hn, q⟩ := h
    obtain ⟨dm, dc, dg, dt, du, dp, da, kvs, uvs, v1, v2, ms', ⟨dx, ha⟩, pm, hdm, hkv, hrest⟩ := hat
    refine ⟨_, (pss_one (ps_if (PW.pt (pw_or (pt_not (pt_val (pe_callB call_isi (by rfl) m_isinstance (by decide +kernel) (pa_cons (pv 1) (pa_cons (pe_bltn (v := .ty "str") (by rfl) m_str (by decide +kernel) rfl) pa_nil))))) (pw_or1 (pt_cmp (pc_dnotin (hu_of hr) (pv 1) (pe_fld (pv 0) rfl)))))) (pss_one ps_dead) pss_nil)), ?_⟩
    obtain ⟨v, ev⟩ := hkv.some ((pm.map _).mem_iff.mpr hn)
    refine ifA (r_isi rfl (.str n) (kb_st (.str n)) (iteF ⟨_, rfl, _, rfl, a, CA, dx, _, _, rfl, ha, clA, nCA _ (by simp), rfl, dm, _, rfl, DGet.k (k := .inr n) hdm, _, rfl, ?_⟩))
    rw [ev]
    exact iteF' rfl (nextA q)
abbrev s_Link_len : Stmt := inClass (topS 105) 10
theorem sc_Link_len : FnScope ["self"] ["self"] (defScope s_Link_len) := ⟨rfl, rfl, rfl, by decide +kernel, rfl, by decide +kernel, by decide +kernel⟩
theorem ok_Link_len {f : Addr} {fd : FuncData} (F : Fun K "__len__" "Link.__len__" s_Link_len f fd) (m_len : mg "len" = none) (clL : Cls K CL) (nCL : NA K CL ["_modules", "_atlas"]) : FnOk P w K mg base CX0 1 f fd ["self"] (spLen CL) := by
  refine F.ok sc_Link_len (fun vs H Q E h => ?_) (fun cdv A outer s H vs Q E hr h => ?_)
  · obtain ⟨_, _, _, _, _, rfl, _⟩ := h
    rfl
  · obtain ⟨a, d, dx, at_, kvs, rfl, h1, h2, q⟩ := h
    refine ⟨_, (pss_one (ps_ret (pe_callB call_lenD (by rfl) m_len PySem.boot_len (pa_cons (pe_fld (pv 0) rfl) pa_nil)))), ?_⟩
    exact retA ⟨_, rfl, a, CL, dx, _, _, rfl, h1, clL, nCL _ (by simp), rfl, d, kvs, rfl, h2, q⟩
abbrev s_Link_names : Stmt := inClass (topS 105) 3
theorem sc_Link_names : FnScope ["self"] ["self"] (defScope s_Link_names) := ⟨rfl, rfl, rfl, by decide +kernel, rfl, by decide +kernel, by decide +kernel⟩
theorem ok_Link_names {f : Addr} {fd : FuncData} (F : Fun K "names" "Link.names" s_Link_names f fd) (m_tuple : mg "tuple" = none) (m_sorted : mg "sorted" = none) (clL : Cls K CL) (nCL : NA K CL ["_modules", "_atlas"]) : FnOk P w K mg base CX0 1 f fd ["self"] (spNames K CA CE CL) := by
  refine F.ok sc_Link_names (fun vs H Q E h => ?_) (fun cdv A outer s H vs Q E hr h => ?_)
  · obtain ⟨_, _, _, rfl, _⟩ := h
    rfl
  · obtain ⟨a, d, ms, rfl, ⟨dx, at_, kvs, h1, h2, h3, h4⟩, h64, q⟩ := h
    refine ⟨_, (pss_one (ps_ret (pe_callTy call_tuple_of (by rfl) m_tuple (by decide +kernel) (pa_cons (pe_callB (call_sortedD rfl) (by rfl) m_sorted (by decide +kernel) (pa_cons (pe_fld (pv 0) rfl) pa_nil)) pa_nil)))), ?_⟩
    refine retA ⟨_, rfl, a, CL, dx, _, _, rfl, h1, clL, nCL _ (by simp), rfl, d, kvs, names ms, rfl, .inl h2, h3.keys, by rw [names, List.length_map]; exact h64, fun ys p pm so np => ?_⟩
    have s1 : Same H (upd H p (.lst (ys.map V.str))) := same_upd np
    exact ⟨p, _, rfl, .inl ⟨SqL.of upd_same, fun l nl => q ys l _ pm so (s1.trans (same_upd nl)) upd_same⟩⟩
abbrev s_Link_init : Stmt := inClass (topS 105) 0
theorem sc_Link_init : FnScope ["self"] ["self"] (defScope s_Link_init) := ⟨rfl, rfl, rfl, by decide +kernel, rfl, by decide +kernel, by decide +kernel⟩
theorem ok_Link_init {f : Addr} {fd : FuncData} (F : Fun K "__init__" "Link.__init__" s_Link_init f fd) {f_Atlas_init : Addr} {d_Atlas_init : FuncData} (K_Atlas : CI K mg "Atlas" ["self", "modules"] CA f_Atlas_init d_Atlas_init) (G_Atlas_init : FnOk P w K mg base CX0 6 f_Atlas_init d_Atlas_init ["self", "modules"] (spAI K CA CE T)) (clL : Cls K CL) (nCL : NA K CL ["_modules", "_atlas"]) (nLA : CL ≠ CA) (nLE : CL ≠ CE) : FnOk P w K mg base CX0 8 f fd ["self"] (spLI K CA CE CL T) := by
  refine F.ok sc_Link_init (fun vs H Q E h => ?_) (fun cdv A outer s H vs Q E hr h => ?_)
  · obtain ⟨_, _, rfl, _⟩ := h
    rfl
  · obtain ⟨a, dx, rfl, ha, hT, q⟩ := h
    refine ⟨_, (pss_cons (ps_fld (pv 0) pe_dnewK rfl)
  (pss_one (ps_fld (pv 0) (pe_make K_Atlas.m G_Atlas_init (hr.mono (by decide)) rfl K_Atlas.g K_Atlas.b .nil pass0 (pa_cons (pe_lst pa_nil) pa_nil)) rfl))), ?_⟩
    refine seqA fun d nd => ⟨_, rfl, a, CL, dx, _, rfl, (by rw [upd_ne (ne_of_none ha nd)]; exact ha), clL, nCL _ (by simp), Nat.le_of_ble_eq_true rfl, ?_⟩
    dsimp only
    obtain ⟨G1, eG1, b1, e1, i1, j1, k1⟩ := fld_dict (f := "_modules") (fs' := [("_modules", .ref d)]) (Fr.refl (A := [a]) H) ha nd rfl
    rw [eG1]
    have t1 : Tabs T G1 := tabs_fr hT b1 ha (fun _ z => by cases z) (fun _ z => by cases z)
    refine ⟨Nat.zero_le _, fun l nl => ?_⟩
    have s2 : Same G1 (upd G1 l (.lst [])) := same_upd nl
    have l2 : upd G1 l (.lst []) l = some (.lst []) := upd_same
    have t2 := t1.ext s2
    generalize upd G1 l (.lst []) = G2 at s2 l2 t2 ⊢
    refine fun x dx2 nx ndx nxd => ⟨x, dx2, l, [], [], rfl, upd_same, SqL.of (mk_same nx ndx _ _ l2), trivial, List.nodup_nil, Nat.zero_le _, t2.ext (mk_same nx ndx), fun H2 f2 t3 at2 => ⟨rfl, ?_⟩⟩
    have x2 : ExtN G2 H2 := made_frn nx ndx f2
    have ea : H2 a = some (.ins CL dx [("_modules", .ref d)]) := x2 _ _ (s2 _ _ e1) (fun _ z => by cases z)
    have ed : H2 d = some (.dK []) := x2 _ _ (s2 _ _ i1) (fun _ z => by cases z)
    refine ⟨_, rfl, a, CL, dx, _, rfl, ea, clL, nCL _ (by simp), Nat.le_of_ble_eq_true rfl, ?_⟩
    obtain ⟨H3, eH3, b3, e3⟩ := fld_next (a := a) (Fr.refl (A := [a]) H2) (C := CL) (dx := dx) (fs' := linkF d x) (f := "_atlas") (y := .ref x) (fs := [("_modules", .ref d)]) rfl
    rw [eH3]
    refine q d H3 ?_ (tabs_fr t3 b3 ea (fun _ z => by cases z) (fun _ z => by cases z)) (fun o k e => ?_) ⟨dx, x, [], e3, b3 _ _ (fun m => k1 (List.mem_singleton.mp m)) ed, trivial, atlas_fr b3 ea nLA nLE at2.to⟩
    · intro b o n k e
      exact b3 _ _ n (x2 _ _ (s2 _ _ (b1 _ _ n e)) k)
    · rw [e] at nd; cases nd
abbrev s_Link_unload : Stmt := inClass (topS 105) 2
theorem sc_Link_unload : FnScope ["self", "name", "other", "module"] ["self", "name"] (defScope s_Link_unload) := ⟨rfl, rfl, rfl, by decide +kernel, rfl, by decide +kernel, by decide +kernel⟩
theorem ok_Link_unload {f : Addr} {fd : FuncData} (F : Fun K "unload" "Link.unload" s_Link_unload f fd) {f_Atlas_init : Addr} {d_Atlas_init : FuncData} (K_Atlas : CI K mg "Atlas" ["self", "modules"] CA f_Atlas_init d_Atlas_init) {f_check_module : Addr} {d_check_module : FuncData} (h_check_module : Hd K mg "check_module" s_check_module ["atlas", "name"] f_check_module d_check_module) (G_check_module : FnOk P w K mg base CX0 1 f_check_module d_check_module ["atlas", "name"] (spCM K CA CE)) (G_Atlas_init : FnOk P w K mg base CX0 6 f_Atlas_init d_Atlas_init ["self", "modules"] (spAI K CA CE T)) (m_list : mg "list" = none) (clL : Cls K CL) (nCL : NA K CL ["_modules", "_atlas"]) (nCA : NA K CA ["modules", "classes", "generics", "methods", "_uses", "_parents", "_aboves"]) (nLA : CL ≠ CA) (nLE : CL ≠ CE) : FnOk P w K mg base CX0 9 f fd ["self", "name"] (spUnload K CA CE CL T) := by
  refine F.ok sc_Link_unload (fun vs H Q E h => ?_) (fun cdv A outer s H vs Q E hr h => ?_)
  · obtain ⟨_, _, _, _, rfl, _⟩ := h
    rfl
  · obtain ⟨a, d, n, ms, rfl, ⟨dx, at_, kvs, ha, hd, hk, hat⟩, hn, nd, hlen, huse, hT, q⟩ := h
    have clA := K_Atlas.cl
    refine ⟨_, (pss_cons (ps_expr (pe_call G_check_module (hr.mono (by decide)) (by rfl) h_check_module.g h_check_module.F.kp h_check_module.b .nil pass0 (pa_cons (pe_fld (pv 0) rfl) (pa_cons (pv 1) pa_nil))))
  (pss_cons (ps_lock (ps_for PassesOwn.never rfl (pi_items (pe_fld (pe_fld (pv 0) rfl) rfl)) (pg_tup (n := 2) (by rfl) (pgs_cons (pg_name (i := 2) sc_Link_unload.nd rfl (.inl rfl)) (pgs_cons (pg_name (i := 3) sc_Link_unload.nd rfl (.inl rfl)) pgs_nil))) (pss_one (ps_if (pt_cmpR op_in_seq (pv 1) (pe_ix ix_tup (pv 3) pe_int (fun _ _ => rfl)) (by rfl)) (pss_one ps_dead) pss_nil))))
  (pss_cons (ps_ddel (pe_fld (pv 0) rfl) (pv 1))
  (pss_one (ps_fld (pv 0) (pe_make K_Atlas.m G_Atlas_init (hr.mono (by decide)) rfl K_Atlas.g K_Atlas.b .nil pass0 (pa_cons (pe_listVals rfl (pe_fld (pv 0) rfl) rfl m_list (by decide +kernel)) pa_nil)) rfl))))), ?_⟩
    refine seqA ⟨_, rfl, a, CL, dx, _, _, rfl, ha, clL, nCL _ (by simp), rfl, _, rfl, at_, n, ms, rfl, hat, hn, ?_⟩
    dsimp only
    obtain ⟨dm, dc, dg, dt, du, dp, da, mvs, uvs, v1, v2, ms', ⟨dxa, hA⟩, pm, hdm, hkv, hrest⟩ := hat
    have adm : a ≠ dm := fun e => by rw [e, hdm] at ha; cases ha
    have tdm : at_ ≠ dm := fun e => by rw [e, hdm] at hA; cases hA
    refine seqA ⟨dm, _, hdm, trivial, fun od => for_lg ?_⟩
    have ea : upd H dm (.frz od (.dK mvs)) a = some (.ins CL dx (linkF d at_)) := by rw [upd_ne adm]; exact ha
    have eA : upd H dm (.frz od (.dK mvs)) at_ = some (.ins CA dxa (atlasF dm dc dg dt du dp da)) := by rw [upd_ne tdm]; exact hA
    have em : upd H dm (.frz od (.dK mvs)) dm = some (.frz od (.dK mvs)) := upd_same
    have fz : Fr [dm] H (upd H dm (.frz od (.dK mvs))) := (Fr.refl H).set (by simp)
    have ntm : NoTup [dm] H := fun b m xs k => by
      rcases List.mem_singleton.mp m with rfl
      rcases k with k | ⟨o, k⟩ <;> · rw [hdm] at k; cases k
    have kz : KD (ModV K (upd H dm (.frz od (.dK mvs)))) mvs ms' := hkv.mono fun _ _ => modV_fr (FrN.of fz) ntm
    have sameO : ∀ {H' : Hp}, Same (upd H dm (.frz od (.dK mvs))) H' → Same H (upd H' dm (.dK mvs)) := fun {H'} s b o e => by
      by_cases z : b = dm
      · rw [z, hdm] at e
        rw [z, upd_same]
        exact e
      · rw [upd_ne z]
        exact s _ _ (by rw [upd_ne z]; exact e)
    have tz : Tabs T (upd H dm (.frz od (.dK mvs))) := tabs_set hT hdm (fun _ z => by cases z) (fun _ z => by cases z)
    generalize upd H dm (.frz od (.dK mvs)) = Hz at ea eA em kz sameO tz ⊢
    refine ⟨_, rfl, a, CL, dx, _, _, rfl, ea, clL, nCL _ (by simp), rfl, at_, CA, dxa, _, _, rfl, eA, clA, nCA _ (by simp), rfl, dm, od, mvs, rfl, em, ?_⟩
    refine lg_it walk_items (fun i σ H' => (∃ c2 c3, σ = [some (.ref a), some (.str n), c2, c3]) ∧ Same Hz H') ⟨⟨_, _, rfl⟩, Same.refl Hz⟩ (fun i σ H' _ ⟨_, s⟩ => s _ _ em) ?_ ?_
    · rintro i x σ H' H'' hi ⟨⟨c2, c3, rfl⟩, s2⟩ ⟨T0, x0, y0, rfl, nT, rfl, hx0, hy0⟩
      obtain ⟨k, v, hkv2⟩ : ∃ k v, mvs[i]? = some (k, v) := ⟨mvs[i].1, mvs[i].2, List.getElem?_eq_getElem hi⟩
      dsimp only at hx0 hy0
      rw [hkv2] at hx0 hy0
      cases hx0
      cases hy0
      obtain ⟨m, hm, rfl, hmv⟩ := kz.at_ hkv2
      have sT : Same H' (upd H' T0 (.tup [kV (.inr m.1), v])) := same_upd nT
      have tT : upd H' T0 (.tup [kV (.inr m.1), v]) T0 = some (.tup [kV (.inr m.1), v]) := upd_same
      generalize upd H' T0 (.tup [kV (.inr m.1), v]) = H9 at sT tT ⊢
      have s9 := s2.trans sT
      obtain ⟨t, tu, tc, tg, tm, rfl, h1, h2, h3, h4, h5⟩ := modV_ext (same_ext s9) hmv
      have hmm : m ∈ ms := pm.mem_iff.mp (List.mem_of_getElem? hm)
      refine ⟨T0, _, rfl, .inl (.inl tT), rfl, _, _, rfl, nameA ⟨_, _, rfl, nameA ⟨rfl, ?_⟩⟩⟩
      dsimp only
      refine ifA ⟨_, rfl, _, rfl, t, _, 1, _, rfl, rfl, h1, atI_nat (j := 1) rfl, tu, _, rfl, .inr h2, rfl, ?_, _, rfl, ?_⟩
      · rw [List.all_map]
        exact List.all_eq_true.mpr fun z _ => rfl
      · have hin : inV (.str n) (m.2.map V.str) = false := by
          have h := @inV_strs n m.2
          rw [if_neg (by decide)] at h
          rw [h]
          exact decide_eq_false (huse m hmm)
        rw [if_neg (by decide), hin]
        exact iteF (nextA ⟨⟨_, _, rfl⟩, s9⟩)
    · rintro σ H' ⟨⟨c2, c3, rfl⟩, s2⟩
      have m9 := s2 _ _ em
      refine ⟨m9, ?_⟩
      dsimp only
      have sO := sameO s2
      have t9 : Tabs T (upd H' dm (.dK mvs)) := tabs_set (tz.ext s2) m9 (fun _ z => by cases z) (fun _ z => by cases z)
      generalize upd H' dm (.dK mvs) = H9 at sO t9 ⊢
      have a9 := sO _ _ ha
      have d9 := sO _ _ hd
      have k9 : KD (ModV K H9) kvs ms := hk.mono fun _ _ => modV_ext (same_ext sO)
      obtain ⟨v, ev⟩ := hk.some hn
      have ad : a ≠ d := fun e => by rw [e, hd] at ha; cases ha
      refine seqA ⟨_, rfl, a, CL, dx, _, _, rfl, a9, clL, nCL _ (by simp), rfl, _, rfl, d, kvs, .inr n, rfl, d9, rfl, by rw [ev]; rfl, ?_⟩
      dsimp only
      have ntd : NoTup [d] H9 := fun b m xs k => by
        rcases List.mem_singleton.mp m with rfl
        rcases k with k | ⟨o, k⟩ <;> · rw [d9] at k; cases k
      have fd : Fr [d] H9 (upd H9 d (.dK (dropK kvs (.inr n)))) := (Fr.refl H9).set (by simp)
      have a10 := fd _ _ (fun m => ad (List.mem_singleton.mp m)) a9
      have d10 : upd H9 d (.dK (dropK kvs (.inr n))) d = some (.dK (dropK kvs (.inr n))) := upd_same
      have k10 : KD (ModV K (upd H9 d (.dK (dropK kvs (.inr n))))) (dropK kvs (.inr n)) (ms.filter (fun m => decide (m.1 ≠ n))) := k9.drop.mono fun _ _ => modV_fr (FrN.of fd) ntd
      have t10 : Tabs T (upd H9 d (.dK (dropK kvs (.inr n)))) := tabs_set t9 d9 (fun _ z => by cases z) (fun _ z => by cases z)
      generalize upd H9 d (.dK (dropK kvs (.inr n))) = H10 at fd a10 d10 k10 t10 ⊢
      refine ⟨_, rfl, a, CL, dx, _, _, rfl, a10, clL, nCL _ (by simp), rfl, d, _, rfl, d10, fun l nl => ?_⟩
      have s11 : Same H10 (upd H10 l (.lst ((dropK kvs (.inr n)).map (·.2)))) := same_upd nl
      have l11 : upd H10 l (.lst ((dropK kvs (.inr n)).map (·.2))) l = some (.lst ((dropK kvs (.inr n)).map (·.2))) := upd_same
      generalize upd H10 l (.lst ((dropK kvs (.inr n)).map (·.2))) = H11 at s11 l11 ⊢
      refine fun x dx2 nx ndx nxd => ⟨x, dx2, l, _, _, rfl, upd_same, SqL.of (mk_same nx ndx _ _ l11), (k10.vals.mono fun _ _ => modV_ext (same_ext s11)).mono fun _ _ => modV_ext (same_ext (mk_same nx ndx)), ?_, ?_, (t10.ext s11).ext (mk_same nx ndx), fun H2 f2 t3 at2 => ⟨rfl, ?_⟩⟩
      · exact ((List.filter_sublist).map _).nodup nd
      · have := List.length_filter_le (fun m : Mo => decide (m.1 ≠ n)) ms
        omega
      have x2 : ExtN H10 H2 := fun b o e k => made_frn nx ndx f2 b o (s11 _ _ e) k
      have a12 : H2 a = some (.ins CL dx (linkF d at_)) := x2 _ _ a10 (fun _ z => by cases z)
      refine ⟨_, rfl, a, CL, dx, _, rfl, a12, clL, nCL _ (by simp), Nat.le_of_ble_eq_true rfl, ?_⟩
      obtain ⟨H3, eH3, b3, e3⟩ := fld_next (a := a) (Fr.refl (A := [a]) H2) (C := CL) (dx := dx) (fs' := linkF d x) (f := "_atlas") (y := .ref x) (fs := linkF d at_) rfl
      rw [eH3]
      have m2 : ∀ {b : Addr}, b ∉ [a, d] → b ∉ [a] ∧ b ∉ [d] := fun h => by simp at h; simp [h]
      refine q H3 (fun b o nn k e => ?_) (tabs_fr t3 b3 a12 (fun _ z => by cases z) (fun _ z => by cases z)) ⟨dx, x, _, e3, b3 _ _ (fun m => ad (List.mem_singleton.mp m).symm) (x2 _ _ d10 (fun _ z => by cases z)), (k10.mono fun _ _ => modV_ext x2).mono fun _ _ => modV_fr (FrN.of b3) (ins_nt' a12), atlas_fr b3 a12 nLA nLE at2.to⟩
      exact b3 _ _ (m2 nn).1 (x2 _ _ (fd _ _ (m2 nn).2 (sO _ _ e)) k)
end
end Cw

set_option Elab.async false
set_option linter.all false
set_option maxRecDepth 100000
set_option maxHeartbeats 4000000
namespace Cw
open PySem PySem.CwEx PySem.Spec PyProof.Rows L2 LamX
/-- what a raise of load leaves: nothing that stood has changed -/
def WrN (C : Addr) (fs : Fs) (T : List (Addr × Str)) (H : Hp) (E : XK) : Prop := ∀ d H', ExtN H H' → Tabs T H' → H' d = some (.xd fs) → E (.ref C) (some d) H'
theorem WrN.wr {C : Addr} {fs : Fs} {T : List (Addr × Str)} {H H1 : Hp} {E : XK} (h : WrN C fs T H E) (x : ExtN H H1) (t : Tabs T H1) : Wr C fs H1 E := fun d H' s e => h d H' (x.trans (same_ext s)) (t.ext s) e
def spLoad (K : PySem.W.Frag) (CA CE CL CMU CUL : Addr) (T : List (Addr × Str)) : Sp := fun vs H Q E => ∃ (a d : Addr) (v : V) (n : Str) (us : List Str) (ms : List Mo), vs = [.ref a, v] ∧ LinkAt K CA CE CL H a d ms ∧ Dp K H v (modD (n, us)) ∧ isNameS n = true ∧ (∀ u, u ∈ us → isNameS u = true) ∧ us.length ≤ 4 ∧ n ≠ "base" ∧ n ∉ names ms ∧ (names ms).Nodup ∧ ("base" : Str) ∉ names ms ∧ ms.length ≤ 100 ∧ Tabs T H ∧
  (((∀ u, u ∈ us → u ∈ names ms) ∧ us.Nodup ∧ ms.length + 1 ≤ 12 ∧ (∃ k res, Reach (ms ++ [(n, us)]) k [] [n] res ∧ k ≤ 9000 ∧ ("base" : Str) ∉ res ∧ res.length ≤ 6) ∧ ∀ H', FrN [a, d] H H' → Tabs T H' → LinkAt K CA CE CL H' a d (ms ++ [(n, us)]) → Q .non H') ∨
   (((∀ u, u ∈ us → u ∈ names ms) ∧ (¬ us.Nodup ∨ (us.Nodup ∧ (12 < ms.length + 1 ∨ ∃ k res, Reach (ms ++ [(n, us)]) k [] [n] res ∧ k ≤ 9000 ∧ ("base" : Str) ∉ res ∧ 6 < res.length)))) ∧ WrN CUL [("at", .int 0), ("rule", .str "uses")] T H E) ∨
   ∃ pre x post, us = pre ++ x :: post ∧ (∀ u, u ∈ pre → u ∈ names ms) ∧ x ∉ names ms ∧ WrN CMU [("name", .str x)] T H E)
theorem name_len {z : Str} (h : isNameS z = true) : z.length ≤ 12 := by
  unfold isNameS at h
  simp only [Bool.and_eq_true, decide_eq_true_eq] at h
  exact h.1.1.2
theorem ok_modD {n : Str} {us : List Str} (hn : n.length ≤ 12) (hu : ∀ u, u ∈ us → u.length ≤ 12) (hl : us.length ≤ 100) : Ok (modD (n, us)) := by
  refine .tuple _ (by show 5 ≤ 100000; decide) fun d m => ?_
  simp only [List.mem_cons, List.not_mem_nil, or_false] at m
  rcases m with rfl | rfl | rfl | rfl | rfl
  · exact .str _ (by show n.length ≤ _; omega)
  · refine .tuple _ (by show (us.map PyData.str).length ≤ _; rw [List.length_map]; omega) fun d m => ?_
    obtain ⟨u, h, rfl⟩ := List.mem_map.mp m
    exact .str _ (by have := hu u h; omega)
  all_goals exact .tuple _ (Nat.zero_le _) fun d m => by cases m
theorem sz_modD {n : Str} {us : List Str} (hn : n.length ≤ 12) (hu : ∀ u, u ∈ us → u.length ≤ 12) (hl : us.length ≤ 100) : Sz 10000 2 (modD (n, us)) := by
  refine .tuple 1 _ (by show 5 ≤ 10000; decide) fun d m => ?_
  simp only [List.mem_cons, List.not_mem_nil, or_false] at m
  rcases m with rfl | rfl | rfl | rfl | rfl
  · exact .str _ _ (by show n.length ≤ _; omega)
  · refine .tuple 0 _ (by show (us.map PyData.str).length ≤ _; rw [List.length_map]; omega) fun d m => ?_
    obtain ⟨u, h, rfl⟩ := List.mem_map.mp m
    exact .str _ _ (by have := hu u h; omega)
  all_goals exact .tuple 0 _ (Nat.zero_le _) fun d m => by cases m
theorem is_modD {n : Str} {us : List Str} (hn : isNameS n = true) (hu : ∀ u, u ∈ us → isNameS u = true) (hl : us.length ≤ 4) : isModule (modD (n, us)) = true := by
  show (isSeq 5 5 (modD (n, us)) && (isName (.str n) && (allOf 0 4 isName (.tuple (us.map .str)) && (allOf 0 6 isClass (.tuple []) && (allOf 0 3 isGeneric (.tuple []) && allOf 0 8 isMethod (.tuple [])))))) = true
  have h1 : isName (.str n) = true := hn
  have h2 : allOf 0 4 isName (.tuple (us.map .str)) = true := by
    unfold allOf
    rw [Bool.and_eq_true]
    constructor
    · show (decide ((0 : Int) ≤ ((us.map PyData.str).length : Int)) && decide (((us.map PyData.str).length : Int) ≤ 4)) = true
      rw [List.length_map]
      simp
      omega
    · show ((us.map PyData.str)).all isName = true
      rw [List.all_map]
      exact List.all_eq_true.mpr fun u m => hu u m
  rw [h1, h2]
  rfl
section
variable {P : Program} {w : World} {K : PySem.W.Frag} {mg : Str → Option Value} {base : Heap} {C0 CMU CUL CL fMU fUL : Addr} {dMU dUL : FuncData} {CE CA CP CS : Addr} {T : List (Addr × Str)}
abbrev s_Link_load : Stmt := inClass (topS 105) 1
theorem sc_Link_load : FnScope ["self", "module", "added", "name", "atlas"] ["self", "module"] (defScope s_Link_load) := ⟨rfl, rfl, rfl, by decide +kernel, rfl, by decide +kernel, by decide +kernel⟩
theorem ok_Link_load {f : Addr} {fd : FuncData} (F : Fun K "load" "Link.load" s_Link_load f fd) {f_Atlas_init : Addr} {d_Atlas_init : FuncData} (K_Atlas : CI K mg "Atlas" ["self", "modules"] CA f_Atlas_init d_Atlas_init) {f_Atlas_view : Addr} {d_Atlas_view : FuncData} (M_Atlas_view : MI K CA "view" ["self", "module"] f_Atlas_view d_Atlas_view) {f_is_module : Addr} {d_is_module : FuncData} (h_is_module : Hd K mg "is_module" s_is_module ["value"] f_is_module d_is_module) (G_is_module : FnOk P w K mg base CX0 12 f_is_module d_is_module ["value"] (sp1 K isModule)) {f_plain : Addr} {d_plain : FuncData} (h_plain : Hd K mg "plain" s_plain ["value"] f_plain d_plain) (G_plain : FnOk P w K mg base CX0 4 f_plain d_plain ["value"] (spPlain K 3)) {f_check_uses : Addr} {d_check_uses : FuncData} (h_check_uses : Hd K mg "check_uses" s_check_uses ["modules", "name", "uses"] f_check_uses d_check_uses) (G_check_uses : FnOk P w K mg base (L2.CX P w) 4 f_check_uses d_check_uses ["modules", "name", "uses"] (spCU K T CMU CUL)) (G_Atlas_init : FnOk P w K mg base CX0 6 f_Atlas_init d_Atlas_init ["self", "modules"] (spAI K CA CE T)) (G_Atlas_view : FnOk P w K mg base CX0 2 f_Atlas_view d_Atlas_view ["self", "module"] (spView K CA CE)) {f_check_rules : Addr} {d_check_rules : FuncData} (h_check_rules : Hd K mg "check_rules" s_check_rules ["atlas", "name"] f_check_rules d_check_rules) (G_check_rules : FnOk P w K mg base CX0 10 f_check_rules d_check_rules ["atlas", "name"] (spRules K CA CE T)) {u_MOST_MODULES : Value} (h_MOST_MODULES : Cst K mg "MOST_MODULES" (.int 12) u_MOST_MODULES) {u_MOST_VIEWED : Value} (h_MOST_VIEWED : Cst K mg "MOST_VIEWED" (.int 6) u_MOST_VIEWED) (m_list : mg "list" = none) (m_len : mg "len" = none) (clL : Cls K CL) (nCL : NA K CL ["_modules", "_atlas"]) (nCA : NA K CA ["modules", "classes", "generics", "methods", "_uses", "_parents", "_aboves"]) (nLA : CL ≠ CA) (nLE : CL ≠ CE) (EUnlawful : UnlE K mg C0 CUL fUL dUL) : FnOk P w K mg base (L2.CX P w) 14 f fd ["self", "module"] (spLoad K CA CE CL CMU CUL T) := by
  refine F.okX sc_Link_load (fun vs H Q E h => ?_) (fun cdv A outer s H vs Q E hr h => ?_)
  · obtain ⟨_, _, _, _, _, _, rfl, _⟩ := h
    rfl
  · obtain ⟨a, d, v, n, us, ms, rfl, ⟨dx, at_, kvs, ha, hd, hk, hat⟩, hv, hn, hu, hlu, nb, nn, nd, nbs, hlen, hT, way⟩ := h
    have clA := K_Atlas.cl
    have ad : a ≠ d := fun e => by rw [e, hd] at ha; cases ha
    have ln := name_len hn
    have lu : ∀ u, u ∈ us → u.length ≤ 12 := fun u m => name_len (hu u m)
    refine ⟨_, (pss_cons (ps_if (pt_not (pt_val (pe_call G_is_module (hr.mono (by decide)) (by rfl) h_is_module.g h_is_module.F.kp h_is_module.b .nil pass0 (pa_cons (pv 1) pa_nil)))) (pss_one ps_dead) pss_nil)
  (pss_cons (ps_set (i := 2) sc_Link_load.nd rfl (.inl rfl) (pe_call G_plain (hr.mono (by decide)) (by rfl) h_plain.g h_plain.F.kp h_plain.b .nil pass0 (pa_cons (pv 1) pa_nil)))
  (pss_cons (ps_set (i := 3) sc_Link_load.nd rfl (.inl rfl) (pe_ix ix_tup (pv 2) pe_int (fun _ _ => rfl)))
  (pss_cons (ps_expr (pe_call G_check_uses (hr.mono (by decide)) (by rfl) h_check_uses.g h_check_uses.F.kp h_check_uses.b .nil (passes_call (takes_of rfl rfl rfl rfl) (fun _ _ _ _ h => h)) (pa_cons (pe_fld (pv 0) rfl) (pa_cons (pv 3) (pa_cons (pe_ix ix_tup (pv 2) pe_int (fun _ _ => rfl)) pa_nil)))))
  (pss_cons (ps_set (i := 4) sc_Link_load.nd rfl (.inl rfl) (pe_make K_Atlas.m G_Atlas_init (hr.mono (by decide)) rfl K_Atlas.g K_Atlas.b .nil pass0 (pa_cons (pe_op op_cat (pe_listVals rfl (pe_fld (pv 0) rfl) rfl m_list (by decide +kernel)) (pe_lst (pa_cons (pv 2) pa_nil))) pa_nil)))
  (pss_cons (ps_if (PW.pt (pw_or (pt_cmpR op_gt (pe_callB call_lenD (by rfl) m_len PySem.boot_len (pa_cons (pe_fld (pv 4) rfl) pa_nil)) (pe_glob (v := .int 12) rfl h_MOST_MODULES.g h_MOST_MODULES.r) (nomark _)) (pw_or1 (pt_cmpR op_gt (pe_op op_sub (pe_callB call_lenD (by rfl) m_len PySem.boot_len (pa_cons (pe_meth (pv 4) K_Atlas.cl M_Atlas_view.m G_Atlas_view (hr.mono (by decide)) M_Atlas_view.b .nil pass0 (pa_cons (pv 3) pa_nil)) pa_nil)) pe_int) (pe_glob (v := .int 6) rfl h_MOST_VIEWED.g h_MOST_VIEWED.r) (nomark _))))) (pss_one (ps_raise rfl (takes_of rfl rfl rfl rfl) (by exact (pmk_cx EUnlawful.cx EUnlawful.iC EUnlawful.tI (okI_Unlawful (k := 0) EUnlawful.F) (hr.mono (by decide)) (bI_Unlawful EUnlawful.F) pass0 rfl EUnlawful.gC (pa_cons pe_str (pa_cons pe_int pa_nil)))))) pss_nil)
  (pss_cons (ps_expr (pe_call G_check_rules (hr.mono (by decide)) (by rfl) h_check_rules.g h_check_rules.F.kp h_check_rules.b .nil pass0 (pa_cons (pv 4) (pa_cons (pv 3) pa_nil))))
  (pss_cons (ps_dput (hu_of hr) (pe_fld (pv 0) rfl) (pv 3) (pv 2) rfl)
  (pss_one (ps_fld (pv 0) (pv 4) rfl)))))))))), ?_⟩
    try dsimp only [cxOf]
    refine seqA (ifA ⟨_, rfl, v, modD (n, us), rfl, hv, ok_modD ln lu (by omega), fun H1 s1 => ⟨_, rfl, ?_⟩⟩)
    rw [is_modD hn hu hlu]
    refine iteF' rfl (nextA ?_)
    dsimp only
    refine seqA (asgA ⟨_, rfl, v, modD (n, us), rfl, dp_keep s1 hv, sz_modD ln lu (by omega), fun y H2 s2 hy => nameA ?_⟩)
    dsimp only
    obtain ⟨t, tu, tc, tg, tm, rfl, h1, h2, h3, h4, h5⟩ := modV_of hy
    have hmv : ModV K H2 (.ref t) (n, us) := ⟨t, tu, tc, tg, tm, rfl, h1, h2, h3, h4, h5⟩
    have s12 := s1.trans s2
    refine seqA (asgA ⟨_, rfl, t, _, 0, _, rfl, rfl, h1, atI_nat (j := 0) rfl, nameA ?_⟩)
    dsimp only
    have a2 := s12 _ _ ha
    have d2 := s12 _ _ hd
    have t2 := hT.ext s12
    refine seq_merge (fun σ' H' => σ' = [some (.ref a), some v, some (.ref t), some (.str n), none] ∧ H' = H2 ∧ (∀ u, u ∈ us → u ∈ names ms) ∧ us.Nodup) ?_ (fun kont => ?_)
    rotate_left
    · refine ⟨_, rfl, a, CL, dx, _, _, rfl, a2, clL, nCL _ (by simp), rfl, _, rfl, _, rfl, t, _, 1, _, rfl, rfl, h1, atI_nat (j := 1) rfl, d, tu, n, us, ModV K H, kvs, ms, rfl, d2, hk, nb, nn, h2, by omega, ?_⟩
      rcases way with ⟨all, un, _⟩ | ⟨⟨all, un | ⟨un, _⟩⟩, wr⟩ | ⟨pre, x, post, e, hpre, hx, wr⟩
      · exact .inl ⟨all, un, kont _ _ ⟨rfl, rfl, all, un⟩⟩
      · exact .inr (.inl ⟨all, un, wr.wr (same_ext s12) t2⟩)
      · exact .inl ⟨all, un, kont _ _ ⟨rfl, rfl, all, un⟩⟩
      · exact .inr (.inr ⟨pre, x, post, e, hpre, hx, wr.wr (same_ext s12) t2⟩)
    rintro σ' H' ⟨rfl, rfl, all, un⟩
    have nd2 : (names (ms ++ [(n, us)])).Nodup := by
      rw [names, List.map_append]
      refine List.nodup_append.mpr ⟨nd, by simp, fun x hx y hy => ?_⟩
      have hy : y = n := by simpa using hy
      subst hy
      exact fun e => nn (e ▸ hx)
    have nb2 : ("base" : Str) ∉ names (ms ++ [(n, us)]) := by
      rw [names, List.map_append]
      intro m
      rcases List.mem_append.mp m with m | m
      · exact nbs m
      · have m : ("base" : Str) = n := by simpa using m
        exact nb m.symm
    have hl2 : (ms ++ [(n, us)]).length = ms.length + 1 := by rw [List.length_append]; rfl
    have hkl := hk.len
    refine seqA (asgA ⟨_, rfl, a, CL, dx, _, _, rfl, a2, clL, nCL _ (by simp), rfl, d, kvs, rfl, d2, fun p np => ?_⟩)
    have s3 : Same H' (upd H' p (.lst (kvs.map (·.2)))) := same_upd np
    have p3 : upd H' p (.lst (kvs.map (·.2))) p = some (.lst (kvs.map (·.2))) := upd_same
    generalize upd H' p (.lst (kvs.map (·.2))) = H3 at s3 p3 ⊢
    refine ⟨_, rfl, (by show 1 ≤ sizeLine; decide), fun q3 nq => ?_⟩
    have s4 : Same H3 (upd H3 q3 (.lst [.ref t])) := same_upd nq
    have q4 : upd H3 q3 (.lst [.ref t]) q3 = some (.lst [.ref t]) := upd_same
    have p4 := s4 _ _ p3
    generalize upd H3 q3 (.lst [.ref t]) = H4 at s4 p4 q4 ⊢
    refine ⟨p, q3, _, _, rfl, rfl, p4, q4, ?_, fun r nr => ?_⟩
    · rw [List.length_map]
      exact Nat.le_trans (by show kvs.length + 1 ≤ 101; omega) (by decide)
    have s5 : Same H4 (upd H4 r (.lst (kvs.map (·.2) ++ [.ref t]))) := same_upd nr
    have r5 : upd H4 r (.lst (kvs.map (·.2) ++ [.ref t])) r = some (.lst (kvs.map (·.2) ++ [.ref t])) := upd_same
    generalize upd H4 r (.lst (kvs.map (·.2) ++ [.ref t])) = H5 at s5 r5 ⊢
    have s25 : Same H' H5 := (s3.trans s4).trans s5
    have vd5 : VD (ModV K H5) (kvs.map (·.2) ++ [.ref t]) (ms ++ [(n, us)]) := ((hk.mono fun _ _ => modV_ext (same_ext (s12.trans s25))).vals).app (modV_ext (same_ext s25) hmv)
    refine fun x dx2 nx ndx nxd => ⟨x, dx2, r, _, ms ++ [(n, us)], rfl, upd_same, SqL.of (mk_same nx ndx _ _ r5), vd5.mono fun _ _ => modV_ext (same_ext (mk_same nx ndx)), nd2, by omega, (t2.ext s25).ext (mk_same nx ndx), fun H6 f6 t6 atF => ⟨rfl, nameA ?_⟩⟩
    have at6 := atF.to
    dsimp only
    have x6 : ExtN H H6 := fun b o e k => made_frn nx ndx f6 b o (s25 _ _ (s12 _ _ e)) k
    have x26 : ExtN H' H6 := fun b o e k => made_frn nx ndx f6 b o (s25 _ _ e) k
    have hmv6 := modV_ext x26 hmv
    have at6' := at6
    obtain ⟨dm, dc, dg, dt, du, dp, da, mvs, uvs, v1, v2, ms2, ⟨dxA, hx6⟩, pm6, hdm6, hkv6, hrest6⟩ := at6'
    have hml : mvs.length = ms.length + 1 := by rw [hkv6.len, pm6.length_eq, hl2]
    refine seqA (ifA ⟨_, rfl, x, CA, dxA, _, _, rfl, hx6, clA, nCA _ (by simp), rfl, dm, mvs, rfl, hdm6, _, _, rfl, rfl, _, rfl, ?_⟩)
    rw [hml]
    have raiseU : WrN CUL [("at", .int 0), ("rule", .str "uses")] T H E → ∀ {H7 : Hp}, Same H6 H7 → Wr CUL [("at", .int 0), ("rule", .str "uses")] H7 E := fun wr {H7} s7 => wr.wr (fun b o e k => s7 _ _ (x6 b o e k)) (t6.ext s7)
    by_cases big : 12 < ms.length + 1
    · rw [decide_eq_true (by omega : (12 : Int) < ((ms.length + 1 : Nat) : Int))]
      rcases way with ⟨_, _, h, _⟩ | ⟨_, wr⟩ | ⟨pre, y, post, e, hpre, hy, wr⟩
      · omega
      · exact iteT' rfl ⟨Nat.le_of_ble_eq_true rfl, fun b nb => go2 EUnlawful.cx (EUnlawful.no _ (by simp)) (EUnlawful.no _ (by simp)) (raiseU wr (Same.refl H6)) b nb⟩
      · exact absurd (all y (by rw [e]; simp)) hy
    rw [decide_eq_false (by omega : ¬ (12 : Int) < ((ms.length + 1 : Nat) : Int))]
    refine iteF' rfl ?_
    obtain ⟨k, res, rc, hk9, nr2, fin⟩ : ∃ k res, Reach (ms ++ [(n, us)]) k [] [n] res ∧ k ≤ 9000 ∧ ("base" : Str) ∉ res ∧ ((res.length ≤ 6 ∧ ∀ H', FrN [a, d] H H' → Tabs T H' → LinkAt K CA CE CL H' a d (ms ++ [(n, us)]) → Q .non H') ∨ (6 < res.length ∧ WrN CUL [("at", .int 0), ("rule", .str "uses")] T H E)) := by
      rcases way with ⟨_, _, _, ⟨k, res, g1, g2, g3, g4⟩, q⟩ | ⟨⟨_, h | ⟨_, h | ⟨k, res, g1, g2, g3, g4⟩⟩⟩, wr⟩ | ⟨pre, y, post, e, hpre, hy, wr⟩
      · exact ⟨k, res, g1, g2, g3, .inl ⟨g4, q⟩⟩
      · exact absurd un h
      · exact absurd h big
      · exact ⟨k, res, g1, g2, g3, .inr ⟨g4, wr⟩⟩
      · exact absurd (all y (by rw [e]; simp)) hy
    refine ⟨_, rfl, x, dxA, _, rfl, hx6, rfl, _, rfl, x, n, ms ++ [(n, us)], res, k, rfl, at6, nd2, rc, hk9, nr2, fun p7 H7 s7 np7 e7 => ⟨p7, _, rfl, e7, _, _, rfl, rfl, _, _, rfl, rfl, _, rfl, ?_⟩⟩
    have hlr : ((((res ++ [("base" : Str)]).map tk).length : Nat) : Int) - 1 = (res.length : Int) := by
      rw [List.length_map, List.length_append]
      show ((res.length + 1 : Nat) : Int) - 1 = _
      omega
    rw [hlr]
    rcases fin with ⟨h6, q⟩ | ⟨h6, wr⟩
    rotate_left
    · rw [decide_eq_true (by omega : (6 : Int) < (res.length : Int))]
      exact iteT' rfl ⟨Nat.le_of_ble_eq_true rfl, fun b nb => go2 EUnlawful.cx (EUnlawful.no _ (by simp)) (EUnlawful.no _ (by simp)) (raiseU wr s7) b nb⟩
    rw [decide_eq_false (by omega : ¬ (6 : Int) < (res.length : Int))]
    refine iteF' rfl (nextA ?_)
    dsimp only
    refine seqA ⟨_, rfl, _, rfl, x, n, us, ms ++ [(n, us)], res, k, rfl, atlas_ext (same_ext s7) at6, nd2, nb2, by omega, by simp, rc, hk9, nr2, h6, t6.ext s7, fun H8 x8 t8 => ?_⟩
    dsimp only
    have x68 : ExtN H6 H8 := fun b o e k => x8 b o (s7 _ _ e) k
    have x08 : ExtN H H8 := fun b o e k => x68 b o (x6 b o e k) k
    have a8 := x08 _ _ ha (fun _ z => by cases z)
    have d8 := x08 _ _ hd (fun _ z => by cases z)
    refine seqA ⟨_, rfl, _, rfl, a, CL, dx, _, _, rfl, a8, clL, nCL _ (by simp), rfl, _, rfl, d, _, rfl, DPut.k (k := .inr n) d8 (Nat.lt_of_le_of_lt (by omega : kvs.length ≤ 100) (by decide)), ?_⟩
    dsimp only
    have ntd : NoTup [d] H8 := fun b m xs k => by
      rcases List.mem_singleton.mp m with rfl
      rcases k with k | ⟨o, k⟩ <;> · rw [d8] at k; cases k
    have fd : Fr [d] H8 (upd H8 d (.dK (putK kvs (.inr n) (.ref t)))) := (Fr.refl H8).set (by simp)
    have nda : ∀ {b : Addr}, b ≠ d → b ∉ [d] := fun h m => h (List.mem_singleton.mp m)
    have a9 := fd _ _ (nda ad) a8
    have d9 : upd H8 d (.dK (putK kvs (.inr n) (.ref t))) d = some (.dK (putK kvs (.inr n) (.ref t))) := upd_same
    have k9 : KD (ModV K (upd H8 d (.dK (putK kvs (.inr n) (.ref t))))) (putK kvs (.inr n) (.ref t)) (ms ++ [(n, us)]) :=
      ((hk.mono fun _ _ => modV_ext x08).mono fun _ _ => modV_fr (FrN.of fd) ntd).put (m := (n, us)) (modV_fr (FrN.of fd) ntd (modV_ext x68 hmv6)) nn
    have t9 : Tabs T (upd H8 d (.dK (putK kvs (.inr n) (.ref t)))) := tabs_set t8 d8 (fun _ z => by cases z) (fun _ z => by cases z)
    have at9 : AtlasAt K CA CE (upd H8 d (.dK (putK kvs (.inr n) (.ref t)))) x (ms ++ [(n, us)]) := (atF.ext x68).set (kv0 := kvs) (mk_same nx ndx _ _ (s25 _ _ d2)) d8
    generalize upd H8 d (.dK (putK kvs (.inr n) (.ref t))) = H9 at fd a9 d9 k9 t9 at9 ⊢
    refine ⟨_, rfl, _, rfl, a, CL, dx, _, rfl, a9, clL, nCL _ (by simp), Nat.le_of_ble_eq_true rfl, ?_⟩
    obtain ⟨H10, eH10, b10, e10⟩ := fld_next (a := a) (Fr.refl (A := [a]) H9) (C := CL) (dx := dx) (fs' := linkF d x) (f := "_atlas") (y := .ref x) (fs := linkF d at_) rfl
    rw [eH10]
    have m2 : ∀ {b : Addr}, b ∉ [a, d] → b ∉ [a] ∧ b ∉ [d] := fun h => by simp at h; simp [h]
    refine q H10 (fun b o nn k e => b10 _ _ (m2 nn).1 (fd _ _ (m2 nn).2 (x08 b o e k))) (tabs_fr t9 b10 a9 (fun _ z => by cases z) (fun _ z => by cases z)) ⟨dx, x, _, e10, b10 _ _ (fun m => ad (List.mem_singleton.mp m).symm) d9, k9.mono fun _ _ => modV_fr (FrN.of b10) (ins_nt' a9), atlas_fr b10 a9 nLA nLE at9⟩
end
end Cw

set_option Elab.async false
set_option linter.all false
set_option maxRecDepth 100000
set_option maxHeartbeats 2000000
/-! # CwMethS: o.m(e, ..), what it raises wished for at the caller's slots -/
namespace L2
open PySem PySem.Spec PyProof.Rows
def tMethAt (C : Addr) (m : Str) (sp : Sp) (E : St → XK) (ta : TE) (t : TA) : TE := fun σ H Q => ta σ H fun x H1 => ∃ (a dx : Addr) (fs : List (Str × V)), x = .ref a ∧ H1 a = some (.ins C dx fs) ∧ fs.lookup m = none ∧ t σ H1 fun vs H2 => sp (x :: vs) H2 Q (E σ)
section
variable {X : Cx} {CX : CXT} {k : Nat} {f C : Addr} {fd : FuncData} {ps : List Str} {sp : Sp} {E : St → XK} {m : Str} {apos pos : Pos} {e o : Expr} {es : List Expr} {ta : TE} {t : TA}
theorem pe_methAt {pl : Sem Bool} (he : PE X o ta) (c : Cls X.K C) (hm : Meth X.K C m f) (F : FnOk X.prog X.w X.K X.mg X.base CX k f fd ps sp) (hr : Room k X.A) (hb : Binds X.K fd ps []) (hx : ∀ σ, PassesAt CX X σ (E σ)) (ha : PA X (e :: es) t)
    (z1 : starEach (e :: es) X.env = (false, eval e X.env) :: starEach es X.env := by rfl)
    (z2 : (backTo pos (starEach es X.env)).any (·.1) = false := by rfl)
    (z3 : eval (.Call (.Attribute o m apos) (e :: es) [] pos) X.env = (do
      let ov ← eval o X.env
      standAt apos.atName
      let (g, first) ← holding [ov] (getMethod ov m pl)
      callWith pos g first (backTo pos (starEach (e :: es) X.env)) (backToKw pos (keywordEach [] X.env))) := by rfl) :
    PE X (.Call (.Attribute o m apos) (e :: es) [] pos) (tMethAt C m sp E ta t) := by
  refine ⟨fun pins s σ H Q I h => PySem.W.methodCall_KW (pl := pl) (thn (he.run pins s σ H _ I h) fun u s1 hh => ?_) z3⟩
  obtain ⟨x, H1, J, rx, a, dx, fs, rfl, ea, l, q⟩ := hh
  cases rx
  refine getmeth_ok J ea c hm l (PySem.W.callWith_K (first := [.ref a]) (h₀ := X.base) J.ok.mod.kin hm.kp (thn (ha.run pos pins s1 σ H1 _ J q) fun us s2 hh => ?_) z1 z2)
  obtain ⟨vs, H2, J2, r, q2⟩ := hh
  exact ⟨J2.kIn, run_fnS (us := .ref a :: us) (vs := .ref a :: vs) F hr hb (hx σ) J2 (.cons rfl r) q2⟩
end
end L2

set_option Elab.async false
set_option linter.all false
set_option maxRecDepth 100000
set_option maxHeartbeats 4000000
namespace Cw
open PySem PySem.CwEx PySem.Spec PyProof.Rows L2 LamX
def unlD : PyData := .tuple [.str "unlawful", .str "uses", .int 0]
def missD (x : Str) : PyData := .tuple [.str "missing", .str x]
def spLT (K : PySem.W.Frag) (CA CE CL : Addr) (T : List (Addr × Str)) : Sp := fun vs H Q _ => ∃ (a d : Addr) (v : V) (n : Str) (us : List Str) (ms : List Mo), vs = [.ref a, v] ∧ LinkAt K CA CE CL H a d ms ∧ Dp K H v (modD (n, us)) ∧ isNameS n = true ∧ (∀ u, u ∈ us → isNameS u = true) ∧ us.length ≤ 4 ∧ n ≠ "base" ∧ n ∉ names ms ∧ (names ms).Nodup ∧ ("base" : Str) ∉ names ms ∧ ms.length ≤ 100 ∧ Tabs T H ∧
  (((∀ u, u ∈ us → u ∈ names ms) ∧ us.Nodup ∧ ms.length + 1 ≤ 12 ∧ (∃ k res, Reach (ms ++ [(n, us)]) k [] [n] res ∧ k ≤ 9000 ∧ ("base" : Str) ∉ res ∧ res.length ≤ 6) ∧ ∀ H', FrN [a, d] H H' → Tabs T H' → LinkAt K CA CE CL H' a d (ms ++ [(n, us)]) → Q .non H') ∨
   (((∀ u, u ∈ us → u ∈ names ms) ∧ (¬ us.Nodup ∨ (us.Nodup ∧ (12 < ms.length + 1 ∨ ∃ k res, Reach (ms ++ [(n, us)]) k [] [n] res ∧ k ≤ 9000 ∧ ("base" : Str) ∉ res ∧ 6 < res.length)))) ∧ ∀ y H', ExtN H H' → Tabs T H' → Dp K H' y unlD → Q y H') ∨
   ∃ pre x post, us = pre ++ x :: post ∧ (∀ u, u ∈ pre → u ∈ names ms) ∧ x ∉ names ms ∧ ∀ y H', ExtN H H' → Tabs T H' → Dp K H' y (missD x) → Q y H')
section
variable {P : Program} {w : World} {K : PySem.W.Frag} {mg : Str → Option Value} {base : Heap} {CBV CTN CNC C0 CMU CUL CL fMU fUL : Addr} {dMU dUL : FuncData} {CE CA CP CS : Addr} {T : List (Addr × Str)}
abbrev s__law_load_told : Stmt := topS 116
theorem sc__law_load_told : FnScope ["link", "module", "wrong"] ["link", "module"] (defScope s__law_load_told) := ⟨rfl, rfl, rfl, by decide +kernel, rfl, by decide +kernel, by decide +kernel⟩
theorem ok__law_load_told {f : Addr} {fd : FuncData} (F : Fun K "_law_load_told" "_law_load_told" s__law_load_told f fd) {f_Link_init : Addr} {d_Link_init : FuncData} (K_Link : CI K mg "Link" ["self"] CL f_Link_init d_Link_init) {f_Link_load : Addr} {d_Link_load : FuncData} (M_Link_load : MI K CL "load" ["self", "module"] f_Link_load d_Link_load) (G_Link_load : FnOk P w K mg base (L2.CX P w) 14 f_Link_load d_Link_load ["self", "module"] (spLoad K CA CE CL CMU CUL T)) (EMissingUse : MissE K mg C0 CMU fMU dMU) (EUnlawful : UnlE K mg C0 CUL fUL dUL) (x_BadValue : mg "BadValue" = some (.ref CBV)) (x_TakenName : mg "TakenName" = some (.ref CTN)) (x_NotClosed : mg "NotClosed" = some (.ref CNC)) (e_MU_BV : PySem.W.exmOne K (.ref CMU) (.ref CBV) = some false) (e_MU_TN : PySem.W.exmOne K (.ref CMU) (.ref CTN) = some false) (e_MU_MU : PySem.W.exmOne K (.ref CMU) (.ref CMU) = some true) (e_UL_BV : PySem.W.exmOne K (.ref CUL) (.ref CBV) = some false) (e_UL_TN : PySem.W.exmOne K (.ref CUL) (.ref CTN) = some false) (e_UL_MU : PySem.W.exmOne K (.ref CUL) (.ref CMU) = some false) (e_UL_UL : PySem.W.exmOne K (.ref CUL) (.ref CUL) = some true) : FnOk P w K mg base CX0 16 f fd ["link", "module"] (spLT K CA CE CL T) := by
  refine F.ok sc__law_load_told (fun vs H Q E h => ?_) (fun cdv A outer s H vs Q E hr h => ?_)
  · obtain ⟨_, _, _, _, _, _, rfl, _⟩ := h
    rfl
  · obtain ⟨a, d, v, n, us, ms, rfl, hlk, hv, hn, hu, hlu, nb, nn, nd, nbs, hlen, hT, way⟩ := h
    have x_MissingUse := EMissingUse.gC
    have x_Unlawful := EUnlawful.gC
    obtain ⟨dx, at_, kvs, ha, hrest⟩ := id hlk
    refine ⟨_, (pss_cons (ps_try_manyAs (i := 2) (Wout := fun _ _ _ _ => False) rfl rfl sc__law_load_told.nd rfl rfl L2.takes0
      (fun W pn xe tk _ => pss_one (ps_expr (pe_methAt (pv 0) K_Link.cl M_Link_load.m G_Link_load (hr.mono (by decide)) M_Link_load.b (fun σ => passAt tk σ) (pa_cons (pv 1) pa_nil))))
      (HdsAs.cons ⟨rfl, by decide, Or.inl x_BadValue⟩ (fun a oe cls d pn hz hf => pss_one (ps_ret (pe_tup (pa_cons pe_str (pa_cons (by exact (pe_held hz hf (pv 2))) pa_nil)))))
        (HdsAs.cons ⟨rfl, by decide, Or.inl x_TakenName⟩ (fun a oe cls d pn hz hf => pss_one (ps_ret (pe_tup (pa_cons pe_str (pa_cons (by exact (pe_held hz hf (pv 2))) pa_nil)))))
        (HdsAs.cons ⟨rfl, by decide, Or.inl EMissingUse.gC⟩ (fun a oe cls d pn hz hf => pss_one (ps_ret (pe_tup (pa_cons pe_str (pa_cons (by exact (pe_held hz hf (pv 2))) pa_nil)))))
        (HdsAs.cons ⟨rfl, by decide, Or.inl EUnlawful.gC⟩ (fun a oe cls d pn hz hf => pss_one (ps_ret (pe_tup (pa_cons pe_str (pa_cons (by exact (pe_held hz hf (pv 2))) (pa_cons (by exact (pe_held hz hf (pv 2))) pa_nil))))))
        (HdsAs.cons ⟨rfl, by decide, Or.inl x_NotClosed⟩ (fun a oe cls d pn hz hf => pss_one (ps_ret (pe_tup (pa_cons pe_str (pa_cons (by exact (pe_held hz hf (pv 2))) pa_nil)))))
        .nil))))))
  (pss_one (ps_ret pe_non))), ?_⟩
    refine ⟨_, rfl, a, dx, _, rfl, ha, rfl, _, rfl, a, d, v, n, us, ms, rfl, hlk, hv, hn, hu, hlu, nb, nn, nd, nbs, hlen, hT, ?_⟩
    rcases way with ⟨w1, w2, w3, w4, q⟩ | ⟨w1, q⟩ | ⟨pre, x, post, w1, w2, w3, q⟩
    · exact .inl ⟨w1, w2, w3, w4, fun H' f t l => q H' f t l⟩
    · refine .inr (.inl ⟨w1, fun d2 H' x1 t1 e1 => ?_⟩)
      refine ⟨false, e_UL_BV, (fun e => by cases e), fun _ => ⟨false, e_UL_TN, (fun e => by cases e), fun _ => ⟨false, e_UL_MU, (fun e => by cases e), fun _ => ⟨true, e_UL_UL, fun _ a na => ?_, fun e => by cases e⟩⟩⟩⟩
      refine ⟨.ref a, rfl, rfl, CUL, C0, d2, _, .str "uses", rfl, EUnlawful.cx, EUnlawful.no _ (by simp), rfl, e1, rfl, .ref a, rfl, rfl, CUL, C0, d2, _, .int 0, rfl, EUnlawful.cx, EUnlawful.no _ (by simp), rfl, e1, rfl, Nat.le_of_ble_eq_true rfl, fun p np => ?_⟩
      exact q (.ref p) _ (fun b o e k => same_upd np _ _ (x1 b o e k)) (tabs_upd t1 np) (.tup (.inl (.inl upd_same)) (.cons (.str _) (.cons (.str _) (.cons (.int _) .nil))))
    · refine .inr (.inr ⟨pre, x, post, w1, w2, w3, fun d2 H' x1 t1 e1 => ?_⟩)
      refine ⟨false, e_MU_BV, (fun e => by cases e), fun _ => ⟨false, e_MU_TN, (fun e => by cases e), fun _ => ⟨true, e_MU_MU, fun _ a na => ?_, fun e => by cases e⟩⟩⟩
      refine ⟨.ref a, rfl, rfl, CMU, C0, d2, _, .str x, rfl, EMissingUse.cx, EMissingUse.no _ (by simp), rfl, e1, rfl, Nat.le_of_ble_eq_true rfl, fun p np => ?_⟩
      exact q (.ref p) _ (fun b o e k => same_upd np _ _ (x1 b o e k)) (tabs_upd t1 np) (.tup (.inl (.inl upd_same)) (.cons (.str _) (.cons (.str _) .nil)))
end
end Cw

set_option Elab.async false
set_option linter.all false
set_option maxRecDepth 100000
set_option maxHeartbeats 4000000
namespace Cw
open PySem PySem.Spec PyProof.Rows L2 LamX
/-! ### the chain and the twelve -/
def zf (zs : List Str) (j : Nat) : Str := zs.getD j Str.empty
def usC (zs : List Str) (j : Nat) : List Str := if 0 < j then [zf zs (j - 1)] else []
def chM (zs : List Str) (k : Nat) : List Mo := (List.range k).map fun j => (zf zs j, usC zs j)
def wM (zs : List Str) (k : Nat) : List Mo := (List.range k).map fun j => (zf zs j, [])
theorem names_chM (zs : List Str) (k : Nat) : names (chM zs k) = (List.range k).map (zf zs) := by
  unfold names chM
  rw [List.map_map]
  rfl
theorem names_wM (zs : List Str) (k : Nat) : names (wM zs k) = (List.range k).map (zf zs) := by
  unfold names wM
  rw [List.map_map]
  rfl
theorem chM_succ (zs : List Str) (k : Nat) : chM zs (k + 1) = chM zs k ++ [(zf zs k, usC zs k)] := by
  unfold chM
  rw [List.range_succ, List.map_append]
  rfl
theorem wM_succ (zs : List Str) (k : Nat) : wM zs (k + 1) = wM zs k ++ [(zf zs k, [])] := by
  unfold wM
  rw [List.range_succ, List.map_append]
  rfl
/-- thirteen different names -/
structure Zs (zs : List Str) : Prop where
  len : zs.length = 13
  nd : zs.Nodup
  ok : ∀ x, x ∈ zs → isNameS x = true ∧ x ≠ "base"
section
variable {zs : List Str}
theorem zf_at {zs : List Str} {j : Nat} (h : j < zs.length) : zs[j]? = some (zf zs j) := by
  unfold zf
  rw [List.getD_eq_getElem?_getD, List.getElem?_eq_getElem h]
  rfl
theorem zf_mem {j : Nat} (h : j < zs.length) : zf zs j ∈ zs := List.mem_of_getElem? (zf_at h)
theorem Zs.inj (Z : Zs zs) {i j : Nat} (hi : i < 13) (hj : j < 13) (e : zf zs i = zf zs j) : i = j := by
  have l := Z.len
  have h1 := zf_at (zs := zs) (j := i) (by omega)
  have h2 := zf_at (zs := zs) (j := j) (by omega)
  rw [e] at h1
  exact (List.getElem?_inj (by omega) Z.nd).mp (h1.trans h2.symm)
theorem Zs.name (Z : Zs zs) {j : Nat} (h : j < 13) : isNameS (zf zs j) = true ∧ zf zs j ≠ "base" := Z.ok _ (zf_mem (by rw [Z.len]; exact h))
theorem Zs.nd_range (Z : Zs zs) {k : Nat} (h : k ≤ 13) : ((List.range k).map (zf zs)).Nodup := by
  refine List.nodup_iff_pairwise_ne.mpr (List.pairwise_map.mpr ?_)
  refine (List.nodup_range (n := k)).imp_of_mem fun {a b} ha hb ne e => ne (Z.inj (by have := List.mem_range.mp ha; omega) (by have := List.mem_range.mp hb; omega) e)
theorem Zs.not_range (Z : Zs zs) {k j : Nat} (h : j < 13) (hk : k ≤ j) : zf zs j ∉ (List.range k).map (zf zs) := fun m => by
  obtain ⟨i, hi, e⟩ := List.mem_map.mp m
  have hi := List.mem_range.mp hi
  have := Z.inj (by omega) h e
  omega
theorem Zs.base_range (Z : Zs zs) {k : Nat} (h : k ≤ 13) : ("base" : Str) ∉ (List.range k).map (zf zs) := fun m => by
  obtain ⟨i, hi, e⟩ := List.mem_map.mp m
  have hi := List.mem_range.mp hi
  exact (Z.name (by omega)).2 e
theorem in_range {k j : Nat} (h : j < k) : zf zs j ∈ (List.range k).map (zf zs) := List.mem_map_of_mem (List.mem_range.mpr h)
def down (zs : List Str) : Nat → List Str
  | 0 => [zf zs 0]
  | k + 1 => zf zs (k + 1) :: down zs k
theorem down_len : ∀ k, (down zs k).length = k + 1
  | 0 => rfl
  | k + 1 => congrArg Nat.succ (down_len k)
theorem mem_down {x : Str} : ∀ {k : Nat}, x ∈ down zs k → ∃ j, j ≤ k ∧ x = zf zs j
  | 0, h => ⟨0, Nat.le_refl _, List.mem_singleton.mp h⟩
  | k + 1, h => by
    rcases List.mem_cons.mp h with h | h
    · exact ⟨k + 1, Nat.le_refl _, h⟩
    · obtain ⟨j, h1, h2⟩ := mem_down h
      exact ⟨j, by omega, h2⟩
theorem Zs.reach (Z : Zs zs) {ms : List Mo} : ∀ (k : Nat) (found : List Str), k < 13 → (∀ j, j ≤ k → (zf zs j, usC zs j) ∈ ms) → (∀ j, j ≤ k → zf zs j ∉ found) → Reach ms (k + 1) found [zf zs k] (found ++ down zs k)
  | 0, found, _, h, nf => .new (due := []) (us := []) (nf 0 (Nat.le_refl _)) (.inl (h 0 (Nat.le_refl _))) (.done _)
  | k + 1, found, hk, h, nf => by
    have hm := h (k + 1) (Nat.le_refl _)
    have ih := Z.reach (ms := ms) k (found ++ [zf zs (k + 1)]) (by omega) (fun j hj => h j (by omega)) (fun j hj m => by
      rcases List.mem_append.mp m with m | m
      · exact nf j (by omega) m
      · have := Z.inj (by omega) hk (List.mem_singleton.mp m)
        omega)
    rw [List.append_assoc] at ih
    exact .new (due := []) (us := [zf zs k]) (nf (k + 1) (Nat.le_refl _)) (.inl hm) ih
theorem Zs.base_down (Z : Zs zs) {k : Nat} (h : k < 13) : ("base" : Str) ∉ down zs k := fun m => by
  obtain ⟨j, h1, h2⟩ := mem_down m
  exact (Z.name (by omega : j < 13)).2 h2.symm
theorem mem_chM {k j : Nat} (h : j < k) : (zf zs j, usC zs j) ∈ chM zs k := List.mem_map.mpr ⟨j, List.mem_range.mpr h, rfl⟩
end
/-! ### texts in order -/
theorem pw_rising : ∀ (p : Str) (l : List Str), risingS p l = true → (p :: l).Pairwise (fun a b => a.cps.toList ≤ b.cps.toList)
  | p, [], _ => List.pairwise_singleton _ _
  | p, x :: r, h => by
    have h : (!ltCps x.cps.toList p.cps.toList && risingS x r) = true := h
    obtain ⟨h1, h2⟩ := Bool.and_eq_true_iff.mp h
    have ih := pw_rising x r h2
    have h1 : p.cps.toList ≤ x.cps.toList := by
      rw [ltCps_eq] at h1
      have h1 : ¬ x.cps.toList < p.cps.toList := by simpa using h1
      exact h1
    refine List.pairwise_cons.mpr ⟨fun y hy => ?_, ih⟩
    rcases List.mem_cons.mp hy with rfl | hy
    · exact h1
    · exact List.le_trans h1 (List.rel_of_pairwise_cons ih hy)
theorem sorted_same {xs ys : List Str} (p : xs.Perm ys) (hx : sortedS xs = true) (hy : sortedS ys = true) : xs = ys := by
  have pw : ∀ {l : List Str}, sortedS l = true → l.Pairwise (fun a b => a.cps.toList ≤ b.cps.toList) := fun {l} h => by
    cases l with
    | nil => exact .nil
    | cons x r => exact pw_rising x r h
  exact List.Perm.eq_of_pairwise (le := fun a b : Str => a.cps.toList ≤ b.cps.toList) (fun a b _ _ h1 h2 => Lc_inj (List.le_antisymm h1 h2)) (pw hx) (pw hy) p
/-! ### readings of the law's arguments -/
theorem call2 {sp : Sp} {dvs : List V} {E : XK} {t1 t2 : TE} {σ : L2.St} {H : Hp} {Q : VK} (h : t1 σ H fun x H1 => t2 σ H1 fun y H2 => sp ([x, y] ++ dvs) H2 Q E) : tCall sp dvs E (tCons t1 (tCons t2 tNil)) σ H Q := h
theorem tup0 {σ : L2.St} {H : Hp} {R : V → Hp → Prop} (h : ∀ p H', Same H H' → (∀ K, SqT K H' p []) → R (.ref p) H') : tTup tNil σ H R :=
  ⟨Nat.zero_le _, fun p np => h p _ (same_upd np) (fun K => .inl (.inl upd_same))⟩
/-- names[j] -/
def NameQ (σ : L2.St) (H : Hp) (t : TE) (z : Str) : Prop := ∀ H' (R : V → Hp → Prop), Same H H' → R (.str z) H' → t σ H' R
/-- the uses -/
def UsesQ (K : PySem.W.Frag) (σ : L2.St) (H : Hp) (t : TE) (us : List Str) : Prop := ∀ H' (R : V → Hp → Prop), Same H H' → (∀ p H2, Same H' H2 → SqT K H2 p (us.map V.str) → R (.ref p) H2) → t σ H' R
theorem uses0 {K : PySem.W.Frag} {σ : L2.St} {H : Hp} : UsesQ K σ H (tTup tNil) [] := fun H' R s h => tup0 fun p H2 s2 e => h p H2 s2 (e K)
theorem uses1 {K : PySem.W.Frag} {σ : L2.St} {H : Hp} {t : TE} {z : Str} (n : NameQ σ H t z) : UsesQ K σ H (tTup (tCons t tNil)) [z] := fun H' R s h => n H' _ s ⟨Nat.le_of_ble_eq_true rfl, fun p np => h p _ (same_upd np) (.inl (.inl upd_same))⟩
theorem uses2 {K : PySem.W.Frag} {σ : L2.St} {H : Hp} {t u : TE} {z y : Str} (n : NameQ σ H t z) (m : NameQ σ H u y) : UsesQ K σ H (tTup (tCons t (tCons u tNil))) [z, y] := fun H' R s h => n H' _ s (m H' _ s ⟨Nat.le_of_ble_eq_true rfl, fun p np => h p _ (same_upd np) (.inl (.inl upd_same))⟩)
theorem uses3 {K : PySem.W.Frag} {σ : L2.St} {H : Hp} {t u w : TE} {z y x : Str} (n : NameQ σ H t z) (m : NameQ σ H u y) (l : NameQ σ H w x) : UsesQ K σ H (tTup (tCons t (tCons u (tCons w tNil)))) [z, y, x] := fun H' R s h => n H' _ s (m H' _ s (l H' _ s ⟨Nat.le_of_ble_eq_true rfl, fun p np => h p _ (same_upd np) (.inl (.inl upd_same))⟩))
theorem dps_of_strs {K : PySem.W.Frag} {H : Hp} : ∀ us : List Str, DpAll K H (us.map V.str) (us.map PyData.str)
  | [] => .nil
  | u :: us => .cons (.str u) (dps_of_strs us)
theorem mod_q {K : PySem.W.Frag} {σ : L2.St} {H : Hp} {tn tu : TE} {n : Str} {us : List Str} (hn : NameQ σ H tn n) (hu : UsesQ K σ H tu us) {R : V → Hp → Prop} (h : ∀ p H', Same H H' → Dp K H' (.ref p) (modD (n, us)) → R (.ref p) H') :
    tTup (tCons tn (tCons tu (tCons (tTup tNil) (tCons (tTup tNil) (tCons (tTup tNil) tNil))))) σ H R := by
  refine hn H _ (Same.refl H) (hu H _ (Same.refl H) fun p1 H1 s1 e1 => tup0 fun p2 H2 s2 e2 => tup0 fun p3 H3 s3 e3 => tup0 fun p4 H4 s4 e4 => ⟨Nat.le_of_ble_eq_true rfl, fun p np => ?_⟩)
  have s5 : Same H4 (upd H4 p (.tup [.str n, .ref p1, .ref p2, .ref p3, .ref p4])) := same_upd np
  exact h p _ ((((s1.trans s2).trans s3).trans s4).trans s5) (.tup (.inl (.inl upd_same)) (.cons (.str n) (.cons (.tup (sqt_keep (((s2.trans s3).trans s4).trans s5) e1) (dps_of_strs us)) (.cons (.tup (sqt_keep ((s3.trans s4).trans s5) (e2 K)) .nil) (.cons (.tup (sqt_keep (s4.trans s5) (e3 K)) .nil) (.cons (.tup (sqt_keep s5 (e4 K)) .nil) .nil))))))
end Cw

set_option Elab.async false
set_option linter.all false
set_option maxRecDepth 100000
set_option maxHeartbeats 4000000
namespace Cw
open PySem PySem.Spec PyProof.Rows L2 LamX
/-! ### answers that are as meant -/
theorem beq_s (z : Str) : (z == z) = true := beq_self_eq_true z
theorem so_un (n : Nat) : so (n + 1) unlD unlD = true := by
  unfold unlD so
  simp [List.range_succ, List.getD, so_str, so_int]
theorem so_miss (n : Nat) (x : Str) : so (n + 1) (missD x) (missD x) = true := by
  unfold missD so
  simp [List.range_succ, List.getD, so_str]
theorem so_names (n : Nat) (l : List Str) : so (n + 1) (.tuple (l.map PyData.str)) (.tuple (l.map PyData.str)) = true := by
  unfold so
  refine Bool.and_eq_true_iff.mpr ⟨beq_self_eq_true _, List.all_eq_true.mpr fun i hi => ?_⟩
  rw [List.length_map] at hi
  have hi := List.mem_range.mp hi
  have e : (l.map PyData.str).getD i .none = .str (l.getD i Str.empty) := by
    rw [List.getD_eq_getElem?_getD, List.getElem?_map, List.getD_eq_getElem?_getD, List.getElem?_eq_getElem hi]
    rfl
  rw [e, so_str]
  exact beq_self_eq_true _
theorem r_un {K : PySem.W.Frag} {σ : L2.St} {H : Hp} {y : V} {Q : VK} {E : XK} (d : Dp K H y unlD) (q : ∀ H', Same H H' → Q (.bl true) H') :
    tTup (tCons (tC (.str "unlawful")) (tCons (tC (.str "uses")) (tCons (tC (.int 0)) tNil))) σ H (fun x H2 => spSo K 4 ([y, x] ++ []) H2 Q E) :=
  ⟨Nat.le_of_ble_eq_true rfl, fun p np => ⟨y, .ref p, unlD, unlD, rfl, dp_keep (same_upd np) d, .tup (.inl (.inl upd_same)) (.cons (.str _) (.cons (.str _) (.cons (.int _) .nil))), ⟨by decide, fun d hd => by
    have hd : d = .str "unlawful" ∨ d = .str "uses" ∨ d = .int 0 := by simpa using hd
    rcases hd with rfl | rfl | rfl <;> trivial⟩, by rw [so_un]; exact q _ (same_upd np)⟩⟩
theorem r_miss {K : PySem.W.Frag} {σ : L2.St} {H : Hp} {y : V} {x : Str} {t : TE} {Q : VK} {E : XK} (n : NameQ σ H t x) (d : Dp K H y (missD x)) (q : ∀ H', Same H H' → Q (.bl true) H') :
    tTup (tCons (tC (.str "missing")) (tCons t tNil)) σ H (fun x H2 => spSo K 4 ([y, x] ++ []) H2 Q E) :=
  n H _ (Same.refl H) ⟨Nat.le_of_ble_eq_true rfl, fun p np => ⟨y, .ref p, missD x, missD x, rfl, dp_keep (same_upd np) d, .tup (.inl (.inl upd_same)) (.cons (.str _) (.cons (.str _) .nil)), ⟨Nat.le_of_ble_eq_true rfl, fun d hd => by
    have hd : d = .str "missing" ∨ d = .str x := by simpa using hd
    rcases hd with rfl | rfl <;> trivial⟩, by rw [so_miss]; exact q _ (same_upd np)⟩⟩
theorem r_non {K : PySem.W.Frag} {σ : L2.St} {H : Hp} {Q : VK} {E : XK} (q : Q (.bl true) H) : tC .non σ H (fun x H2 => spSo K 4 ([.non, x] ++ []) H2 Q E) :=
  ⟨.non, .non, .none, .none, rfl, .non, .non, trivial, q⟩
theorem r_int {K : PySem.W.Frag} {σ : L2.St} {H : Hp} {Q : VK} {E : XK} {i : Int} (q : Q (.bl true) H) : tC (.int i) σ H (fun x H2 => spSo K 4 ([.int i, x] ++ []) H2 Q E) :=
  ⟨.int i, .int i, .int i, .int i, rfl, .int i, .int i, trivial, by rw [so_int]; simpa using q⟩
/-! ### the twelve, less one, and one more -/
theorem zs_range {zs : List Str} {n : Nat} (h : zs.length = n) : zs = (List.range n).map (zf zs) := by
  subst h
  refine List.ext_getElem (by simp) fun i h1 h2 => ?_
  rw [List.getElem_map, List.getElem_range]
  have e := zf_at h1
  rw [List.getElem?_eq_getElem h1] at e
  exact Option.some.inj e
theorem filter_ne_idx : ∀ (l : List Str) (g : Nat) (z : Str), l[g]? = some z → l.Nodup → l.filter (fun y => decide (y ≠ z)) = l.eraseIdx g
  | [], g, z, h, _ => by cases h
  | x :: r, 0, z, h, n => by
    have h : x = z := by simpa using h
    subst h
    rw [List.filter_cons_of_neg (by simp), List.eraseIdx_cons_zero]
    exact List.filter_eq_self.mpr fun y hy => decide_eq_true fun e => (List.nodup_cons.mp n).1 (e ▸ hy)
  | x :: r, g + 1, z, h, n => by
    have h : r[g]? = some z := by simpa using h
    have xz : decide (x ≠ z) = true := decide_eq_true fun (e : x = z) => (List.nodup_cons.mp n).1 (e ▸ List.mem_of_getElem? h)
    have e1 : (x :: r).filter (fun y => decide (y ≠ z)) = x :: r.filter (fun y => decide (y ≠ z)) := List.filter_cons_of_pos xz
    rw [e1, List.eraseIdx_cons_succ, filter_ne_idx r g z h (List.nodup_cons.mp n).2]
theorem Zs.left {zs : List Str} (Z : Zs zs) {g : Nat} (hg : g < 12) : names ((wM zs 12).filter (fun m => decide (m.1 ≠ zf zs g)) ++ [(zf zs 12, [])]) = zs.take g ++ zs.drop (g + 1) := by
  have h1 : names ((wM zs 12).filter (fun m => decide (m.1 ≠ zf zs g)) ++ [(zf zs 12, [])]) = (((List.range 12).map (zf zs)) ++ [zf zs 12]).filter (fun z => decide (z ≠ zf zs g)) := by
    have n12 : decide (zf zs 12 ≠ zf zs g) = true := decide_eq_true fun e => by
      have := Z.inj (by omega) (by omega) e
      omega
    have e1 : [zf zs 12].filter (fun z => decide (z ≠ zf zs g)) = [zf zs 12] := List.filter_cons_of_pos n12
    rw [List.filter_append, e1, ← names_wM]
    unfold names
    rw [List.map_append, List.filter_map]
    rfl
  have h2 : ((List.range 12).map (zf zs)) ++ [zf zs 12] = zs := by
    have e := zs_range Z.len
    rw [show 13 = 12 + 1 from rfl, List.range_succ, List.map_append] at e
    exact e.symm
  have l := Z.len
  rw [h1, h2, ← List.eraseIdx_eq_take_drop_succ]
  exact filter_ne_idx zs g _ (zf_at (by omega)) Z.nd
theorem cut_to (xs : List V) (g : Nat) : cutV xs none (some (g : Int)) = xs.take g := by
  unfold cutV
  rw [HT.sIx_nat, HT.sIx_none, Nat.sub_zero, List.drop_zero]
  by_cases h : g ≤ xs.length
  · rw [Nat.min_eq_left h]
  · rw [Nat.min_eq_right (by omega), List.take_length, List.take_of_length_le (by omega)]
theorem cut_off (xs : List V) (g : Nat) : cutV xs (some (g : Int)) none = xs.drop g := by
  unfold cutV
  rw [HT.sIx_nat, HT.sIx_none]
  by_cases h : g ≤ xs.length
  · rw [Nat.min_eq_left h, List.take_of_length_le (by rw [List.length_drop]; omega)]
  · rw [Nat.min_eq_right (by omega), Nat.sub_self, List.take_zero, List.drop_eq_nil_of_le (by omega)]
end Cw

set_option Elab.async false
set_option linter.all false
set_option maxRecDepth 100000
set_option maxHeartbeats 4000000
namespace Cw
open PySem PySem.CwEx PySem.Spec PyProof.Rows L2 LamX
structure Ctx (T : List (Addr × Str)) (r sp nl : Addr) (zs : List Str) (H : Hp) : Prop where
  st : Sta r sp H
  nm : H nl = some (.lst (zs.map V.str))
  tb : Tabs T H
theorem Ctx.ext {T : List (Addr × Str)} {r sp nl : Addr} {zs : List Str} {H H' : Hp} (c : Ctx T r sp nl zs H) (e : ExtN H H') (t : Tabs T H') : Ctx T r sp nl zs H' := by
  obtain ⟨⟨h1, ⟨row, h2, h3⟩, n, h4⟩, h5, h6⟩ := c
  exact ⟨⟨h1, ⟨row, h2, e _ _ h3 (fun _ z => by cases z)⟩, n, e _ _ h4 (fun _ z => by cases z)⟩, e _ _ h5 (fun _ z => by cases z), t⟩
theorem Ctx.fr {K : PySem.W.Frag} {CA CE CL a d : Addr} {ms : List Mo} {T : List (Addr × Str)} {r sp nl : Addr} {zs : List Str} {H H' : Hp} (c : Ctx T r sp nl zs H) (l : LinkAt K CA CE CL H a d ms) (f : FrN [a, d] H H') (t : Tabs T H') : Ctx T r sp nl zs H' := by
  obtain ⟨dx, at_, kvs, ha, hd, _⟩ := l
  have k : ∀ b xs, H b = some (.lst xs) → H' b = some (.lst xs) := fun b xs e => f _ _ (fun m => by
    have m : b = a ∨ b = d := by simpa using m
    rcases m with m | m
    · rw [m, ha] at e; cases e
    · rw [m, hd] at e; cases e) (fun _ z => by cases z) e
  obtain ⟨⟨h1, ⟨row, h2, h3⟩, n, h4⟩, h5, h6⟩ := c
  exact ⟨⟨h1, ⟨row, h2, k _ _ h3⟩, n, k _ _ h4⟩, k _ _ h5, t⟩
/-- what load_told of such a module comes to -/
def Told (K : PySem.W.Frag) (CA CE CL : Addr) (T : List (Addr × Str)) (H : Hp) (a d : Addr) (n : Str) (us : List Str) (ms : List Mo) (Q : VK) : Prop :=
  ((∀ u, u ∈ us → u ∈ names ms) ∧ us.Nodup ∧ ms.length + 1 ≤ 12 ∧ (∃ k res, Reach (ms ++ [(n, us)]) k [] [n] res ∧ k ≤ 9000 ∧ ("base" : Str) ∉ res ∧ res.length ≤ 6) ∧ ∀ H', FrN [a, d] H H' → Tabs T H' → LinkAt K CA CE CL H' a d (ms ++ [(n, us)]) → Q .non H') ∨
   (((∀ u, u ∈ us → u ∈ names ms) ∧ (¬ us.Nodup ∨ (us.Nodup ∧ (12 < ms.length + 1 ∨ ∃ k res, Reach (ms ++ [(n, us)]) k [] [n] res ∧ k ≤ 9000 ∧ ("base" : Str) ∉ res ∧ 6 < res.length)))) ∧ ∀ y H', ExtN H H' → Tabs T H' → Dp K H' y unlD → Q y H') ∨
   ∃ pre x post, us = pre ++ x :: post ∧ (∀ u, u ∈ pre → u ∈ names ms) ∧ x ∉ names ms ∧ ∀ y H', ExtN H H' → Tabs T H' → Dp K H' y (missD x) → Q y H'
theorem told_q {K : PySem.W.Frag} {CA CE CL a d : Addr} {T : List (Addr × Str)} {i : Nat} {σ : L2.St} {H : Hp} {tn tu : TE} {n : Str} {us : List Str} {ms : List Mo} {E : XK} {Q : VK} (ei : σ[i]? = some (some (.ref a))) (hn : NameQ σ H tn n) (hu : UsesQ K σ H tu us)
    (lk : LinkAt K CA CE CL H a d ms) (g1 : isNameS n = true) (g2 : ∀ u, u ∈ us → isNameS u = true) (g3 : us.length ≤ 4) (g4 : n ≠ "base") (g5 : n ∉ names ms) (g6 : (names ms).Nodup) (g7 : ("base" : Str) ∉ names ms) (g8 : ms.length ≤ 100) (g9 : Tabs T H) (way : Told K CA CE CL T H a d n us ms Q) :
    tCall (spLT K CA CE CL T) [] E (tCons (tVar i) (tCons (tTup (tCons tn (tCons tu (tCons (tTup tNil) (tCons (tTup tNil) (tCons (tTup tNil) tNil)))))) tNil)) σ H Q := by
  refine call2 ⟨_, ei, mod_q hn hu fun p H1 s1 d1 => ⟨a, d, .ref p, n, us, ms, rfl, link_ext (same_ext s1) lk, d1, g1, g2, g3, g4, g5, g6, g7, g8, g9.ext s1, ?_⟩⟩
  rcases way with ⟨w1, w2, w3, w4, q⟩ | ⟨w1, q⟩ | ⟨pre, x, post, w1, w2, w3, q⟩
  · exact .inl ⟨w1, w2, w3, w4, fun H' f t l => q H' (fun b o m k e => f b o m k (s1 _ _ e)) t l⟩
  · exact .inr (.inl ⟨w1, fun y H' x t e => q y H' (fun b o g k => x b o (s1 _ _ g) k) t e⟩)
  · exact .inr (.inr ⟨pre, x, post, w1, w2, w3, fun y H' x t e => q y H' (fun b o g k => x b o (s1 _ _ g) k) t e⟩)
theorem name_at {K : PySem.W.Frag} {nl : Addr} {σ : L2.St} {H : Hp} {zs : List Str} {j : Nat} {ti : TE} (e4 : σ[4]? = some (some (.ref nl))) (hn : H nl = some (.lst (zs.map V.str))) (hj : j < zs.length) (hi : ∀ H' (R : V → Hp → Prop), R (.int (j : Int)) H' → ti σ H' R) : NameQ σ H (tOp (rIxL K) (tVar 4) ti) (zf zs j) :=
  fun H' R s h => ⟨_, e4, hi H' _ ⟨nl, _, (j : Int), .str (zf zs j), rfl, rfl, SqL.of (s _ _ hn), atI_nat (by rw [List.getElem?_map, zf_at hj]; rfl), h⟩⟩
/-- a link of seven, what its length needs of it -/
def Two (CL c d : Addr) (H : Hp) : Prop := ∃ dx at_ kvs, H c = some (.ins CL dx (linkF d at_)) ∧ H d = some (.dK kvs) ∧ kvs.length = 7
theorem LinkAt.two {K : PySem.W.Frag} {CA CE CL c d : Addr} {ms : List Mo} {H : Hp} (h : LinkAt K CA CE CL H c d ms) (l : ms.length = 7) : Two CL c d H := by
  obtain ⟨dx, at_, kvs, h1, h2, h3, _⟩ := h
  exact ⟨dx, at_, kvs, h1, h2, h3.len.trans l⟩
theorem Two.fr {CL c d : Addr} {A : List Addr} {H H' : Hp} (h : Two CL c d H) (n : c ∉ A ∧ d ∉ A) (f : FrN A H H') : Two CL c d H' := by
  obtain ⟨dx, at_, kvs, h1, h2, h3⟩ := h
  exact ⟨dx, at_, kvs, f _ _ n.1 (fun _ z => by cases z) h1, f _ _ n.2 (fun _ z => by cases z) h2, h3⟩
theorem Two.ext {CL c d : Addr} {H H' : Hp} (h : Two CL c d H) (e : ExtN H H') : Two CL c d H' := h.fr (A := []) ⟨by simp, by simp⟩ (FrN.ext e)
theorem Two.off {CL c d w dw : Addr} {H : Hp} (h : Two CL c d H) (nw : H w = none) (nd : ∀ o, (∀ ps, o ≠ .tbl ps) → H dw ≠ some o) : c ∉ [w, dw] ∧ d ∉ [w, dw] := by
  obtain ⟨dx, at_, kvs, h1, h2, h3⟩ := h
  have k : ∀ b o, H b = some o → (∀ ps, o ≠ .tbl ps) → b ∉ [w, dw] := fun b o e t m => by
    have m : b = w ∨ b = dw := by simpa using m
    rcases m with rfl | rfl
    · rw [nw] at e; cases e
    · exact nd o t e
  exact ⟨k _ _ h1 (fun _ z => by cases z), k _ _ h2 (fun _ z => by cases z)⟩
theorem link_frS {K : PySem.W.Frag} {CA CE CL r sp a d : Addr} {ms : List Mo} {H H' : Hp} (st : Sta r sp H) (f : Fr [sp] H H') (h : LinkAt K CA CE CL H a d ms) : LinkAt K CA CE CL H' a d ms := by
  have nt := st.nt
  obtain ⟨_, _, n, hsp⟩ := st
  have ne : ∀ {b : Addr} {o : HO}, H b = some o → (∀ xs, o ≠ .lst xs) → H' b = some o := fun {b o} e k => f _ _ (fun m => by
    rw [List.mem_singleton.mp m, hsp] at e
    exact k _ (Option.some.inj e).symm) e
  obtain ⟨dx, at_, kvs, h1, h2, h3, dm, dc, dg, dt, du, dp, da, kvs', uvs, v1, v2, ms', ⟨dxa, ha⟩, pm, hdm, hkv, hdu, huv, hdc, ⟨c1, p1, d1, e1, ⟨x1, g1⟩⟩, ⟨c2, p2, d2, e2, ⟨x2, g2⟩⟩, hdg⟩ := h
  have k0 : ∀ kv xs, HO.dK kv ≠ .lst xs := fun _ _ z => by cases z
  have k1 : ∀ C dx fs xs, HO.ins C dx fs ≠ .lst xs := fun _ _ _ _ z => by cases z
  exact ⟨dx, at_, kvs, ne h1 (k1 _ _ _), ne h2 (k0 _), h3.mono fun _ _ => modV_fr (FrN.of f) nt, dm, dc, dg, dt, du, dp, da, kvs', uvs, v1, v2, ms', ⟨dxa, ne ha (k1 _ _ _)⟩, pm, ne hdm (k0 _), hkv.mono fun _ _ => modV_fr (FrN.of f) nt, ne hdu (k0 _), huv.mono fun _ _ ⟨tu, z1, z2⟩ => ⟨tu, z1, sqt_fr f nt z2⟩, ne hdc (k0 _), ⟨c1, p1, d1, e1, x1, ne g1 (k1 _ _ _)⟩, ⟨c2, p2, d2, e2, x2, ne g2 (k1 _ _ _)⟩, ne hdg (k0 _)⟩
def spLaw (K : PySem.W.Frag) (T : List (Addr × Str)) : Sp := fun vs H Q _ => ∃ (a : Addr) (ns : List Int), vs = [.ref a] ∧ SqL K H a (ns.map V.int) ∧ ns.length ≤ 63 ∧ Tabs T H ∧ ∀ H', Q (.bl true) H'
section
variable {P : Program} {w : World} {K : PySem.W.Frag} {mg : Str → Option Value} {base : Heap} {C0 CMU CUL CL fMU fUL : Addr} {dMU dUL : FuncData} {CE CA CP CS : Addr} {T : List (Addr × Str)}
abbrev s_law : Stmt := topS 117
theorem sc_law : FnScope ["script", "row", "spot", "used", "names", "chained", "k", "wide", "gone"] ["script"] (defScope s_law) := ⟨rfl, rfl, rfl, by decide +kernel, rfl, by decide +kernel, by decide +kernel⟩
theorem ok_law {f : Addr} {fd : FuncData} (F : Fun K "law" "law" s_law f fd) {f_Link_init : Addr} {d_Link_init : FuncData} (K_Link : CI K mg "Link" ["self"] CL f_Link_init d_Link_init) {f_Link_len : Addr} {d_Link_len : FuncData} (M_Link_len : MI K CL "__len__" ["self"] f_Link_len d_Link_len) {f_Link_unload : Addr} {d_Link_unload : FuncData} (M_Link_unload : MI K CL "unload" ["self", "name"] f_Link_unload d_Link_unload) {f_Link_names : Addr} {d_Link_names : FuncData} (M_Link_names : MI K CL "names" ["self"] f_Link_names d_Link_names) {f__law_numbers : Addr} {d__law_numbers : FuncData} (h__law_numbers : Hd K mg "_law_numbers" sNum ["script"] f__law_numbers d__law_numbers) (G__law_numbers : FnOk P w K mg base CX0 1 f__law_numbers d__law_numbers ["script"] (spNum K)) {f__law_name : Addr} {d__law_name : FuncData} (h__law_name : Hd K mg "_law_name" s__law_name ["row", "spot", "used"] f__law_name d__law_name) (G__law_name : FnOk P w K mg base CX0 4 f__law_name d__law_name ["row", "spot", "used"] (spName K)) (G_Link_init : FnOk P w K mg base CX0 8 f_Link_init d_Link_init ["self"] (spLI K CA CE CL T)) {f__law_load_told : Addr} {d__law_load_told : FuncData} (h__law_load_told : Hd K mg "_law_load_told" s__law_load_told ["link", "module"] f__law_load_told d__law_load_told) (G__law_load_told : FnOk P w K mg base CX0 16 f__law_load_told d__law_load_told ["link", "module"] (spLT K CA CE CL T)) {f__law_so : Addr} {d__law_so : FuncData} (h__law_so : Hd K mg "_law_so" sSo ["found", "meant"] f__law_so d__law_so) (G__law_so : FnOk P w K mg base CX0 4 f__law_so d__law_so ["found", "meant"] (spSo K 4)) (G_Link_len : FnOk P w K mg base CX0 1 f_Link_len d_Link_len ["self"] (spLen CL)) {f__law_take : Addr} {d__law_take : FuncData} (h__law_take : Hd K mg "_law_take" sTake ["row", "spot", "limit"] f__law_take d__law_take) (G__law_take : FnOk P w K mg base CX0 2 f__law_take d__law_take ["row", "spot", "limit"] (spTk K)) (G_Link_unload : FnOk P w K mg base CX0 9 f_Link_unload d_Link_unload ["self", "name"] (spUnload K CA CE CL T)) (G_Link_names : FnOk P w K mg base CX0 1 f_Link_names d_Link_names ["self"] (spNames K CA CE CL)) (m_range : mg "range" = none) (m_len : mg "len" = none) (m_tuple : mg "tuple" = none) (m_sorted : mg "sorted" = none) (n_len : PySem.W.findIn K (.ref CL) "__len__" = some (some (.ref f_Link_len))) : FnOk P w K mg base CX0 20 f fd ["script"] (spLaw K T) := by
  refine F.ok sc_law (fun vs H Q E h => ?_) (fun cdv A outer s H vs Q E hr h => ?_)
  · obtain ⟨_, _, rfl, _⟩ := h
    rfl
  · obtain ⟨a, ns, rfl, hs, hlen, hT, q⟩ := h
    refine ⟨_, (pss_cons (ps_set (i := 1) sc_law.nd rfl (.inr rfl) (pe_call G__law_numbers (hr.mono (by decide)) (by rfl) h__law_numbers.g h__law_numbers.F.kp h__law_numbers.b .nil pass0 (pa_cons (pv 0) pa_nil)))
  (pss_cons (ps_set (i := 2) sc_law.nd rfl (.inr rfl) (pe_lst (pa_cons pe_int pa_nil)))
  (pss_cons (ps_set (i := 3) sc_law.nd rfl (.inr rfl) pe_dnewK)
  (pss_cons (ps_setLc (i := 4) (own := [("k", 6)]) rfl sc_law.nd rfl rfl (sw_true rfl rfl rfl (by decide +kernel)) (pi_range1 rfl m_range (pa_cons pe_int pa_nil)) (blkOk_by (N := ["script", "row", "spot", "used", "names", "chained", "k", "wide", "gone"]) (sc := defScope s_law) (by decide +kernel)) (fun _ _ _ _ _ => by exact (pg_name (i := 6) sc_law.nd rfl (.inl rfl))) (fun _ _ _ _ _ => by exact pts_nil) (fun _ _ _ _ _ => by exact (pe_call G__law_name (hr.mono (by decide)) (by rfl) h__law_name.g h__law_name.F.kp h__law_name.b .nil pass0 (pa_cons (pv 1) (pa_cons (pv 2) (pa_cons (pv 3) pa_nil))))))
  (pss_cons (ps_set (i := 5) sc_law.nd rfl (.inl rfl) (pe_make0 K_Link.m G_Link_init (hr.mono (by decide)) rfl K_Link.g K_Link.b .nil pass0))
  (pss_cons (ps_for PassesOwn.never rfl (pi_range1 rfl m_range (pa_cons pe_int pa_nil)) (pg_name (i := 6) sc_law.nd rfl (.inl rfl)) (pss_one (ps_if (pt_cmpR op_notN (pe_call G__law_load_told (hr.mono (by decide)) (by rfl) h__law_load_told.g h__law_load_told.F.kp h__law_load_told.b .nil pass0 (pa_cons (pv 5) (pa_cons (pe_tup (pa_cons (pe_ix ix_list (pv 4) (pv 6) (fun _ _ => rfl)) (pa_cons (pe_ifExp (pt_cmpR op_gt (pv 6) pe_int (nomark _)) (pe_tup (pa_cons (pe_ix ix_list (pv 4) (pe_op op_sub (pv 6) pe_int) (fun _ _ => rfl)) pa_nil)) (pe_tup pa_nil)) (pa_cons (pe_tup pa_nil) (pa_cons (pe_tup pa_nil) (pa_cons (pe_tup pa_nil) pa_nil)))))) pa_nil))) pe_non (nomark _)) (pss_one (ps_ret pe_bl)) pss_nil)))
  (pss_cons (ps_if (pt_not (pt_val (pe_call G__law_so (hr.mono (by decide)) (by rfl) h__law_so.g h__law_so.F.kp h__law_so.b .nil pass0 (pa_cons (pe_call G__law_load_told (hr.mono (by decide)) (by rfl) h__law_load_told.g h__law_load_told.F.kp h__law_load_told.b .nil pass0 (pa_cons (pv 5) (pa_cons (pe_tup (pa_cons (pe_ix ix_list (pv 4) pe_int (fun _ _ => rfl)) (pa_cons (pe_tup (pa_cons (pe_ix ix_list (pv 4) pe_int (fun _ _ => rfl)) pa_nil)) (pa_cons (pe_tup pa_nil) (pa_cons (pe_tup pa_nil) (pa_cons (pe_tup pa_nil) pa_nil)))))) pa_nil))) (pa_cons (pe_tup (pa_cons pe_str (pa_cons pe_str (pa_cons pe_int pa_nil)))) pa_nil))))) (pss_one (ps_ret pe_bl)) pss_nil)
  (pss_cons (ps_if (pt_not (pt_val (pe_call G__law_so (hr.mono (by decide)) (by rfl) h__law_so.g h__law_so.F.kp h__law_so.b .nil pass0 (pa_cons (pe_call G__law_load_told (hr.mono (by decide)) (by rfl) h__law_load_told.g h__law_load_told.F.kp h__law_load_told.b .nil pass0 (pa_cons (pv 5) (pa_cons (pe_tup (pa_cons (pe_ix ix_list (pv 4) pe_int (fun _ _ => rfl)) (pa_cons (pe_tup (pa_cons (pe_ix ix_list (pv 4) pe_int (fun _ _ => rfl)) pa_nil)) (pa_cons (pe_tup pa_nil) (pa_cons (pe_tup pa_nil) (pa_cons (pe_tup pa_nil) pa_nil)))))) pa_nil))) (pa_cons pe_non pa_nil))))) (pss_one (ps_ret pe_bl)) pss_nil)
  (pss_cons (ps_if (pt_not (pt_val (pe_call G__law_so (hr.mono (by decide)) (by rfl) h__law_so.g h__law_so.F.kp h__law_so.b .nil pass0 (pa_cons (pe_call G__law_load_told (hr.mono (by decide)) (by rfl) h__law_load_told.g h__law_load_told.F.kp h__law_load_told.b .nil pass0 (pa_cons (pv 5) (pa_cons (pe_tup (pa_cons (pe_ix ix_list (pv 4) pe_int (fun _ _ => rfl)) (pa_cons (pe_tup (pa_cons (pe_ix ix_list (pv 4) pe_int (fun _ _ => rfl)) (pa_cons (pe_ix ix_list (pv 4) pe_int (fun _ _ => rfl)) (pa_cons (pe_ix ix_list (pv 4) pe_int (fun _ _ => rfl)) pa_nil)))) (pa_cons (pe_tup pa_nil) (pa_cons (pe_tup pa_nil) (pa_cons (pe_tup pa_nil) pa_nil)))))) pa_nil))) (pa_cons (pe_tup (pa_cons pe_str (pa_cons pe_str (pa_cons pe_int pa_nil)))) pa_nil))))) (pss_one (ps_ret pe_bl)) pss_nil)
  (pss_cons (ps_if (pt_not (pt_val (pe_call G__law_so (hr.mono (by decide)) (by rfl) h__law_so.g h__law_so.F.kp h__law_so.b .nil pass0 (pa_cons (pe_call G__law_load_told (hr.mono (by decide)) (by rfl) h__law_load_told.g h__law_load_told.F.kp h__law_load_told.b .nil pass0 (pa_cons (pv 5) (pa_cons (pe_tup (pa_cons (pe_ix ix_list (pv 4) pe_int (fun _ _ => rfl)) (pa_cons (pe_tup (pa_cons (pe_ix ix_list (pv 4) pe_int (fun _ _ => rfl)) (pa_cons (pe_ix ix_list (pv 4) pe_int (fun _ _ => rfl)) pa_nil))) (pa_cons (pe_tup pa_nil) (pa_cons (pe_tup pa_nil) (pa_cons (pe_tup pa_nil) pa_nil)))))) pa_nil))) (pa_cons (pe_tup (pa_cons pe_str (pa_cons (pe_ix ix_list (pv 4) pe_int (fun _ _ => rfl)) pa_nil))) pa_nil))))) (pss_one (ps_ret pe_bl)) pss_nil)
  (pss_cons (ps_set (i := 7) sc_law.nd rfl (.inl rfl) (pe_make0 K_Link.m G_Link_init (hr.mono (by decide)) rfl K_Link.g K_Link.b .nil pass0))
  (pss_cons (ps_for PassesOwn.never rfl (pi_range1 rfl m_range (pa_cons pe_int pa_nil)) (pg_name (i := 6) sc_law.nd rfl (.inl rfl)) (pss_one (ps_if (pt_cmpR op_notN (pe_call G__law_load_told (hr.mono (by decide)) (by rfl) h__law_load_told.g h__law_load_told.F.kp h__law_load_told.b .nil pass0 (pa_cons (pv 7) (pa_cons (pe_tup (pa_cons (pe_ix ix_list (pv 4) (pv 6) (fun _ _ => rfl)) (pa_cons (pe_tup pa_nil) (pa_cons (pe_tup pa_nil) (pa_cons (pe_tup pa_nil) (pa_cons (pe_tup pa_nil) pa_nil)))))) pa_nil))) pe_non (nomark _)) (pss_one (ps_ret pe_bl)) pss_nil)))
  (pss_cons (ps_if (PW.pt (pw_or (pt_not (pt_val (pe_call G__law_so (hr.mono (by decide)) (by rfl) h__law_so.g h__law_so.F.kp h__law_so.b .nil pass0 (pa_cons (pe_call G__law_load_told (hr.mono (by decide)) (by rfl) h__law_load_told.g h__law_load_told.F.kp h__law_load_told.b .nil pass0 (pa_cons (pv 7) (pa_cons (pe_tup (pa_cons (pe_ix ix_list (pv 4) pe_int (fun _ _ => rfl)) (pa_cons (pe_tup pa_nil) (pa_cons (pe_tup pa_nil) (pa_cons (pe_tup pa_nil) (pa_cons (pe_tup pa_nil) pa_nil)))))) pa_nil))) (pa_cons (pe_tup (pa_cons pe_str (pa_cons pe_str (pa_cons pe_int pa_nil)))) pa_nil))))) (pw_or1 (pt_not (pt_val (pe_call G__law_so (hr.mono (by decide)) (by rfl) h__law_so.g h__law_so.F.kp h__law_so.b .nil pass0 (pa_cons (pe_callB (call_lenOwn G_Link_len (hr.mono (by decide)) n_len M_Link_len.m.fn M_Link_len.b pass0) (by rfl) m_len PySem.boot_len (pa_cons (pv 7) pa_nil)) (pa_cons pe_int pa_nil)))))))) (pss_one (ps_ret pe_bl)) pss_nil)
  (pss_cons (ps_set (i := 8) sc_law.nd rfl (.inl rfl) (pe_call G__law_take (hr.mono (by decide)) (by rfl) h__law_take.g h__law_take.F.kp h__law_take.b .nil pass0 (pa_cons (pv 1) (pa_cons (pv 2) (pa_cons pe_int pa_nil)))))
  (pss_cons (ps_expr (pe_meth (pv 7) K_Link.cl M_Link_unload.m G_Link_unload (hr.mono (by decide)) M_Link_unload.b .nil pass0 (pa_cons (pe_ix ix_list (pv 4) (pv 8) (fun _ _ => rfl)) pa_nil)))
  (pss_cons (ps_if (pt_not (pt_val (pe_call G__law_so (hr.mono (by decide)) (by rfl) h__law_so.g h__law_so.F.kp h__law_so.b .nil pass0 (pa_cons (pe_call G__law_load_told (hr.mono (by decide)) (by rfl) h__law_load_told.g h__law_load_told.F.kp h__law_load_told.b .nil pass0 (pa_cons (pv 7) (pa_cons (pe_tup (pa_cons (pe_ix ix_list (pv 4) pe_int (fun _ _ => rfl)) (pa_cons (pe_tup pa_nil) (pa_cons (pe_tup pa_nil) (pa_cons (pe_tup pa_nil) (pa_cons (pe_tup pa_nil) pa_nil)))))) pa_nil))) (pa_cons pe_non pa_nil))))) (pss_one (ps_ret pe_bl)) pss_nil)
  (pss_one (ps_ret (pe_and (pe_call G__law_so (hr.mono (by decide)) (by rfl) h__law_so.g h__law_so.F.kp h__law_so.b .nil pass0 (pa_cons (pe_meth0 (pv 7) K_Link.cl M_Link_names.m G_Link_names (hr.mono (by decide)) M_Link_names.b .nil pass0) (pa_cons (pe_callTy call_tuple_of (by rfl) m_tuple (by decide +kernel) (pa_cons (pe_callB cr_sortedS (by rfl) m_sorted (by decide +kernel) (pa_cons (pe_op op_cat (pe_slice sl_list (pv 4) po_none (po_some (pv 8))) (pe_slice sl_list (pv 4) (po_some (pe_op op_add (pv 8) pe_int)) po_none)) pa_nil)) pa_nil)) pa_nil))) (pe_one (pe_call G__law_so (hr.mono (by decide)) (by rfl) h__law_so.g h__law_so.F.kp h__law_so.b .nil pass0 (pa_cons (pe_callB (call_lenOwn G_Link_len (hr.mono (by decide)) n_len M_Link_len.m.fn M_Link_len.b pass0) (by rfl) m_len PySem.boot_len (pa_cons (pv 5) pa_nil)) (pa_cons pe_int pa_nil))))))))))))))))))))))), ?_⟩
    refine seqA (asgA ⟨_, rfl, a, ns, rfl, hs, hlen, fun H1 r row s1 nr er hne hle => nameA ?_⟩)
    dsimp only
    refine seqA (asgA ⟨Nat.le_of_ble_eq_true rfl, fun sp nsp => nameA ?_⟩)
    dsimp only
    have s2 : Same H1 (upd H1 sp (.lst [.int 0])) := same_upd nsp
    have p2 : upd H1 sp (.lst [.int 0]) sp = some (.lst [.int ((0 : Nat) : Int)]) := upd_same
    have r2 := s2 _ _ er
    have rsp : r ≠ sp := fun e => by rw [e, nsp] at er; cases er
    have t2 : Tabs T (upd H1 sp (.lst [.int 0])) := (hT.ext s1).ext s2
    generalize upd H1 sp (.lst [.int 0]) = H2 at s2 p2 r2 t2 ⊢
    refine seqA (asgA fun u nu => nameA ?_)
    dsimp only
    have s3 : Same H2 (upd H2 u (.dK [])) := same_upd nu
    have u3 : upd H2 u (.dK []) u = some (.dK (([] : List Str).map tk)) := upd_same
    have st3 : Sta r sp (upd H2 u (.dK [])) := ⟨rsp, ⟨row, hne, s3 _ _ r2⟩, 0, s3 _ _ p2⟩
    have t3 := t2.ext s3
    generalize upd H2 u (.dK []) = H3 at s3 u3 st3 t3 ⊢
    refine seq_merge (fun σ' H' => ∃ nl zs, σ' = [some (.ref a), some (.ref r), some (.ref sp), some (.ref u), some (.ref nl), none, none, none, none] ∧ Zs zs ∧ Ctx T r sp nl zs H') ?_ (fun kont => ?_)
    rotate_left
    · refine ⟨13, rfl, by decide, by decide, fun D nD => ?_⟩
      have Du : D ≠ u := fun e => by rw [e, u3] at nD; cases nD
      have Ds : D ≠ sp := st3.sp_ne nD
      refine lc_it (walk_range (n := 13)) (fun i H' => Sta r sp H' ∧ Tabs T H' ∧ ∃ zs : List Str, zs.length = i ∧ zs.Nodup ∧ (∀ x, x ∈ zs → isNameS x = true ∧ x ≠ "base") ∧ H' D = some (.lst (zs.map V.str)) ∧ H' u = some (.dK (zs.map tk)))
        ⟨st3.new nD, tabs_upd t3 nD, [], rfl, List.nodup_nil, (fun x m => by cases m), upd_same, by rw [upd_ne (Ne.symm Du)]; exact u3⟩ (fun _ _ _ _ => trivial) ?_ ?_
      · rintro i x H' H'' hi ⟨st, tb, zs, hl, nd, ok, hD, hu⟩ ⟨rfl, rfl⟩
        refine ⟨rfl, ?_⟩
        unfold tYes
        dsimp only
        rw [if_pos rfl]
        refine ⟨.ref r, rfl, .ref sp, rfl, .ref u, rfl, r, sp, u, zs.map tk, rfl, st, hu, by rw [List.length_map]; omega, fun z H4 g1 g2 g3 st4 f4 u4 => ?_⟩
        have nz : z ∉ zs := fun m => by
          rw [tk_some m] at g3
          cases g3
        have hD4 : H4 D = some (.lst (zs.map V.str)) := f4 _ _ (fun m => by
          have m : D = u ∨ D = sp := by simpa using m
          rcases m with m | m
          · exact Du m
          · exact Ds m) hD
        have tb4 : Tabs T H4 := tabs_frA tb f4 fun y m => by
          have m : y = u ∨ y = sp := by simpa using m
          rcases m with rfl | rfl
          · exact ⟨_, hu, (fun _ z => by cases z), (fun _ z => by cases z)⟩
          · obtain ⟨_, _, n, h4⟩ := st
            exact ⟨_, h4, (fun _ z => by cases z), (fun _ z => by cases z)⟩
        refine ⟨zs.map V.str, hD4, Nat.lt_of_le_of_lt (by rw [List.length_map]; omega : (zs.map V.str).length ≤ 100) (by decide), ?_, ?_, zs ++ [z], ?_, ?_, ?_, ?_, ?_⟩
        · refine st4.set (fun e => ?_) (fun e => ?_)
          · obtain ⟨_, ⟨row2, _, h3⟩, _⟩ := st3
            rw [e, h3] at nD
            cases nD
          · exact Ds e
        · exact tabs_set tb4 hD4 (fun _ z => by cases z) (fun _ z => by cases z)
        · rw [List.length_append, hl]; rfl
        · refine List.nodup_append.mpr ⟨nd, by simp, fun x hx y hy e => nz ?_⟩
          have hy : y = z := by simpa using hy
          rw [← hy, ← e]
          exact hx
        · intro x hx
          rcases List.mem_append.mp hx with h | h
          · exact ok x h
          · rw [List.mem_singleton.mp h]; exact ⟨g1, g2⟩
        · rw [upd_same, List.map_append]; rfl
        · rw [upd_ne (Ne.symm Du), u4, List.map_append]; rfl
      · rintro H' ⟨st, tb, zs, hl, nd, ok, hD, hu⟩
        exact kont _ _ ⟨D, zs, rfl, ⟨hl, nd, ok⟩, st, hD, tb⟩
    rintro σ' H4 ⟨nl, zs, rfl, Z, cx⟩
    have hz13 : zs.length = 13 := Z.len
    refine seqA (asgA fun c dxc nc ndc nxc => ⟨c, dxc, rfl, upd_same, cx.tb.ext (mk_same nc ndc), fun d H5 f5 t5 nd5 lk5 => ⟨rfl, nameA ?_⟩⟩)
    dsimp only
    have x5 : ExtN H4 H5 := made_frn nc ndc f5
    have cx5 := cx.ext x5 t5
    refine seq_merge (fun σ' H' => (∃ c6, σ' = [some (.ref a), some (.ref r), some (.ref sp), some (.ref u), some (.ref nl), some (.ref c), c6, none, none]) ∧ Ctx T r sp nl zs H' ∧ LinkAt K CA CE CL H' c d (chM zs 6)) ?_ (fun kont => ?_)
    rotate_left
    · refine for_lg ⟨6, rfl, by decide, by decide, lg_it (walk_range (n := 6)) (fun i σ' H' => (∃ c6, σ' = [some (.ref a), some (.ref r), some (.ref sp), some (.ref u), some (.ref nl), some (.ref c), c6, none, none]) ∧ Ctx T r sp nl zs H' ∧ LinkAt K CA CE CL H' c d (chM zs i)) ⟨⟨_, rfl⟩, cx5, lk5⟩ (fun _ _ _ _ _ => trivial) ?_ (fun σ' H' p => kont _ _ p)⟩
      rintro i x σ' H' H'' hi ⟨⟨c6, rfl⟩, cx6, lk6⟩ ⟨rfl, ex⟩
      have ex : x = .int (i : Int) := by
        rw [ex]
        show V.int (0 + (i : Int)) = _
        rw [Int.zero_add]
      subst ex
      refine nameA ?_
      dsimp only
      have nmi := Z.name (j := i) (by omega)
      refine ifA (told_q (n := zf zs i) (us := usC zs i) rfl (name_at rfl cx6.nm (by omega) (fun H' R h => ⟨_, rfl, h⟩)) (fun H2 R s h => ⟨_, rfl, _, _, rfl, rfl, _, rfl, ?_⟩) lk6 nmi.1 ?_ ?_ nmi.2 ?_ ?_ ?_ ?_ cx6.tb (.inl ⟨?_, ?_, ?_, ⟨i + 1, down zs i, ?_, by omega, Z.base_down (by omega), by rw [down_len]; omega⟩, fun H7 f7 t7 l7 => ⟨rfl, _, rfl, iteF' rfl (nextA ⟨⟨_, rfl⟩, cx6.fr lk6 f7 t7, ?_⟩)⟩⟩))
      · cases i with
        | zero => exact iteF' rfl (uses0 (K := K) (H := H'') H2 R s h)
        | succ j =>
          refine iteT' (by simp) (uses1 (K := K) (name_at rfl cx6.nm (by omega : j < zs.length) (fun H' R h => ⟨_, rfl, _, _, rfl, rfl, ?_⟩)) H2 R s h)
          have e : (((j + 1 : Nat) : Int) - 1) = (j : Int) := by omega
          show R (.int (((j + 1 : Nat) : Int) - 1)) H'
          rw [e]
          exact h
      · intro y hy
        unfold usC at hy
        split at hy
        · rw [List.mem_singleton.mp hy]
          exact (Z.name (by omega)).1
        · cases hy
      · unfold usC
        split <;> simp
      · rw [names_chM]
        exact Z.not_range (by omega) (Nat.le_refl _)
      · rw [names_chM]
        exact Z.nd_range (by omega)
      · rw [names_chM]
        exact Z.base_range (by omega)
      · unfold chM
        rw [List.length_map, List.length_range]
        omega
      · intro y hy
        unfold usC at hy
        split at hy
        · rw [List.mem_singleton.mp hy, names_chM]
          exact in_range (by omega)
        · cases hy
      · unfold usC
        split <;> simp
      · unfold chM
        rw [List.length_map, List.length_range]
        omega
      · rw [← chM_succ]
        exact Z.reach (ms := chM zs (i + 1)) i [] (by omega) (fun j hj => mem_chM (by omega)) (fun j hj m => by cases m)
      · rw [chM_succ]
        exact l7
    rintro σ' H6 ⟨⟨c6, rfl⟩, cx6, lk6⟩
    have nmq : ∀ {σ : L2.St} {H' : Hp} {j : Nat}, σ[4]? = some (some (.ref nl)) → Ctx T r sp nl zs H' → j < 13 → NameQ σ H' (tOp (rIxL K) (tVar 4) (tC (.int (j : Int)))) (zf zs j) := fun e c h => name_at e c.nm (by omega) (fun H' R h => h)
    have sm : ∀ {j : Nat}, j < 13 → ∀ y, y ∈ [zf zs j] → isNameS y = true := fun h y hy => by rw [List.mem_singleton.mp hy]; exact (Z.name h).1
    have l6 : (chM zs 6).length = 6 := by unfold chM; rw [List.length_map, List.length_range]
    have i6 : ∀ {j : Nat}, j < 6 → zf zs j ∈ names (chM zs 6) := fun h => by rw [names_chM]; exact in_range h
    have o6 : ∀ {j : Nat}, j < 13 → 6 ≤ j → zf zs j ∉ names (chM zs 6) := fun h1 h2 => by rw [names_chM]; exact Z.not_range h1 h2
    have n6 : (names (chM zs 6)).Nodup := by rw [names_chM]; exact Z.nd_range (by omega)
    have b6 : ("base" : Str) ∉ names (chM zs 6) := by rw [names_chM]; exact Z.base_range (by omega)
    -- the seventh in the chain
    refine seqA (ifA (call2 (told_q (n := zf zs 6) (us := [zf zs 5]) rfl (nmq (j := 6) rfl cx6 (by decide)) (uses1 (nmq (j := 5) rfl cx6 (by decide))) lk6 (Z.name (j := 6) (by decide)).1 (sm (j := 5) (by decide)) (Nat.le_of_ble_eq_true rfl) (Z.name (j := 6) (by decide)).2 (o6 (j := 6) (by decide) (by decide)) n6 b6 (by rw [l6]; decide) cx6.tb
      (.inr (.inl ⟨⟨fun y hy => by rw [List.mem_singleton.mp hy]; exact i6 (j := 5) (by decide), .inr ⟨by simp, .inr ⟨7, down zs 6, ?_, by decide, Z.base_down (by decide), by rw [down_len]; decide⟩⟩⟩, fun y H7 x7 t7 d7 => r_un d7 fun H8 s8 => ?_⟩)))))
    · exact Z.reach (ms := chM zs 7) 6 [] (by decide) (fun j hj => mem_chM (by omega)) (fun j hj m => by cases m)
    refine ⟨_, rfl, iteF' rfl (nextA ?_)⟩
    dsimp only
    have cx8 := (cx6.ext x7 t7).ext (same_ext s8) (t7.ext s8)
    have lk8 := link_ext (same_ext s8) (link_ext x7 lk6)
    clear cx6 lk6 x7 t7 s8 d7
    generalize em7 : chM zs 6 ++ [(zf zs 6, [zf zs 4])] = ms7
    have l7 : ms7.length = 7 := by rw [← em7, List.length_append, l6]; rfl
    have nm7 : names ms7 = (List.range 7).map (zf zs) := by
      rw [← em7, ← names_chM zs 7, chM_succ]
      unfold names
      rw [List.map_append, List.map_append]
      rfl
    refine seqA (ifA (call2 (told_q (n := zf zs 6) (us := [zf zs 4]) rfl (nmq (j := 6) rfl cx8 (by decide)) (uses1 (nmq (j := 4) rfl cx8 (by decide))) lk8 (Z.name (j := 6) (by decide)).1 (sm (j := 4) (by decide)) (Nat.le_of_ble_eq_true rfl) (Z.name (j := 6) (by decide)).2 (o6 (j := 6) (by decide) (by decide)) n6 b6 (by rw [l6]; decide) cx8.tb
      (.inl ⟨fun y hy => by rw [List.mem_singleton.mp hy]; exact i6 (j := 4) (by decide), by simp, by rw [l6]; decide, ⟨6, [zf zs 6] ++ down zs 4, ?_, by decide, fun m => ?_, by rw [List.length_append, down_len]; exact Nat.le_of_ble_eq_true rfl⟩, fun H9 f9 t9 lk9 => r_non ?_⟩))))
    · exact .new (due := []) (us := [zf zs 4]) (by simp) (.inl (List.mem_append_right _ (List.mem_singleton.mpr rfl))) (Z.reach 4 [zf zs 6] (by decide) (fun j hj => List.mem_append_left _ (mem_chM (by omega))) (fun j hj m => by
        have := Z.inj (by omega) (by decide) (List.mem_singleton.mp m)
        omega))
    · rcases List.mem_append.mp m with m | m
      · exact (Z.name (j := 6) (by decide)).2 (List.mem_singleton.mp m).symm
      · exact Z.base_down (by decide) m
    refine ⟨_, rfl, iteF' rfl (nextA ?_)⟩
    dsimp only
    have cx9 := cx8.fr lk8 f9 t9
    rw [em7] at lk9
    clear cx8 lk8 f9 t9
    have i7 : ∀ {j : Nat}, j < 7 → zf zs j ∈ names ms7 := fun h => by rw [nm7]; exact in_range h
    have o7 : ∀ {j : Nat}, j < 13 → 7 ≤ j → zf zs j ∉ names ms7 := fun h1 h2 => by rw [nm7]; exact Z.not_range h1 h2
    have n7 : (names ms7).Nodup := by rw [nm7]; exact Z.nd_range (by omega)
    have b7 : ("base" : Str) ∉ names ms7 := by rw [nm7]; exact Z.base_range (by omega)
    -- uses twice
    refine seqA (ifA (call2 (told_q (n := zf zs 7) (us := [zf zs 0, zf zs 1, zf zs 0]) rfl (nmq (j := 7) rfl cx9 (by decide)) (uses3 (nmq (j := 0) rfl cx9 (by decide)) (nmq (j := 1) rfl cx9 (by decide)) (nmq (j := 0) rfl cx9 (by decide))) lk9 (Z.name (j := 7) (by decide)).1 (fun y hy => ?_) (Nat.le_of_ble_eq_true rfl) (Z.name (j := 7) (by decide)).2 (o7 (j := 7) (by decide) (by decide)) n7 b7 (by rw [l7]; decide) cx9.tb
      (.inr (.inl ⟨⟨fun y hy => ?_, .inl (by simp)⟩, fun y H10 x10 t10 d10 => r_un d10 fun H11 s11 => ?_⟩)))))
    · have hy : y = zf zs 0 ∨ y = zf zs 1 ∨ y = zf zs 0 := by simpa using hy
      rcases hy with rfl | rfl | rfl
      · exact (Z.name (j := 0) (by decide)).1
      · exact (Z.name (j := 1) (by decide)).1
      · exact (Z.name (j := 0) (by decide)).1
    · have hy : y = zf zs 0 ∨ y = zf zs 1 ∨ y = zf zs 0 := by simpa using hy
      rcases hy with rfl | rfl | rfl
      · exact i7 (j := 0) (by decide)
      · exact i7 (j := 1) (by decide)
      · exact i7 (j := 0) (by decide)
    refine ⟨_, rfl, iteF' rfl (nextA ?_)⟩
    dsimp only
    have cx11 := (cx9.ext x10 t10).ext (same_ext s11) (t10.ext s11)
    have lk11 := link_ext (same_ext s11) (link_ext x10 lk9)
    clear cx9 lk9 x10 t10 s11 d10
    -- a use that is not loaded
    refine seqA (ifA (call2 (told_q (n := zf zs 7) (us := [zf zs 0, zf zs 9]) rfl (nmq (j := 7) rfl cx11 (by decide)) (uses2 (nmq (j := 0) rfl cx11 (by decide)) (nmq (j := 9) rfl cx11 (by decide))) lk11 (Z.name (j := 7) (by decide)).1 (fun y hy => ?_) (Nat.le_of_ble_eq_true rfl) (Z.name (j := 7) (by decide)).2 (o7 (j := 7) (by decide) (by decide)) n7 b7 (by rw [l7]; decide) cx11.tb
      (.inr (.inr ⟨[zf zs 0], zf zs 9, [], rfl, fun y hy => by rw [List.mem_singleton.mp hy]; exact i7 (j := 0) (by decide), o7 (j := 9) (by decide) (by decide), fun y H12 x12 t12 d12 => r_miss (nmq (j := 9) rfl (cx11.ext x12 t12) (by decide)) d12 fun H13 s13 => ?_⟩)))))
    · have hy : y = zf zs 0 ∨ y = zf zs 9 := by simpa using hy
      rcases hy with rfl | rfl
      · exact (Z.name (j := 0) (by decide)).1
      · exact (Z.name (j := 9) (by decide)).1
    refine ⟨_, rfl, iteF' rfl (nextA ?_)⟩
    dsimp only
    have cx13 := (cx11.ext x12 t12).ext (same_ext s13) (t12.ext s13)
    have lk13 := link_ext (same_ext s13) (link_ext x12 lk11)
    clear cx11 lk11 x12 t12 s13 d12
    -- twelve side by side
    refine seqA (asgA fun w dxw nw ndw nxw => ⟨w, dxw, rfl, upd_same, cx13.tb.ext (mk_same nw ndw), fun dw H14 f14 t14 nd14 lk14 => ⟨rfl, nameA ?_⟩⟩)
    dsimp only
    have x14 : ExtN H13 H14 := made_frn nw ndw f14
    have cx14 := cx13.ext x14 t14
    have two13 : Two CL c d H13 := lk13.two l7
    have two14 : Two CL c d H14 := two13.ext x14
    have ncw : c ∉ [w, dw] ∧ d ∉ [w, dw] := two13.off nw (fun o ho e => nd14 o ho (mk_same nw ndw _ _ e))
    clear lk13 two13 cx13 x14 f14
    refine seq_merge (fun σ' H' => (∃ c6, σ' = [some (.ref a), some (.ref r), some (.ref sp), some (.ref u), some (.ref nl), some (.ref c), c6, some (.ref w), none]) ∧ Ctx T r sp nl zs H' ∧ LinkAt K CA CE CL H' w dw (wM zs 12) ∧ Two CL c d H') ?_ (fun kont => ?_)
    rotate_left
    · refine for_lg ⟨12, rfl, by decide, by decide, lg_it (walk_range (n := 12)) (fun i σ' H' => (∃ c6, σ' = [some (.ref a), some (.ref r), some (.ref sp), some (.ref u), some (.ref nl), some (.ref c), c6, some (.ref w), none]) ∧ Ctx T r sp nl zs H' ∧ LinkAt K CA CE CL H' w dw (wM zs i) ∧ Two CL c d H') ⟨⟨_, rfl⟩, cx14, lk14, two14⟩ (fun _ _ _ _ _ => trivial) ?_ (fun σ' H' p => kont _ _ p)⟩
      rintro i x σ' H' H'' hi ⟨⟨c6', rfl⟩, cx, lk, two⟩ ⟨rfl, ex⟩
      have ex : x = .int (i : Int) := by
        rw [ex]
        show V.int (0 + (i : Int)) = _
        rw [Int.zero_add]
      subst ex
      refine nameA ?_
      dsimp only
      have nmi := Z.name (j := i) (by omega)
      have lw : (wM zs i).length = i := by unfold wM; rw [List.length_map, List.length_range]
      refine ifA (told_q (n := zf zs i) (us := []) rfl (name_at rfl cx.nm (by omega) (fun H' R h => ⟨_, rfl, h⟩)) uses0 lk nmi.1 (fun y hy => by cases hy) (Nat.zero_le _) nmi.2 ?_ ?_ ?_ (by rw [lw]; omega) cx.tb (.inl ⟨(fun y hy => by cases hy), List.nodup_nil, by rw [lw]; omega, ⟨1, [zf zs i], ?_, by decide, fun m => nmi.2 (List.mem_singleton.mp m).symm, Nat.le_of_ble_eq_true rfl⟩, fun H7 f7 t7 l7 => ⟨rfl, _, rfl, iteF' rfl (nextA ⟨⟨_, rfl⟩, cx.fr lk f7 t7, ?_, two.fr ncw f7⟩)⟩⟩))
      · rw [names_wM]
        exact Z.not_range (by omega) (Nat.le_refl _)
      · rw [names_wM]
        exact Z.nd_range (by omega)
      · rw [names_wM]
        exact Z.base_range (by omega)
      · exact .new (due := []) (us := []) (by simp) (.inl (List.mem_append_right _ (List.mem_singleton.mpr rfl))) (.done _)
      · rw [wM_succ]
        exact l7
    clear cx14 lk14 two14 t14 nd14
    rintro σ' H15 ⟨⟨c6', rfl⟩, cx15, lk15, two15⟩
    have lw : (wM zs 12).length = 12 := by unfold wM; rw [List.length_map, List.length_range]
    have nw12 : names (wM zs 12) = (List.range 12).map (zf zs) := names_wM zs 12
    have n12 := Z.name (j := 12) (by decide)
    have nin : zf zs 12 ∉ names (wM zs 12) := by rw [nw12]; exact Z.not_range (by decide) (by decide)
    have nd12 : (names (wM zs 12)).Nodup := by rw [nw12]; exact Z.nd_range (by omega)
    have nb12 : ("base" : Str) ∉ names (wM zs 12) := by rw [nw12]; exact Z.base_range (by omega)
    -- the thirteenth
    refine seqA (ifA (call2 (told_q (n := zf zs 12) (us := []) rfl (nmq (j := 12) rfl cx15 (by decide)) uses0 lk15 n12.1 (fun y hy => by cases hy) (Nat.zero_le _) n12.2 nin nd12 nb12 (by rw [lw]; decide) cx15.tb
      (.inr (.inl ⟨⟨(fun y hy => by cases hy), .inr ⟨List.nodup_nil, .inl (by rw [lw]; decide)⟩⟩, fun y H16 x16 t16 d16 => r_un d16 fun H17 s17 => ?_⟩)))))
    have cx17 := (cx15.ext x16 t16).ext (same_ext s17) (t16.ext s17)
    have lk17 := link_ext (same_ext s17) (link_ext x16 lk15)
    have two17 := (two15.ext x16).ext (same_ext s17)
    clear cx15 lk15 x16 t16 s17 d16 two15
    have hlk := lk17
    obtain ⟨dxw', atw, kvw, hw, hdw, hkw, _⟩ := hlk
    refine ⟨_, rfl, iteF' rfl (call2 ⟨_, rfl, w, dxw', _, rfl, hw, w, dw, dxw', atw, kvw, rfl, hw, hdw, 12, by rw [hkw.len, lw], by decide, r_int ⟨_, rfl, iteF' rfl (nextA ?_)⟩⟩)⟩
    dsimp only
    -- one goes, another comes
    refine seqA (asgA ⟨_, rfl, _, rfl, r, sp, 12, rfl, cx17.st, by decide, fun z H18 z0 z1 st18 f18 => nameA ?_⟩)
    dsimp only
    obtain ⟨g, rfl⟩ := Int.eq_ofNat_of_zero_le z0
    have g12 : g < 12 := Int.ofNat_lt.mp z1
    have lk18 := link_frS cx17.st f18 lk17
    have two18 : Two CL c d H18 := by
      obtain ⟨_, _, n, hsp⟩ := cx17.st
      obtain ⟨dxc', atc, kvc, h1, h2, h3⟩ := two17
      refine ⟨dxc', atc, kvc, f18 _ _ (fun m => ?_) h1, f18 _ _ (fun m => ?_) h2, h3⟩
      · rw [List.mem_singleton.mp m, hsp] at h1; cases h1
      · rw [List.mem_singleton.mp m, hsp] at h2; cases h2
    have cx18 : Ctx T r sp nl zs H18 := by
      obtain ⟨_, _, n, hsp⟩ := cx17.st
      refine ⟨st18, f18 _ _ (fun m => ?_) cx17.nm, tabs_fr cx17.tb f18 hsp (fun _ z => by cases z) (fun _ z => by cases z)⟩
      have e := cx17.nm
      rw [List.mem_singleton.mp m, hsp] at e
      have e := congrArg List.length (HO.lst.inj (Option.some.inj e))
      rw [List.length_map, hz13] at e
      cases e
    clear cx17 lk17 two17 st18 f18 hw hdw hkw
    obtain ⟨dxw2, atw2, kvw2, hw2, _⟩ := id lk18
    refine seqA ⟨_, rfl, w, dxw2, _, rfl, hw2, rfl, name_at (j := g) rfl cx18.nm (by omega) (fun H' R h => ⟨_, rfl, h⟩) _ _ (Same.refl _) ⟨w, dw, zf zs g, wM zs 12, rfl, lk18, by rw [nw12]; exact in_range g12, nd12, by rw [lw]; decide, fun m hm => ?_, cx18.tb, fun H19 f19 t19 lk19 => ?_⟩⟩
    · obtain ⟨j, _, rfl⟩ := List.mem_map.mp hm
      exact fun h => by cases h
    dsimp only
    have cx19 := cx18.fr lk18 f19 t19
    have two19 := two18.fr ncw f19
    clear cx18 lk18 two18 f19 t19 hw2
    have sub : ∀ y, y ∈ names ((wM zs 12).filter (fun m => decide (m.1 ≠ zf zs g))) → y ∈ names (wM zs 12) := fun y hy => by
      obtain ⟨m, hm, e⟩ := List.mem_map.mp hy
      exact List.mem_map.mpr ⟨m, (List.mem_filter.mp hm).1, e⟩
    have lf : ((wM zs 12).filter (fun m => decide (m.1 ≠ zf zs g))).length ≤ 11 := by
      have e := congrArg List.length (Z.left g12)
      unfold names at e
      rw [List.length_map, List.length_append, List.length_append, List.length_take, List.length_drop, hz13] at e
      have e1 : [(zf zs 12, ([] : List Str))].length = 1 := rfl
      omega
    have ndf : (names ((wM zs 12).filter (fun m => decide (m.1 ≠ zf zs g)))).Nodup := ((List.filter_sublist).map _).nodup nd12
    have left := Z.left g12
    generalize (wM zs 12).filter (fun m => decide (m.1 ≠ zf zs g)) = ms11 at lk19 sub lf ndf left
    refine seqA (ifA (call2 (told_q (n := zf zs 12) (us := []) rfl (nmq (j := 12) rfl cx19 (by decide)) uses0 lk19 n12.1 (fun y hy => by cases hy) (Nat.zero_le _) n12.2 (fun h => nin (sub _ h)) ndf (fun h => nb12 (sub _ h)) (by omega) cx19.tb
      (.inl ⟨(fun y hy => by cases hy), List.nodup_nil, by omega, ⟨1, [zf zs 12], ?_, by decide, fun m => n12.2 (List.mem_singleton.mp m).symm, Nat.le_of_ble_eq_true rfl⟩, fun H20 f20 t20 lk20 => r_non ?_⟩))))
    · exact .new (due := []) (us := []) (by simp) (.inl (List.mem_append_right _ (List.mem_singleton.mpr rfl))) (.done _)
    refine ⟨_, rfl, iteF' rfl (nextA ?_)⟩
    dsimp only
    have cx20 := cx19.fr lk19 f20 t20
    have two20 := two19.fr ncw f20
    clear cx19 lk19 two19 f20 t20
    obtain ⟨dxw3, atw3, kvw3, hw3, _⟩ := id lk20
    refine retA ⟨_, rfl, w, dxw3, _, rfl, hw3, rfl, w, dw, _, rfl, lk20, by rw [List.length_append]; show _ + 1 < 64; omega, fun ys p H21 pm so s21 hp => ?_⟩
    rw [left] at pm
    have e21 := s21 _ _ cx20.nm
    refine ⟨_, rfl, _, rfl, _, rfl, nl, _, rfl, SqL.of e21, fun p1 np1 => ?_⟩
    have c1 : cutV (zs.map V.str) none (some (g : Int)) = (zs.take g).map V.str := by rw [cut_to, List.map_take]
    rw [c1]
    have s22 : Same H21 (upd H21 p1 (.lst ((zs.take g).map V.str))) := same_upd np1
    have e22 : upd H21 p1 (.lst ((zs.take g).map V.str)) p1 = some (.lst ((zs.take g).map V.str)) := upd_same
    generalize upd H21 p1 (.lst ((zs.take g).map V.str)) = H22 at s22 e22 ⊢
    refine ⟨_, rfl, _, rfl, _, _, rfl, rfl, _, rfl, nl, _, rfl, SqL.of (s22 _ _ e21), fun p2 np2 => ?_⟩
    have c2 : cutV (zs.map V.str) (some ((g : Int) + 1)) none = (zs.drop (g + 1)).map V.str := by
      have e : ((g : Int) + 1) = ((g + 1 : Nat) : Int) := by omega
      rw [e, cut_off, List.map_drop]
    rw [c2]
    have s23 : Same H22 (upd H22 p2 (.lst ((zs.drop (g + 1)).map V.str))) := same_upd np2
    have e23 : upd H22 p2 (.lst ((zs.drop (g + 1)).map V.str)) p2 = some (.lst ((zs.drop (g + 1)).map V.str)) := upd_same
    generalize upd H22 p2 (.lst ((zs.drop (g + 1)).map V.str)) = H23 at s23 e23 ⊢
    have lz : (zs.take g ++ zs.drop (g + 1)).length ≤ 13 := by
      rw [List.length_append, List.length_take, List.length_drop]
      omega
    have lz2 : ((zs.take g).map V.str).length + ((zs.drop (g + 1)).map V.str).length ≤ 13 := by
      rw [List.length_map, List.length_map, ← List.length_append]
      exact lz
    refine ⟨p1, p2, _, _, rfl, rfl, s23 _ _ e22, e23, Nat.le_trans lz2 (by decide), fun p3 np3 => ?_⟩
    rw [← List.map_append]
    have s24 : Same H23 (upd H23 p3 (.lst ((zs.take g ++ zs.drop (g + 1)).map V.str))) := same_upd np3
    have e24 : upd H23 p3 (.lst ((zs.take g ++ zs.drop (g + 1)).map V.str)) p3 = some (.lst ((zs.take g ++ zs.drop (g + 1)).map V.str)) := upd_same
    generalize upd H23 p3 (.lst ((zs.take g ++ zs.drop (g + 1)).map V.str)) = H24 at s24 e24 ⊢
    refine ⟨p3, _, rfl, SqL.of e24, Nat.lt_of_le_of_lt lz (by decide), fun ys2 p4 pm2 so2 np4 => ?_⟩
    have same : ys = ys2 := sorted_same (pm.trans pm2.symm) so so2
    subst same
    have s25 : Same H24 (upd H24 p4 (.lst (ys.map V.str))) := same_upd np4
    have e25 : upd H24 p4 (.lst (ys.map V.str)) p4 = some (.lst (ys.map V.str)) := upd_same
    generalize upd H24 p4 (.lst (ys.map V.str)) = H25 at s25 e25 ⊢
    refine ⟨p4, _, rfl, .inl ⟨SqL.of e25, fun p5 np5 => ?_⟩⟩
    have s26 : Same H25 (upd H25 p5 (.tup (ys.map V.str))) := same_upd np5
    have e26 : upd H25 p5 (.tup (ys.map V.str)) p5 = some (.tup (ys.map V.str)) := upd_same
    generalize upd H25 p5 (.tup (ys.map V.str)) = H26 at s26 e26 ⊢
    have s27 : Same H21 H26 := (((s22.trans s23).trans s24).trans s25).trans s26
    have ly : (ys.map PyData.str).length ≤ 1000 := by
      rw [List.length_map, pm.length_eq]
      omega
    refine ⟨.ref p, .ref p5, .tuple (ys.map .str), .tuple (ys.map .str), rfl, .tup (.inl (.inl (s27 _ _ hp))) (dps_of_strs ys), .tup (.inl (.inl e26)) (dps_of_strs ys), ⟨ly, fun y hy => ?_⟩, ?_⟩
    · obtain ⟨z, _, rfl⟩ := List.mem_map.mp hy
      trivial
    rw [so_names]
    refine ⟨true, rfl, iteT' rfl ?_⟩
    obtain ⟨dxc2, atc2, kvc2, hc2, hd2, hl2⟩ := (two20.ext (same_ext s21)).ext (same_ext s27)
    exact call2 ⟨_, rfl, c, dxc2, _, rfl, hc2, c, d, dxc2, atc2, kvc2, rfl, hc2, hd2, 7, by rw [hl2], by decide, r_int (q _)⟩
end
end Cw

set_option Elab.async false
set_option linter.all false
set_option maxRecDepth 100000
set_option maxHeartbeats 0
namespace Cw
open PySem PySem.Spec PyProof.Rows L2
/-! ### the written rows -/
def strOf : Value → Option Str
  | .str z _ => some z
  | _ => none
def tupStr (K : PySem.W.Frag) (p : Addr) : Option (List (Option Str)) := match K.lookup p with
  | some ⟨.type c, _, .seq its _, _⟩ => if c = "tuple" ∧ its.size ≤ 100 then some (its.toList.map strOf) else none
  | _ => none
theorem vals_strs : ∀ {l : List Value} {zs : List Str}, l.map strOf = zs.map some → Vals (zs.map V.str) l
  | [], [], _ => .nil
  | [], _ :: _, h => by cases h
  | _ :: _, [], h => by cases h
  | v :: l, z :: zs, h => by
    have h1 : strOf v :: l.map strOf = some z :: zs.map some := h
    injection h1 with h2 h3
    refine .cons ?_ (vals_strs h3)
    cases v with
    | str x t =>
      have e : x = z := Option.some.inj h2
      subst e
      exact ⟨t, rfl⟩
    | _ => cases h2
theorem tup_of {K : PySem.W.Frag} {p : Addr} {zs : List Str} (h : tupStr K p = some (zs.map some)) (H : Hp) : SqT K H p (zs.map V.str) := by
  unfold tupStr at h
  split at h
  · rename_i c d its n sl q
    split at h
    · rename_i hc
      have e := Option.some.inj h
      obtain ⟨e1, e2⟩ := hc
      exact .inr ⟨_, its, n, q, by rw [e1], rfl, Nat.le_trans e2 (by decide), vals_strs e⟩
    · cases h
  · cases h
def rowK (K : PySem.W.Frag) (e : DictEntry) : Option (Str × Option (List (Option Str))) := match e.key, e.val with
  | .str x _, .ref p => some (x, tupStr K p)
  | _, _ => none
def formRows : List (Str × List Str) := [("int", ["number"]), ("name", ["name"]), ("next", []), ("new", ["class", "values"]), ("field", ["part", "class", "name"]), ("call", ["generic", "arguments"]), ("add", ["part", "part"]), ("sub", ["part", "part"]), ("mul", ["part", "part"]), ("if", ["part", "part", "part"]), ("let", ["name", "part", "part"])]
def rowOfF (r : Str × List Str) : Option (Str × Option (List (Option Str))) := some (r.1, some (r.2.map some))
def formsB (K : PySem.W.Frag) (a : Addr) : Bool := match K.lookup a with
  | some ⟨_, _, .dict es _, _⟩ => decide (es.toList.map (rowK K) = formRows.map rowOfF)
  | _ => false
def lookR (z : Str) : List (Str × List Str) → Option (List Str)
  | [] => none
  | r :: l => if z = r.1 then some r.2 else lookR z l
theorem kinds_rows (z : Str) : kindsOf z = lookR z formRows := rfl
theorem find_rows {K : PySem.W.Frag} (z : Str) : ∀ (l : List DictEntry) (rows : List (Str × List Str)), l.map (rowK K) = rows.map rowOfF →
    (lookR z rows = none → l.find? (·.key.isStr z) = none) ∧ (l.any (·.refKey) = false) ∧ ∀ ks, lookR z rows = some ks → ∃ e p, l.find? (·.key.isStr z) = some e ∧ e.val = .ref p ∧ tupStr K p = some (ks.map some)
  | [], [], _ => ⟨fun _ => rfl, rfl, fun _ h => nomatch h⟩
  | [], _ :: _, h => by cases h
  | _ :: _, [], h => by cases h
  | e :: l, r :: rows, h => by
    have h1 : rowK K e :: l.map (rowK K) = rowOfF r :: rows.map rowOfF := h
    injection h1 with h2 h3
    obtain ⟨i1, i2, i3⟩ := find_rows z l rows h3
    obtain ⟨hh, ek, ev⟩ := e
    unfold rowK rowOfF at h2
    split at h2
    · rename_i x t p q1 q2
      have q1 : ek = .str x t := q1
      have q2 : ev = .ref p := q2
      subst q1 q2
      have h4 := Option.some.inj h2
      obtain ⟨h5, h6⟩ := Prod.mk.inj h4
      have ks : ∀ y : Str, (Value.str x t).isStr y = (x == y) := fun y => rfl
      refine ⟨fun g => ?_, ?_, fun ks' g => ?_⟩
      · unfold lookR at g
        by_cases c : z = r.1
        · rw [if_pos c] at g; cases g
        · rw [if_neg c] at g
          rw [List.find?_cons_of_neg]
          · exact i1 g
          · show ¬ (x == z) = true
            rw [beq_iff_eq]
            exact fun c2 => c (by rw [← c2, h5])
      · rw [List.any_cons, i2]
        rfl
      · unfold lookR at g
        by_cases c : z = r.1
        · rw [if_pos c] at g
          have g := Option.some.inj g
          subst g
          refine ⟨_, p, List.find?_cons_of_pos ?_, rfl, h6⟩
          show (x == z) = true
          rw [beq_iff_eq, h5, c]
        · rw [if_neg c] at g
          obtain ⟨e, p', j1, j2, j3⟩ := i3 ks' g
          refine ⟨e, p', ?_, j2, j3⟩
          rw [List.find?_cons_of_neg]
          · exact j1
          · show ¬ (x == z) = true
            rw [beq_iff_eq]
            exact fun c2 => c (by rw [← c2, h5])
    · cases h2
theorem forms_of {K : PySem.W.Frag} {w : World} {a : Addr} (hd : ∃ es n, KDict K w a es n) (h : formsB K a = true) : Forms K w a := by
  obtain ⟨es, n, D⟩ := hd
  refine ⟨es, n, D, fun z => ?_⟩
  unfold formsB at h
  rw [D.at_] at h
  have h1 : es.toList.map (rowK K) = formRows.map rowOfF := of_decide_eq_true h
  obtain ⟨i1, i2, i3⟩ := find_rows z es.toList formRows h1
  rw [kinds_rows]
  refine ⟨fun g => ?_, fun ks g => ?_⟩
  · unfold PySem.W.nsIn
    rw [D.at_]
    show (match es.toList.find? (·.key.isStr z) with | some e => some (some e.val) | none => if es.toList.any (·.refKey) then none else some none) = some none
    rw [i1 g, i2]
    rfl
  · obtain ⟨e, p, j1, j2, j3⟩ := i3 ks g
    refine ⟨p, ?_, tup_of j3⟩
    unfold PySem.W.nsIn
    rw [D.at_]
    show (match es.toList.find? (·.key.isStr z) with | some e => some (some e.val) | none => if es.toList.any (·.refKey) then none else some none) = some (some (.ref p))
    rw [j1, ← j2]
/-- a written tuple -/
def itK (K : PySem.W.Frag) (a : Addr) (i : Nat) : Addr := match K.lookup a with
  | some ⟨_, _, .seq its _, _⟩ => (match its.toList[i]? with
    | some (.ref b) => b
    | _ => 0)
  | _ => 0
def tupV (K : PySem.W.Frag) (a : Addr) (vs : List V) : Bool := match K.lookup a with
  | some ⟨.type c, _, .seq its _, _⟩ => decide (c = "tuple") && (decide (its.size ≤ 100) && (decide (its.toList.length = vs.length) && (List.zip vs its.toList).all fun p => He.relB p.1 p.2))
  | _ => false
theorem vals_zip : ∀ {vs : List V} {us : List Value}, us.length = vs.length → ((List.zip vs us).all fun p => He.relB p.1 p.2) = true → Vals vs us
  | [], [], _, _ => .nil
  | [], _ :: _, h, _ => by cases h
  | _ :: _, [], h, _ => by cases h
  | v :: vs, u :: us, h, b => by
    rw [List.zip_cons_cons, List.all_cons] at b
    obtain ⟨b1, b2⟩ := Bool.and_eq_true_iff.mp b
    exact .cons (He.relB_ok b1) (vals_zip (Nat.succ.inj h) b2)
theorem tupV_of {K : PySem.W.Frag} {a : Addr} {vs : List V} (h : tupV K a vs = true) (H : Hp) : SqT K H a vs := by
  unfold tupV at h
  split at h
  · rename_i c d its n sl q
    obtain ⟨h1, h⟩ := Bool.and_eq_true_iff.mp h
    obtain ⟨h2, h⟩ := Bool.and_eq_true_iff.mp h
    obtain ⟨h3, h4⟩ := Bool.and_eq_true_iff.mp h
    exact .inr ⟨_, its, n, q, by rw [of_decide_eq_true h1], rfl, Nat.le_trans (of_decide_eq_true h2) (by decide), vals_zip (of_decide_eq_true h3) h4⟩
  · cases h
def baseB (K : PySem.W.Frag) (t : Addr) : Bool :=
  tupV K t [.ref (itK K t 0), .ref (itK K t 1)] && (tupV K (itK K t 0) [.str "Any", .str "open", .bl true, .ref (itK K (itK K t 0) 3), .ref (itK K (itK K t 0) 4)] && (tupV K (itK K (itK K t 0) 3) [] && (tupV K (itK K (itK K t 0) 4) [] &&
  (tupV K (itK K t 1) [.str "Int", .str "sealed", .bl false, .ref (itK K (itK K t 1) 3), .ref (itK K (itK K t 1) 4)] && (tupV K (itK K (itK K t 1) 3) [.str "base.Any"] && tupV K (itK K (itK K t 1) 4) [])))))
theorem base_of {K : PySem.W.Frag} {t : Addr} (h : baseB K t = true) (H : Hp) : BaseT K H t := by
  obtain ⟨h1, h⟩ := Bool.and_eq_true_iff.mp h
  obtain ⟨h2, h⟩ := Bool.and_eq_true_iff.mp h
  obtain ⟨h3, h⟩ := Bool.and_eq_true_iff.mp h
  obtain ⟨h4, h⟩ := Bool.and_eq_true_iff.mp h
  obtain ⟨h5, h⟩ := Bool.and_eq_true_iff.mp h
  obtain ⟨h6, h7⟩ := Bool.and_eq_true_iff.mp h
  exact ⟨_, _, _, _, _, _, tupV_of h1 H, tupV_of h2 H, tupV_of h3 H, tupV_of h4 H, tupV_of h5 H, tupV_of h6 H, tupV_of h7 H⟩
def clB (K : PySem.W.Frag) (C f : Addr) (fls : List Str) : Bool :=
  decide (PySem.W.findIn K (.ref C) "__setattr__" = some (some (.builtin "object.__setattr__"))) && (decide (PySem.W.findIn K (.ref C) "__getattribute__" = some (some (.builtin "BaseException.__getattribute__"))) && (decide (PySem.W.findIn K (.ref C) "__getattr__" = some none) &&
  (decide (PySem.W.findIn K (.ref C) "__class__" = some (some (.builtin "object.__class__"))) && (decide (PySem.W.mroIn K C (.type "object") = some true) && (decide (PySem.W.subIn K (.ref C) (.type "BaseException") = some true) && (decide (PySem.W.typeIn K (.ref C) = some (.type "type")) &&
  (PySem.W.hasDictIn K C && (PySem.W.keepIn K (.ref C) && (decide (PySem.W.typeIn K (.ref f) = some (.type "function")) && (PySem.W.keepIn K (.ref f) && fls.all fun fl => decide (PySem.W.findIn K (.ref C) fl = some none)))))))))))
open PySem.CwEx in
theorem ec_of {K : PySem.W.Frag} {h : Heap} {mg : Str → Option Value} {x qual : Str} {st : Stmt} {fls : List Str} {CE C f : Addr} (X : K.In h) (G : h.Ns mainGlobals mg)
    {nm q : Str} {N : Addr} {bs : List Value} {sn : List Str} {sub : List Value} {ab : Bool} {col : Option Bool} {dd : Option Addr} {k0 k1 k2 k3 k5 : Option Value}
    (a : PySem.W.nsIn K mainGlobals x = some (some (.ref C))) (l : K.lookup C = some (excClassObj nm q C N bs (.ref CE :: tl3) true sn sub ab col dd k0 k1 k2 k3 k5 "Exception.__new__")) (i : PySem.W.findIn K (.ref C) "__init__" = some (some (.ref f)))
    {oc : Value} {od an : Option Addr} {sl : Array (Option Value)} {kV doc pm cd ct : Value}
    (lf : K.lookup f = some ⟨oc, od, .func (PySem.W.fnOf "__init__" qual (defArgs st) (defBody st) (defScope st) .none kV doc pm an cd ct), sl⟩) (cf : PySem.W.codeIn K cd qual = true) (b : clB K C f fls = true)
    (sg : PySem.W.specialIn K (.builtin "object.__class__") "__get__" = some (some (.builtin "getset_descriptor.__get__"))) (tk : PySem.W.takesIn K (.builtin "object.__class__") = some true) :
    EC K mg x qual st fls CE C f (PySem.W.fnOf "__init__" qual (defArgs st) (defBody st) (defScope st) .none kV doc pm an cd ct) := by
  obtain ⟨b1, b⟩ := Bool.and_eq_true_iff.mp b
  obtain ⟨b2, b⟩ := Bool.and_eq_true_iff.mp b
  obtain ⟨b3, b⟩ := Bool.and_eq_true_iff.mp b
  obtain ⟨b4, b⟩ := Bool.and_eq_true_iff.mp b
  obtain ⟨b5, b⟩ := Bool.and_eq_true_iff.mp b
  obtain ⟨b6, b⟩ := Bool.and_eq_true_iff.mp b
  obtain ⟨b7, b⟩ := Bool.and_eq_true_iff.mp b
  obtain ⟨b8, b⟩ := Bool.and_eq_true_iff.mp b
  obtain ⟨b9, b⟩ := Bool.and_eq_true_iff.mp b
  obtain ⟨b10, b⟩ := Bool.and_eq_true_iff.mp b
  obtain ⟨b11, b⟩ := Bool.and_eq_true_iff.mp b
  exact ⟨⟨⟨_, _, _, _, _, _, _, _, _, _, _, _, _, _, l⟩, of_decide_eq_true b1, of_decide_eq_true b2, of_decide_eq_true b3, of_decide_eq_true b4, sg, tk, of_decide_eq_true b5, of_decide_eq_true b6, of_decide_eq_true b7, b8, b9⟩,
    PySem.W.mg_of X G a, i, of_decide_eq_true b10, fun_mk lf cf b11, fun fl hfl => of_decide_eq_true (List.all_eq_true.mp b fl hfl)⟩
def exB (K : PySem.W.Frag) (C D : Addr) (b : Bool) : Bool := decide (PySem.W.subIn K (.ref D) (.type "BaseException") = some true) && (PySem.W.hasDictIn K D && (decide (PySem.W.typeIn K (.ref D) = some (.type "type")) && decide (PySem.W.subIn K (.ref C) (.ref D) = some b)))
theorem ex_of {K : PySem.W.Frag} {C D : Addr} {v : Bool} (b : exB K C D v = true) : PySem.W.exmOne K (.ref C) (.ref D) = some v := by
  obtain ⟨b1, b⟩ := Bool.and_eq_true_iff.mp b
  obtain ⟨b2, b⟩ := Bool.and_eq_true_iff.mp b
  obtain ⟨b3, b4⟩ := Bool.and_eq_true_iff.mp b
  exact PySem.W.exm_ref (of_decide_eq_true b1) b2 (of_decide_eq_true b3) (of_decide_eq_true b4)
end Cw
namespace Cw
open PySem PySem.Spec PyProof.Rows L2 LamX
theorem all_mk {l : PySem.W.OpenLaw} {w : World} {K : PySem.W.Frag} {h : Heap} {mg : Str → Option Value} {fa g_reached g_is_integer g_is_sequence g_are_lower g_is_name g_is_class_word g_is_class_name g_is_generic_name g_plain g_is_module g_is_expression g_are_all g_is_class g_is_generic g_is_method g_is_named_class g_form_parts g_is_member g_any_place g_own_place g_other_place g_first_fault g_are_different g_check_module g_viewed_part g_bad_call g_check_uses g_check_rules g__law_so g__law_numbers g__law_draw g__law_take g__law_letters g__law_name g__law_reserved g__law_load_told g_law a_BASE_CLASSES a_FORMS a_RESERVED a_ROWS cA PT CE f_ClassEntry_init CA f_Atlas_init f_Atlas_enter_classes f_Atlas_enter_generics f_Atlas_enter_methods f_Atlas_view f_Atlas_part CP f_Place_init CS f_Scope_init CL f_Link_init f_Link_load f_Link_unload f_Link_names f_Link_len f_class_fault f_generic_fault f_method_fault C0 CMU CUL CBV CTN CNC fMU fUL : Addr} (X : K.In h) (G : h.Ns mainGlobals mg) (hfa : mg "law" = some (.ref fa)) (ePT : h.get? PT = some (PySem.W.tabObj #[]))
    {oc_reached : Value} {od_reached an_reached : Option Addr} {sl_reached : Array (Option Value)} {kV_reached doc_reached pm_reached cd_reached ct_reached : Value} (da_reached : PySem.W.nsIn K mainGlobals "reached" = some (some (.ref g_reached))) (dl_reached : K.lookup g_reached = some ⟨oc_reached, od_reached, .func (PySem.W.fnOf "reached" "reached" (defArgs s_reached) (defBody s_reached) (defScope s_reached) .none kV_reached doc_reached pm_reached an_reached cd_reached ct_reached), sl_reached⟩) (dc_reached : PySem.W.codeIn K cd_reached "reached" = true) (dk_reached : PySem.W.keepIn K (.ref g_reached) = true)
    {oc_is_integer : Value} {od_is_integer an_is_integer : Option Addr} {sl_is_integer : Array (Option Value)} {kV_is_integer doc_is_integer pm_is_integer cd_is_integer ct_is_integer : Value} (da_is_integer : PySem.W.nsIn K mainGlobals "is_integer" = some (some (.ref g_is_integer))) (dl_is_integer : K.lookup g_is_integer = some ⟨oc_is_integer, od_is_integer, .func (PySem.W.fnOf "is_integer" "is_integer" (defArgs s_is_integer) (defBody s_is_integer) (defScope s_is_integer) .none kV_is_integer doc_is_integer pm_is_integer an_is_integer cd_is_integer ct_is_integer), sl_is_integer⟩) (dc_is_integer : PySem.W.codeIn K cd_is_integer "is_integer" = true) (dk_is_integer : PySem.W.keepIn K (.ref g_is_integer) = true)
    {oc_is_sequence : Value} {od_is_sequence an_is_sequence : Option Addr} {sl_is_sequence : Array (Option Value)} {kV_is_sequence doc_is_sequence pm_is_sequence cd_is_sequence ct_is_sequence : Value} (da_is_sequence : PySem.W.nsIn K mainGlobals "is_sequence" = some (some (.ref g_is_sequence))) (dl_is_sequence : K.lookup g_is_sequence = some ⟨oc_is_sequence, od_is_sequence, .func (PySem.W.fnOf "is_sequence" "is_sequence" (defArgs s_is_sequence) (defBody s_is_sequence) (defScope s_is_sequence) .none kV_is_sequence doc_is_sequence pm_is_sequence an_is_sequence cd_is_sequence ct_is_sequence), sl_is_sequence⟩) (dc_is_sequence : PySem.W.codeIn K cd_is_sequence "is_sequence" = true) (dk_is_sequence : PySem.W.keepIn K (.ref g_is_sequence) = true)
    {oc_are_lower : Value} {od_are_lower an_are_lower : Option Addr} {sl_are_lower : Array (Option Value)} {kV_are_lower doc_are_lower pm_are_lower cd_are_lower ct_are_lower : Value} (da_are_lower : PySem.W.nsIn K mainGlobals "are_lower" = some (some (.ref g_are_lower))) (dl_are_lower : K.lookup g_are_lower = some ⟨oc_are_lower, od_are_lower, .func (PySem.W.fnOf "are_lower" "are_lower" (defArgs s_are_lower) (defBody s_are_lower) (defScope s_are_lower) .none kV_are_lower doc_are_lower pm_are_lower an_are_lower cd_are_lower ct_are_lower), sl_are_lower⟩) (dc_are_lower : PySem.W.codeIn K cd_are_lower "are_lower" = true) (dk_are_lower : PySem.W.keepIn K (.ref g_are_lower) = true)
    {oc_is_name : Value} {od_is_name an_is_name : Option Addr} {sl_is_name : Array (Option Value)} {kV_is_name doc_is_name pm_is_name cd_is_name ct_is_name : Value} (da_is_name : PySem.W.nsIn K mainGlobals "is_name" = some (some (.ref g_is_name))) (dl_is_name : K.lookup g_is_name = some ⟨oc_is_name, od_is_name, .func (PySem.W.fnOf "is_name" "is_name" (defArgs s_is_name) (defBody s_is_name) (defScope s_is_name) .none kV_is_name doc_is_name pm_is_name an_is_name cd_is_name ct_is_name), sl_is_name⟩) (dc_is_name : PySem.W.codeIn K cd_is_name "is_name" = true) (dk_is_name : PySem.W.keepIn K (.ref g_is_name) = true)
    {oc_is_class_word : Value} {od_is_class_word an_is_class_word : Option Addr} {sl_is_class_word : Array (Option Value)} {kV_is_class_word doc_is_class_word pm_is_class_word cd_is_class_word ct_is_class_word : Value} (da_is_class_word : PySem.W.nsIn K mainGlobals "is_class_word" = some (some (.ref g_is_class_word))) (dl_is_class_word : K.lookup g_is_class_word = some ⟨oc_is_class_word, od_is_class_word, .func (PySem.W.fnOf "is_class_word" "is_class_word" (defArgs s_is_class_word) (defBody s_is_class_word) (defScope s_is_class_word) .none kV_is_class_word doc_is_class_word pm_is_class_word an_is_class_word cd_is_class_word ct_is_class_word), sl_is_class_word⟩) (dc_is_class_word : PySem.W.codeIn K cd_is_class_word "is_class_word" = true) (dk_is_class_word : PySem.W.keepIn K (.ref g_is_class_word) = true)
    {oc_is_class_name : Value} {od_is_class_name an_is_class_name : Option Addr} {sl_is_class_name : Array (Option Value)} {kV_is_class_name doc_is_class_name pm_is_class_name cd_is_class_name ct_is_class_name : Value} (da_is_class_name : PySem.W.nsIn K mainGlobals "is_class_name" = some (some (.ref g_is_class_name))) (dl_is_class_name : K.lookup g_is_class_name = some ⟨oc_is_class_name, od_is_class_name, .func (PySem.W.fnOf "is_class_name" "is_class_name" (defArgs s_is_class_name) (defBody s_is_class_name) (defScope s_is_class_name) .none kV_is_class_name doc_is_class_name pm_is_class_name an_is_class_name cd_is_class_name ct_is_class_name), sl_is_class_name⟩) (dc_is_class_name : PySem.W.codeIn K cd_is_class_name "is_class_name" = true) (dk_is_class_name : PySem.W.keepIn K (.ref g_is_class_name) = true)
    {oc_is_generic_name : Value} {od_is_generic_name an_is_generic_name : Option Addr} {sl_is_generic_name : Array (Option Value)} {kV_is_generic_name doc_is_generic_name pm_is_generic_name cd_is_generic_name ct_is_generic_name : Value} (da_is_generic_name : PySem.W.nsIn K mainGlobals "is_generic_name" = some (some (.ref g_is_generic_name))) (dl_is_generic_name : K.lookup g_is_generic_name = some ⟨oc_is_generic_name, od_is_generic_name, .func (PySem.W.fnOf "is_generic_name" "is_generic_name" (defArgs s_is_generic_name) (defBody s_is_generic_name) (defScope s_is_generic_name) .none kV_is_generic_name doc_is_generic_name pm_is_generic_name an_is_generic_name cd_is_generic_name ct_is_generic_name), sl_is_generic_name⟩) (dc_is_generic_name : PySem.W.codeIn K cd_is_generic_name "is_generic_name" = true) (dk_is_generic_name : PySem.W.keepIn K (.ref g_is_generic_name) = true)
    {oc_plain : Value} {od_plain an_plain : Option Addr} {sl_plain : Array (Option Value)} {kV_plain doc_plain pm_plain cd_plain ct_plain : Value} (da_plain : PySem.W.nsIn K mainGlobals "plain" = some (some (.ref g_plain))) (dl_plain : K.lookup g_plain = some ⟨oc_plain, od_plain, .func (PySem.W.fnOf "plain" "plain" (defArgs s_plain) (defBody s_plain) (defScope s_plain) .none kV_plain doc_plain pm_plain an_plain cd_plain ct_plain), sl_plain⟩) (dc_plain : PySem.W.codeIn K cd_plain "plain" = true) (dk_plain : PySem.W.keepIn K (.ref g_plain) = true)
    {oc_is_module : Value} {od_is_module an_is_module : Option Addr} {sl_is_module : Array (Option Value)} {kV_is_module doc_is_module pm_is_module cd_is_module ct_is_module : Value} (da_is_module : PySem.W.nsIn K mainGlobals "is_module" = some (some (.ref g_is_module))) (dl_is_module : K.lookup g_is_module = some ⟨oc_is_module, od_is_module, .func (PySem.W.fnOf "is_module" "is_module" (defArgs s_is_module) (defBody s_is_module) (defScope s_is_module) .none kV_is_module doc_is_module pm_is_module an_is_module cd_is_module ct_is_module), sl_is_module⟩) (dc_is_module : PySem.W.codeIn K cd_is_module "is_module" = true) (dk_is_module : PySem.W.keepIn K (.ref g_is_module) = true)
    {oc_is_expression : Value} {od_is_expression an_is_expression : Option Addr} {sl_is_expression : Array (Option Value)} {kV_is_expression doc_is_expression pm_is_expression cd_is_expression ct_is_expression : Value} (da_is_expression : PySem.W.nsIn K mainGlobals "is_expression" = some (some (.ref g_is_expression))) (dl_is_expression : K.lookup g_is_expression = some ⟨oc_is_expression, od_is_expression, .func (PySem.W.fnOf "is_expression" "is_expression" (defArgs s_is_expression) (defBody s_is_expression) (defScope s_is_expression) .none kV_is_expression doc_is_expression pm_is_expression an_is_expression cd_is_expression ct_is_expression), sl_is_expression⟩) (dc_is_expression : PySem.W.codeIn K cd_is_expression "is_expression" = true) (dk_is_expression : PySem.W.keepIn K (.ref g_is_expression) = true)
    {oc_are_all : Value} {od_are_all an_are_all : Option Addr} {sl_are_all : Array (Option Value)} {kV_are_all doc_are_all pm_are_all cd_are_all ct_are_all : Value} (da_are_all : PySem.W.nsIn K mainGlobals "are_all" = some (some (.ref g_are_all))) (dl_are_all : K.lookup g_are_all = some ⟨oc_are_all, od_are_all, .func (PySem.W.fnOf "are_all" "are_all" (defArgs s_are_all) (defBody s_are_all) (defScope s_are_all) .none kV_are_all doc_are_all pm_are_all an_are_all cd_are_all ct_are_all), sl_are_all⟩) (dc_are_all : PySem.W.codeIn K cd_are_all "are_all" = true) (dk_are_all : PySem.W.keepIn K (.ref g_are_all) = true)
    {oc_is_class : Value} {od_is_class an_is_class : Option Addr} {sl_is_class : Array (Option Value)} {kV_is_class doc_is_class pm_is_class cd_is_class ct_is_class : Value} (da_is_class : PySem.W.nsIn K mainGlobals "is_class" = some (some (.ref g_is_class))) (dl_is_class : K.lookup g_is_class = some ⟨oc_is_class, od_is_class, .func (PySem.W.fnOf "is_class" "is_class" (defArgs s_is_class) (defBody s_is_class) (defScope s_is_class) .none kV_is_class doc_is_class pm_is_class an_is_class cd_is_class ct_is_class), sl_is_class⟩) (dc_is_class : PySem.W.codeIn K cd_is_class "is_class" = true) (dk_is_class : PySem.W.keepIn K (.ref g_is_class) = true)
    {oc_is_generic : Value} {od_is_generic an_is_generic : Option Addr} {sl_is_generic : Array (Option Value)} {kV_is_generic doc_is_generic pm_is_generic cd_is_generic ct_is_generic : Value} (da_is_generic : PySem.W.nsIn K mainGlobals "is_generic" = some (some (.ref g_is_generic))) (dl_is_generic : K.lookup g_is_generic = some ⟨oc_is_generic, od_is_generic, .func (PySem.W.fnOf "is_generic" "is_generic" (defArgs s_is_generic) (defBody s_is_generic) (defScope s_is_generic) .none kV_is_generic doc_is_generic pm_is_generic an_is_generic cd_is_generic ct_is_generic), sl_is_generic⟩) (dc_is_generic : PySem.W.codeIn K cd_is_generic "is_generic" = true) (dk_is_generic : PySem.W.keepIn K (.ref g_is_generic) = true)
    {oc_is_method : Value} {od_is_method an_is_method : Option Addr} {sl_is_method : Array (Option Value)} {kV_is_method doc_is_method pm_is_method cd_is_method ct_is_method : Value} (da_is_method : PySem.W.nsIn K mainGlobals "is_method" = some (some (.ref g_is_method))) (dl_is_method : K.lookup g_is_method = some ⟨oc_is_method, od_is_method, .func (PySem.W.fnOf "is_method" "is_method" (defArgs s_is_method) (defBody s_is_method) (defScope s_is_method) .none kV_is_method doc_is_method pm_is_method an_is_method cd_is_method ct_is_method), sl_is_method⟩) (dc_is_method : PySem.W.codeIn K cd_is_method "is_method" = true) (dk_is_method : PySem.W.keepIn K (.ref g_is_method) = true)
    {oc_is_named_class : Value} {od_is_named_class an_is_named_class : Option Addr} {sl_is_named_class : Array (Option Value)} {kV_is_named_class doc_is_named_class pm_is_named_class cd_is_named_class ct_is_named_class : Value} (da_is_named_class : PySem.W.nsIn K mainGlobals "is_named_class" = some (some (.ref g_is_named_class))) (dl_is_named_class : K.lookup g_is_named_class = some ⟨oc_is_named_class, od_is_named_class, .func (PySem.W.fnOf "is_named_class" "is_named_class" (defArgs s_is_named_class) (defBody s_is_named_class) (defScope s_is_named_class) .none kV_is_named_class doc_is_named_class pm_is_named_class an_is_named_class cd_is_named_class ct_is_named_class), sl_is_named_class⟩) (dc_is_named_class : PySem.W.codeIn K cd_is_named_class "is_named_class" = true) (dk_is_named_class : PySem.W.keepIn K (.ref g_is_named_class) = true)
    {oc_form_parts : Value} {od_form_parts an_form_parts : Option Addr} {sl_form_parts : Array (Option Value)} {kV_form_parts doc_form_parts pm_form_parts cd_form_parts ct_form_parts : Value} (da_form_parts : PySem.W.nsIn K mainGlobals "form_parts" = some (some (.ref g_form_parts))) (dl_form_parts : K.lookup g_form_parts = some ⟨oc_form_parts, od_form_parts, .func (PySem.W.fnOf "form_parts" "form_parts" (defArgs s_form_parts) (defBody s_form_parts) (defScope s_form_parts) .none kV_form_parts doc_form_parts pm_form_parts an_form_parts cd_form_parts ct_form_parts), sl_form_parts⟩) (dc_form_parts : PySem.W.codeIn K cd_form_parts "form_parts" = true) (dk_form_parts : PySem.W.keepIn K (.ref g_form_parts) = true)
    {oc_is_member : Value} {od_is_member an_is_member : Option Addr} {sl_is_member : Array (Option Value)} {kV_is_member doc_is_member pm_is_member cd_is_member ct_is_member : Value} (da_is_member : PySem.W.nsIn K mainGlobals "is_member" = some (some (.ref g_is_member))) (dl_is_member : K.lookup g_is_member = some ⟨oc_is_member, od_is_member, .func (PySem.W.fnOf "is_member" "is_member" (defArgs s_is_member) (defBody s_is_member) (defScope s_is_member) .none kV_is_member doc_is_member pm_is_member an_is_member cd_is_member ct_is_member), sl_is_member⟩) (dc_is_member : PySem.W.codeIn K cd_is_member "is_member" = true) (dk_is_member : PySem.W.keepIn K (.ref g_is_member) = true)
    {oc_any_place : Value} {od_any_place an_any_place : Option Addr} {sl_any_place : Array (Option Value)} {kV_any_place doc_any_place pm_any_place cd_any_place ct_any_place : Value} (da_any_place : PySem.W.nsIn K mainGlobals "any_place" = some (some (.ref g_any_place))) (dl_any_place : K.lookup g_any_place = some ⟨oc_any_place, od_any_place, .func (PySem.W.fnOf "any_place" "any_place" (defArgs s_any_place) (defBody s_any_place) (defScope s_any_place) .none kV_any_place doc_any_place pm_any_place an_any_place cd_any_place ct_any_place), sl_any_place⟩) (dc_any_place : PySem.W.codeIn K cd_any_place "any_place" = true) (dk_any_place : PySem.W.keepIn K (.ref g_any_place) = true)
    {oc_own_place : Value} {od_own_place an_own_place : Option Addr} {sl_own_place : Array (Option Value)} {kV_own_place doc_own_place pm_own_place cd_own_place ct_own_place : Value} (da_own_place : PySem.W.nsIn K mainGlobals "own_place" = some (some (.ref g_own_place))) (dl_own_place : K.lookup g_own_place = some ⟨oc_own_place, od_own_place, .func (PySem.W.fnOf "own_place" "own_place" (defArgs s_own_place) (defBody s_own_place) (defScope s_own_place) .none kV_own_place doc_own_place pm_own_place an_own_place cd_own_place ct_own_place), sl_own_place⟩) (dc_own_place : PySem.W.codeIn K cd_own_place "own_place" = true) (dk_own_place : PySem.W.keepIn K (.ref g_own_place) = true)
    {oc_other_place : Value} {od_other_place an_other_place : Option Addr} {sl_other_place : Array (Option Value)} {kV_other_place doc_other_place pm_other_place cd_other_place ct_other_place : Value} (da_other_place : PySem.W.nsIn K mainGlobals "other_place" = some (some (.ref g_other_place))) (dl_other_place : K.lookup g_other_place = some ⟨oc_other_place, od_other_place, .func (PySem.W.fnOf "other_place" "other_place" (defArgs s_other_place) (defBody s_other_place) (defScope s_other_place) .none kV_other_place doc_other_place pm_other_place an_other_place cd_other_place ct_other_place), sl_other_place⟩) (dc_other_place : PySem.W.codeIn K cd_other_place "other_place" = true) (dk_other_place : PySem.W.keepIn K (.ref g_other_place) = true)
    {oc_first_fault : Value} {od_first_fault an_first_fault : Option Addr} {sl_first_fault : Array (Option Value)} {kV_first_fault doc_first_fault pm_first_fault cd_first_fault ct_first_fault : Value} (da_first_fault : PySem.W.nsIn K mainGlobals "first_fault" = some (some (.ref g_first_fault))) (dl_first_fault : K.lookup g_first_fault = some ⟨oc_first_fault, od_first_fault, .func (PySem.W.fnOf "first_fault" "first_fault" (defArgs s_first_fault) (defBody s_first_fault) (defScope s_first_fault) .none kV_first_fault doc_first_fault pm_first_fault an_first_fault cd_first_fault ct_first_fault), sl_first_fault⟩) (dc_first_fault : PySem.W.codeIn K cd_first_fault "first_fault" = true) (dk_first_fault : PySem.W.keepIn K (.ref g_first_fault) = true)
    {oc_are_different : Value} {od_are_different an_are_different : Option Addr} {sl_are_different : Array (Option Value)} {kV_are_different doc_are_different pm_are_different cd_are_different ct_are_different : Value} (da_are_different : PySem.W.nsIn K mainGlobals "are_different" = some (some (.ref g_are_different))) (dl_are_different : K.lookup g_are_different = some ⟨oc_are_different, od_are_different, .func (PySem.W.fnOf "are_different" "are_different" (defArgs s_are_different) (defBody s_are_different) (defScope s_are_different) .none kV_are_different doc_are_different pm_are_different an_are_different cd_are_different ct_are_different), sl_are_different⟩) (dc_are_different : PySem.W.codeIn K cd_are_different "are_different" = true) (dk_are_different : PySem.W.keepIn K (.ref g_are_different) = true)
    {oc_check_module : Value} {od_check_module an_check_module : Option Addr} {sl_check_module : Array (Option Value)} {kV_check_module doc_check_module pm_check_module cd_check_module ct_check_module : Value} (da_check_module : PySem.W.nsIn K mainGlobals "check_module" = some (some (.ref g_check_module))) (dl_check_module : K.lookup g_check_module = some ⟨oc_check_module, od_check_module, .func (PySem.W.fnOf "check_module" "check_module" (defArgs s_check_module) (defBody s_check_module) (defScope s_check_module) .none kV_check_module doc_check_module pm_check_module an_check_module cd_check_module ct_check_module), sl_check_module⟩) (dc_check_module : PySem.W.codeIn K cd_check_module "check_module" = true) (dk_check_module : PySem.W.keepIn K (.ref g_check_module) = true)
    {oc_viewed_part : Value} {od_viewed_part an_viewed_part : Option Addr} {sl_viewed_part : Array (Option Value)} {kV_viewed_part doc_viewed_part pm_viewed_part cd_viewed_part ct_viewed_part : Value} (da_viewed_part : PySem.W.nsIn K mainGlobals "viewed_part" = some (some (.ref g_viewed_part))) (dl_viewed_part : K.lookup g_viewed_part = some ⟨oc_viewed_part, od_viewed_part, .func (PySem.W.fnOf "viewed_part" "viewed_part" (defArgs s_viewed_part) (defBody s_viewed_part) (defScope s_viewed_part) .none kV_viewed_part doc_viewed_part pm_viewed_part an_viewed_part cd_viewed_part ct_viewed_part), sl_viewed_part⟩) (dc_viewed_part : PySem.W.codeIn K cd_viewed_part "viewed_part" = true) (dk_viewed_part : PySem.W.keepIn K (.ref g_viewed_part) = true)
    {oc_bad_call : Value} {od_bad_call an_bad_call : Option Addr} {sl_bad_call : Array (Option Value)} {kV_bad_call doc_bad_call pm_bad_call cd_bad_call ct_bad_call : Value} (da_bad_call : PySem.W.nsIn K mainGlobals "bad_call" = some (some (.ref g_bad_call))) (dl_bad_call : K.lookup g_bad_call = some ⟨oc_bad_call, od_bad_call, .func (PySem.W.fnOf "bad_call" "bad_call" (defArgs s_bad_call) (defBody s_bad_call) (defScope s_bad_call) .none kV_bad_call doc_bad_call pm_bad_call an_bad_call cd_bad_call ct_bad_call), sl_bad_call⟩) (dc_bad_call : PySem.W.codeIn K cd_bad_call "bad_call" = true) (dk_bad_call : PySem.W.keepIn K (.ref g_bad_call) = true)
    {oc_check_uses : Value} {od_check_uses an_check_uses : Option Addr} {sl_check_uses : Array (Option Value)} {kV_check_uses doc_check_uses pm_check_uses cd_check_uses ct_check_uses : Value} (da_check_uses : PySem.W.nsIn K mainGlobals "check_uses" = some (some (.ref g_check_uses))) (dl_check_uses : K.lookup g_check_uses = some ⟨oc_check_uses, od_check_uses, .func (PySem.W.fnOf "check_uses" "check_uses" (defArgs s_check_uses) (defBody s_check_uses) (defScope s_check_uses) .none kV_check_uses doc_check_uses pm_check_uses an_check_uses cd_check_uses ct_check_uses), sl_check_uses⟩) (dc_check_uses : PySem.W.codeIn K cd_check_uses "check_uses" = true) (dk_check_uses : PySem.W.keepIn K (.ref g_check_uses) = true)
    {oc_check_rules : Value} {od_check_rules an_check_rules : Option Addr} {sl_check_rules : Array (Option Value)} {kV_check_rules doc_check_rules pm_check_rules cd_check_rules ct_check_rules : Value} (da_check_rules : PySem.W.nsIn K mainGlobals "check_rules" = some (some (.ref g_check_rules))) (dl_check_rules : K.lookup g_check_rules = some ⟨oc_check_rules, od_check_rules, .func (PySem.W.fnOf "check_rules" "check_rules" (defArgs s_check_rules) (defBody s_check_rules) (defScope s_check_rules) .none kV_check_rules doc_check_rules pm_check_rules an_check_rules cd_check_rules ct_check_rules), sl_check_rules⟩) (dc_check_rules : PySem.W.codeIn K cd_check_rules "check_rules" = true) (dk_check_rules : PySem.W.keepIn K (.ref g_check_rules) = true)
    {oc__law_so : Value} {od__law_so an__law_so : Option Addr} {sl__law_so : Array (Option Value)} {kV__law_so doc__law_so pm__law_so cd__law_so ct__law_so : Value} (da__law_so : PySem.W.nsIn K mainGlobals "_law_so" = some (some (.ref g__law_so))) (dl__law_so : K.lookup g__law_so = some ⟨oc__law_so, od__law_so, .func (PySem.W.fnOf "_law_so" "_law_so" (defArgs sSo) (defBody sSo) (defScope sSo) .none kV__law_so doc__law_so pm__law_so an__law_so cd__law_so ct__law_so), sl__law_so⟩) (dc__law_so : PySem.W.codeIn K cd__law_so "_law_so" = true) (dk__law_so : PySem.W.keepIn K (.ref g__law_so) = true)
    {oc__law_numbers : Value} {od__law_numbers an__law_numbers : Option Addr} {sl__law_numbers : Array (Option Value)} {kV__law_numbers doc__law_numbers pm__law_numbers cd__law_numbers ct__law_numbers : Value} (da__law_numbers : PySem.W.nsIn K mainGlobals "_law_numbers" = some (some (.ref g__law_numbers))) (dl__law_numbers : K.lookup g__law_numbers = some ⟨oc__law_numbers, od__law_numbers, .func (PySem.W.fnOf "_law_numbers" "_law_numbers" (defArgs sNum) (defBody sNum) (defScope sNum) .none kV__law_numbers doc__law_numbers pm__law_numbers an__law_numbers cd__law_numbers ct__law_numbers), sl__law_numbers⟩) (dc__law_numbers : PySem.W.codeIn K cd__law_numbers "_law_numbers" = true) (dk__law_numbers : PySem.W.keepIn K (.ref g__law_numbers) = true)
    {oc__law_draw : Value} {od__law_draw an__law_draw : Option Addr} {sl__law_draw : Array (Option Value)} {kV__law_draw doc__law_draw pm__law_draw cd__law_draw ct__law_draw : Value} (da__law_draw : PySem.W.nsIn K mainGlobals "_law_draw" = some (some (.ref g__law_draw))) (dl__law_draw : K.lookup g__law_draw = some ⟨oc__law_draw, od__law_draw, .func (PySem.W.fnOf "_law_draw" "_law_draw" (defArgs sDraw) (defBody sDraw) (defScope sDraw) .none kV__law_draw doc__law_draw pm__law_draw an__law_draw cd__law_draw ct__law_draw), sl__law_draw⟩) (dc__law_draw : PySem.W.codeIn K cd__law_draw "_law_draw" = true) (dk__law_draw : PySem.W.keepIn K (.ref g__law_draw) = true)
    {oc__law_take : Value} {od__law_take an__law_take : Option Addr} {sl__law_take : Array (Option Value)} {kV__law_take doc__law_take pm__law_take cd__law_take ct__law_take : Value} (da__law_take : PySem.W.nsIn K mainGlobals "_law_take" = some (some (.ref g__law_take))) (dl__law_take : K.lookup g__law_take = some ⟨oc__law_take, od__law_take, .func (PySem.W.fnOf "_law_take" "_law_take" (defArgs sTake) (defBody sTake) (defScope sTake) .none kV__law_take doc__law_take pm__law_take an__law_take cd__law_take ct__law_take), sl__law_take⟩) (dc__law_take : PySem.W.codeIn K cd__law_take "_law_take" = true) (dk__law_take : PySem.W.keepIn K (.ref g__law_take) = true)
    {oc__law_letters : Value} {od__law_letters an__law_letters : Option Addr} {sl__law_letters : Array (Option Value)} {kV__law_letters doc__law_letters pm__law_letters cd__law_letters ct__law_letters : Value} (da__law_letters : PySem.W.nsIn K mainGlobals "_law_letters" = some (some (.ref g__law_letters))) (dl__law_letters : K.lookup g__law_letters = some ⟨oc__law_letters, od__law_letters, .func (PySem.W.fnOf "_law_letters" "_law_letters" (defArgs s__law_letters) (defBody s__law_letters) (defScope s__law_letters) .none kV__law_letters doc__law_letters pm__law_letters an__law_letters cd__law_letters ct__law_letters), sl__law_letters⟩) (dc__law_letters : PySem.W.codeIn K cd__law_letters "_law_letters" = true) (dk__law_letters : PySem.W.keepIn K (.ref g__law_letters) = true)
    {oc__law_name : Value} {od__law_name an__law_name : Option Addr} {sl__law_name : Array (Option Value)} {kV__law_name doc__law_name pm__law_name cd__law_name ct__law_name : Value} (da__law_name : PySem.W.nsIn K mainGlobals "_law_name" = some (some (.ref g__law_name))) (dl__law_name : K.lookup g__law_name = some ⟨oc__law_name, od__law_name, .func (PySem.W.fnOf "_law_name" "_law_name" (defArgs s__law_name) (defBody s__law_name) (defScope s__law_name) .none kV__law_name doc__law_name pm__law_name an__law_name cd__law_name ct__law_name), sl__law_name⟩) (dc__law_name : PySem.W.codeIn K cd__law_name "_law_name" = true) (dk__law_name : PySem.W.keepIn K (.ref g__law_name) = true)
    {oc__law_reserved : Value} {od__law_reserved an__law_reserved : Option Addr} {sl__law_reserved : Array (Option Value)} {kV__law_reserved doc__law_reserved pm__law_reserved cd__law_reserved ct__law_reserved : Value} (da__law_reserved : PySem.W.nsIn K mainGlobals "_law_reserved" = some (some (.ref g__law_reserved))) (dl__law_reserved : K.lookup g__law_reserved = some ⟨oc__law_reserved, od__law_reserved, .func (PySem.W.fnOf "_law_reserved" "_law_reserved" (defArgs s__law_reserved) (defBody s__law_reserved) (defScope s__law_reserved) .none kV__law_reserved doc__law_reserved pm__law_reserved an__law_reserved cd__law_reserved ct__law_reserved), sl__law_reserved⟩) (dc__law_reserved : PySem.W.codeIn K cd__law_reserved "_law_reserved" = true) (dk__law_reserved : PySem.W.keepIn K (.ref g__law_reserved) = true)
    {oc__law_load_told : Value} {od__law_load_told an__law_load_told : Option Addr} {sl__law_load_told : Array (Option Value)} {kV__law_load_told doc__law_load_told pm__law_load_told cd__law_load_told ct__law_load_told : Value} (da__law_load_told : PySem.W.nsIn K mainGlobals "_law_load_told" = some (some (.ref g__law_load_told))) (dl__law_load_told : K.lookup g__law_load_told = some ⟨oc__law_load_told, od__law_load_told, .func (PySem.W.fnOf "_law_load_told" "_law_load_told" (defArgs s__law_load_told) (defBody s__law_load_told) (defScope s__law_load_told) .none kV__law_load_told doc__law_load_told pm__law_load_told an__law_load_told cd__law_load_told ct__law_load_told), sl__law_load_told⟩) (dc__law_load_told : PySem.W.codeIn K cd__law_load_told "_law_load_told" = true) (dk__law_load_told : PySem.W.keepIn K (.ref g__law_load_told) = true)
    {oc_law : Value} {od_law an_law : Option Addr} {sl_law : Array (Option Value)} {kV_law doc_law pm_law cd_law ct_law : Value} (da_law : PySem.W.nsIn K mainGlobals "law" = some (some (.ref g_law))) (dl_law : K.lookup g_law = some ⟨oc_law, od_law, .func (PySem.W.fnOf "law" "law" (defArgs s_law) (defBody s_law) (defScope s_law) .none kV_law doc_law pm_law an_law cd_law ct_law), sl_law⟩) (dc_law : PySem.W.codeIn K cd_law "law" = true) (dk_law : PySem.W.keepIn K (.ref g_law) = true)
    {t_BASE : Tok} (ca_BASE : PySem.W.nsIn K mainGlobals "BASE" = some (some (.str "base" t_BASE)))
    (ca_BASE_CLASSES : PySem.W.nsIn K mainGlobals "BASE_CLASSES" = some (some (.ref a_BASE_CLASSES)))
    (ca_FORMS : PySem.W.nsIn K mainGlobals "FORMS" = some (some (.ref a_FORMS)))
    {t_LARGEST : Tok} (ca_LARGEST : PySem.W.nsIn K mainGlobals "LARGEST" = some (some (.int 65535 t_LARGEST)))
    {t_LOWER : Tok} (ca_LOWER : PySem.W.nsIn K mainGlobals "LOWER" = some (some (.str "abcdefghijklmnopqrstuvwxyz" t_LOWER)))
    {t_MOST_CLASSES : Tok} (ca_MOST_CLASSES : PySem.W.nsIn K mainGlobals "MOST_CLASSES" = some (some (.int 6 t_MOST_CLASSES)))
    {t_MOST_EXPRESSIONS : Tok} (ca_MOST_EXPRESSIONS : PySem.W.nsIn K mainGlobals "MOST_EXPRESSIONS" = some (some (.int 60 t_MOST_EXPRESSIONS)))
    {t_MOST_FIELDS : Tok} (ca_MOST_FIELDS : PySem.W.nsIn K mainGlobals "MOST_FIELDS" = some (some (.int 3 t_MOST_FIELDS)))
    {t_MOST_GENERICS : Tok} (ca_MOST_GENERICS : PySem.W.nsIn K mainGlobals "MOST_GENERICS" = some (some (.int 3 t_MOST_GENERICS)))
    {t_MOST_LETTERS : Tok} (ca_MOST_LETTERS : PySem.W.nsIn K mainGlobals "MOST_LETTERS" = some (some (.int 12 t_MOST_LETTERS)))
    {t_MOST_LEVELS : Tok} (ca_MOST_LEVELS : PySem.W.nsIn K mainGlobals "MOST_LEVELS" = some (some (.int 7 t_MOST_LEVELS)))
    {t_MOST_METHODS : Tok} (ca_MOST_METHODS : PySem.W.nsIn K mainGlobals "MOST_METHODS" = some (some (.int 8 t_MOST_METHODS)))
    {t_MOST_MODULES : Tok} (ca_MOST_MODULES : PySem.W.nsIn K mainGlobals "MOST_MODULES" = some (some (.int 12 t_MOST_MODULES)))
    {t_MOST_PARENTS : Tok} (ca_MOST_PARENTS : PySem.W.nsIn K mainGlobals "MOST_PARENTS" = some (some (.int 12 t_MOST_PARENTS)))
    {t_MOST_TAKES : Tok} (ca_MOST_TAKES : PySem.W.nsIn K mainGlobals "MOST_TAKES" = some (some (.int 3 t_MOST_TAKES)))
    {t_MOST_USES : Tok} (ca_MOST_USES : PySem.W.nsIn K mainGlobals "MOST_USES" = some (some (.int 4 t_MOST_USES)))
    {t_MOST_VALUES : Tok} (ca_MOST_VALUES : PySem.W.nsIn K mainGlobals "MOST_VALUES" = some (some (.int 12 t_MOST_VALUES)))
    {t_MOST_VIEWED : Tok} (ca_MOST_VIEWED : PySem.W.nsIn K mainGlobals "MOST_VIEWED" = some (some (.int 6 t_MOST_VIEWED)))
    (ca_RESERVED : PySem.W.nsIn K mainGlobals "RESERVED" = some (some (.ref a_RESERVED)))
    (ca_ROWS : PySem.W.nsIn K mainGlobals "ROWS" = some (some (.ref a_ROWS)))
    {t_UPPER : Tok} (ca_UPPER : PySem.W.nsIn K mainGlobals "UPPER" = some (some (.str "ABCDEFGHIJKLMNOPQRSTUVWXYZ" t_UPPER)))
    (z_all : PySem.W.nsIn K mainGlobals "all" = some none)
    (z_bool : PySem.W.nsIn K mainGlobals "bool" = some none)
    (z_enumerate : PySem.W.nsIn K mainGlobals "enumerate" = some none)
    (z_int : PySem.W.nsIn K mainGlobals "int" = some none)
    (z_isinstance : PySem.W.nsIn K mainGlobals "isinstance" = some none)
    (z_len : PySem.W.nsIn K mainGlobals "len" = some none)
    (z_list : PySem.W.nsIn K mainGlobals "list" = some none)
    (z_range : PySem.W.nsIn K mainGlobals "range" = some none)
    (z_set : PySem.W.nsIn K mainGlobals "set" = some none)
    (z_sorted : PySem.W.nsIn K mainGlobals "sorted" = some none)
    (z_str : PySem.W.nsIn K mainGlobals "str" = some none)
    (z_tuple : PySem.W.nsIn K mainGlobals "tuple" = some none)
    (z_zip : PySem.W.nsIn K mainGlobals "zip" = some none)
    (b_RESERVED : tupStr K a_RESERVED = some ((reserved).map some))
    (b_ROWS : tupStr K a_ROWS = some (((["values", "arguments"] : List Str)).map some))
    (b_FORMS : formsB K a_FORMS = true) (d_FORMS : He.dicW K a_FORMS = some (He.keysIn w.params (formRows.map (·.1))))
    (aC_ClassEntry : PySem.W.nsIn K mainGlobals "ClassEntry" = some (some (.ref CE)))
    {ocx_ClassEntry_init : Value} {odx_ClassEntry_init anx_ClassEntry_init : Option Addr} {slx_ClassEntry_init : Array (Option Value)} {kVx_ClassEntry_init docx_ClassEntry_init pmx_ClassEntry_init cdx_ClassEntry_init ctx_ClassEntry_init : Value} (ma_ClassEntry_init : PySem.W.findIn K (.ref CE) "__init__" = some (some (.ref f_ClassEntry_init))) (mi_ClassEntry_init : PySem.W.isFn K (.ref f_ClassEntry_init) = true) (ml_ClassEntry_init : K.lookup f_ClassEntry_init = some ⟨ocx_ClassEntry_init, odx_ClassEntry_init, .func (PySem.W.fnOf "__init__" "ClassEntry.__init__" (defArgs s_ClassEntry_init) (defBody s_ClassEntry_init) (defScope s_ClassEntry_init) .none kVx_ClassEntry_init docx_ClassEntry_init pmx_ClassEntry_init anx_ClassEntry_init cdx_ClassEntry_init ctx_ClassEntry_init), slx_ClassEntry_init⟩) (mc_ClassEntry_init : PySem.W.codeIn K cdx_ClassEntry_init "ClassEntry.__init__" = true) (mk_ClassEntry_init : PySem.W.keepIn K (.ref f_ClassEntry_init) = true)
    (pg_ClassEntry : PySem.W.plainGet K CE Str.empty = true) (hd_ClassEntry : PySem.W.hasDictIn K CE = true) (po_ClassEntry : PySem.W.plainOver K CE = true) (sa_ClassEntry : PySem.W.findIn K (.ref CE) "__setattr__" = some (some (.builtin "object.__setattr__"))) (mks_ClassEntry : PySem.W.makesIn K CE = true) (kc_ClassEntry : PySem.W.keepIn K (.ref CE) = true)
    (nf_ClassEntry_name : PySem.W.findIn K (.ref CE) "name" = some none)
    (nf_ClassEntry_module : PySem.W.findIn K (.ref CE) "module" = some none)
    (nf_ClassEntry_is_open : PySem.W.findIn K (.ref CE) "is_open" = some none)
    (nf_ClassEntry_is_abstract : PySem.W.findIn K (.ref CE) "is_abstract" = some none)
    (nf_ClassEntry_parents : PySem.W.findIn K (.ref CE) "parents" = some none)
    (nf_ClassEntry_fields : PySem.W.findIn K (.ref CE) "fields" = some none)
    (aC_Atlas : PySem.W.nsIn K mainGlobals "Atlas" = some (some (.ref CA)))
    {ocx_Atlas_init : Value} {odx_Atlas_init anx_Atlas_init : Option Addr} {slx_Atlas_init : Array (Option Value)} {kVx_Atlas_init docx_Atlas_init pmx_Atlas_init ctx_Atlas_init : Value} (ma_Atlas_init : PySem.W.findIn K (.ref CA) "__init__" = some (some (.ref f_Atlas_init))) (mi_Atlas_init : PySem.W.isFn K (.ref f_Atlas_init) = true) (ml_Atlas_init : K.lookup f_Atlas_init = some ⟨ocx_Atlas_init, odx_Atlas_init, .func (PySem.W.fnOf "__init__" "Atlas.__init__" (defArgs s_Atlas_init) (defBody s_Atlas_init) (defScope s_Atlas_init) .none kVx_Atlas_init docx_Atlas_init pmx_Atlas_init anx_Atlas_init (.ref cA) ctx_Atlas_init), slx_Atlas_init⟩) (mc_Atlas_init : PySem.W.codeIn K (.ref cA) "Atlas.__init__" = true) (mk_Atlas_init : PySem.W.keepIn K (.ref f_Atlas_init) = true)
    {ocx_Atlas_enter_classes : Value} {odx_Atlas_enter_classes anx_Atlas_enter_classes : Option Addr} {slx_Atlas_enter_classes : Array (Option Value)} {kVx_Atlas_enter_classes docx_Atlas_enter_classes pmx_Atlas_enter_classes cdx_Atlas_enter_classes ctx_Atlas_enter_classes : Value} (ma_Atlas_enter_classes : PySem.W.findIn K (.ref CA) "enter_classes" = some (some (.ref f_Atlas_enter_classes))) (mi_Atlas_enter_classes : PySem.W.isFn K (.ref f_Atlas_enter_classes) = true) (ml_Atlas_enter_classes : K.lookup f_Atlas_enter_classes = some ⟨ocx_Atlas_enter_classes, odx_Atlas_enter_classes, .func (PySem.W.fnOf "enter_classes" "Atlas.enter_classes" (defArgs s_Atlas_enter_classes) (defBody s_Atlas_enter_classes) (defScope s_Atlas_enter_classes) .none kVx_Atlas_enter_classes docx_Atlas_enter_classes pmx_Atlas_enter_classes anx_Atlas_enter_classes cdx_Atlas_enter_classes ctx_Atlas_enter_classes), slx_Atlas_enter_classes⟩) (mc_Atlas_enter_classes : PySem.W.codeIn K cdx_Atlas_enter_classes "Atlas.enter_classes" = true) (mk_Atlas_enter_classes : PySem.W.keepIn K (.ref f_Atlas_enter_classes) = true)
    {ocx_Atlas_enter_generics : Value} {odx_Atlas_enter_generics anx_Atlas_enter_generics : Option Addr} {slx_Atlas_enter_generics : Array (Option Value)} {kVx_Atlas_enter_generics docx_Atlas_enter_generics pmx_Atlas_enter_generics cdx_Atlas_enter_generics ctx_Atlas_enter_generics : Value} (ma_Atlas_enter_generics : PySem.W.findIn K (.ref CA) "enter_generics" = some (some (.ref f_Atlas_enter_generics))) (mi_Atlas_enter_generics : PySem.W.isFn K (.ref f_Atlas_enter_generics) = true) (ml_Atlas_enter_generics : K.lookup f_Atlas_enter_generics = some ⟨ocx_Atlas_enter_generics, odx_Atlas_enter_generics, .func (PySem.W.fnOf "enter_generics" "Atlas.enter_generics" (defArgs s_Atlas_enter_generics) (defBody s_Atlas_enter_generics) (defScope s_Atlas_enter_generics) .none kVx_Atlas_enter_generics docx_Atlas_enter_generics pmx_Atlas_enter_generics anx_Atlas_enter_generics cdx_Atlas_enter_generics ctx_Atlas_enter_generics), slx_Atlas_enter_generics⟩) (mc_Atlas_enter_generics : PySem.W.codeIn K cdx_Atlas_enter_generics "Atlas.enter_generics" = true) (mk_Atlas_enter_generics : PySem.W.keepIn K (.ref f_Atlas_enter_generics) = true)
    {ocx_Atlas_enter_methods : Value} {odx_Atlas_enter_methods anx_Atlas_enter_methods : Option Addr} {slx_Atlas_enter_methods : Array (Option Value)} {kVx_Atlas_enter_methods docx_Atlas_enter_methods pmx_Atlas_enter_methods cdx_Atlas_enter_methods ctx_Atlas_enter_methods : Value} (ma_Atlas_enter_methods : PySem.W.findIn K (.ref CA) "enter_methods" = some (some (.ref f_Atlas_enter_methods))) (mi_Atlas_enter_methods : PySem.W.isFn K (.ref f_Atlas_enter_methods) = true) (ml_Atlas_enter_methods : K.lookup f_Atlas_enter_methods = some ⟨ocx_Atlas_enter_methods, odx_Atlas_enter_methods, .func (PySem.W.fnOf "enter_methods" "Atlas.enter_methods" (defArgs s_Atlas_enter_methods) (defBody s_Atlas_enter_methods) (defScope s_Atlas_enter_methods) .none kVx_Atlas_enter_methods docx_Atlas_enter_methods pmx_Atlas_enter_methods anx_Atlas_enter_methods cdx_Atlas_enter_methods ctx_Atlas_enter_methods), slx_Atlas_enter_methods⟩) (mc_Atlas_enter_methods : PySem.W.codeIn K cdx_Atlas_enter_methods "Atlas.enter_methods" = true) (mk_Atlas_enter_methods : PySem.W.keepIn K (.ref f_Atlas_enter_methods) = true)
    {ocx_Atlas_view : Value} {odx_Atlas_view anx_Atlas_view : Option Addr} {slx_Atlas_view : Array (Option Value)} {kVx_Atlas_view docx_Atlas_view pmx_Atlas_view cdx_Atlas_view ctx_Atlas_view : Value} (ma_Atlas_view : PySem.W.findIn K (.ref CA) "view" = some (some (.ref f_Atlas_view))) (mi_Atlas_view : PySem.W.isFn K (.ref f_Atlas_view) = true) (ml_Atlas_view : K.lookup f_Atlas_view = some ⟨ocx_Atlas_view, odx_Atlas_view, .func (PySem.W.fnOf "view" "Atlas.view" (defArgs s_Atlas_view) (defBody s_Atlas_view) (defScope s_Atlas_view) .none kVx_Atlas_view docx_Atlas_view pmx_Atlas_view anx_Atlas_view cdx_Atlas_view ctx_Atlas_view), slx_Atlas_view⟩) (mc_Atlas_view : PySem.W.codeIn K cdx_Atlas_view "Atlas.view" = true) (mk_Atlas_view : PySem.W.keepIn K (.ref f_Atlas_view) = true)
    {ocx_Atlas_part : Value} {odx_Atlas_part anx_Atlas_part : Option Addr} {slx_Atlas_part : Array (Option Value)} {kVx_Atlas_part docx_Atlas_part pmx_Atlas_part cdx_Atlas_part ctx_Atlas_part : Value} (ma_Atlas_part : PySem.W.findIn K (.ref CA) "part" = some (some (.ref f_Atlas_part))) (mi_Atlas_part : PySem.W.isFn K (.ref f_Atlas_part) = true) (ml_Atlas_part : K.lookup f_Atlas_part = some ⟨ocx_Atlas_part, odx_Atlas_part, .func (PySem.W.fnOf "part" "Atlas.part" (defArgs s_Atlas_part) (defBody s_Atlas_part) (defScope s_Atlas_part) .none kVx_Atlas_part docx_Atlas_part pmx_Atlas_part anx_Atlas_part cdx_Atlas_part ctx_Atlas_part), slx_Atlas_part⟩) (mc_Atlas_part : PySem.W.codeIn K cdx_Atlas_part "Atlas.part" = true) (mk_Atlas_part : PySem.W.keepIn K (.ref f_Atlas_part) = true)
    (pg_Atlas : PySem.W.plainGet K CA Str.empty = true) (hd_Atlas : PySem.W.hasDictIn K CA = true) (po_Atlas : PySem.W.plainOver K CA = true) (sa_Atlas : PySem.W.findIn K (.ref CA) "__setattr__" = some (some (.builtin "object.__setattr__"))) (mks_Atlas : PySem.W.makesIn K CA = true) (kc_Atlas : PySem.W.keepIn K (.ref CA) = true)
    (nf_Atlas_modules : PySem.W.findIn K (.ref CA) "modules" = some none)
    (nf_Atlas_classes : PySem.W.findIn K (.ref CA) "classes" = some none)
    (nf_Atlas_generics : PySem.W.findIn K (.ref CA) "generics" = some none)
    (nf_Atlas_methods : PySem.W.findIn K (.ref CA) "methods" = some none)
    (nf_Atlas__uses : PySem.W.findIn K (.ref CA) "_uses" = some none)
    (nf_Atlas__parents : PySem.W.findIn K (.ref CA) "_parents" = some none)
    (nf_Atlas__aboves : PySem.W.findIn K (.ref CA) "_aboves" = some none)
    (aC_Place : PySem.W.nsIn K mainGlobals "Place" = some (some (.ref CP)))
    {ocx_Place_init : Value} {odx_Place_init anx_Place_init : Option Addr} {slx_Place_init : Array (Option Value)} {kVx_Place_init docx_Place_init pmx_Place_init cdx_Place_init ctx_Place_init : Value} (ma_Place_init : PySem.W.findIn K (.ref CP) "__init__" = some (some (.ref f_Place_init))) (mi_Place_init : PySem.W.isFn K (.ref f_Place_init) = true) (ml_Place_init : K.lookup f_Place_init = some ⟨ocx_Place_init, odx_Place_init, .func (PySem.W.fnOf "__init__" "Place.__init__" (defArgs s_Place_init) (defBody s_Place_init) (defScope s_Place_init) .none kVx_Place_init docx_Place_init pmx_Place_init anx_Place_init cdx_Place_init ctx_Place_init), slx_Place_init⟩) (mc_Place_init : PySem.W.codeIn K cdx_Place_init "Place.__init__" = true) (mk_Place_init : PySem.W.keepIn K (.ref f_Place_init) = true)
    (pg_Place : PySem.W.plainGet K CP Str.empty = true) (hd_Place : PySem.W.hasDictIn K CP = true) (po_Place : PySem.W.plainOver K CP = true) (sa_Place : PySem.W.findIn K (.ref CP) "__setattr__" = some (some (.builtin "object.__setattr__"))) (mks_Place : PySem.W.makesIn K CP = true) (kc_Place : PySem.W.keepIn K (.ref CP) = true)
    (nf_Place_concrete : PySem.W.findIn K (.ref CP) "concrete" = some none)
    (nf_Place_extended : PySem.W.findIn K (.ref CP) "extended" = some none)
    (aC_Scope : PySem.W.nsIn K mainGlobals "Scope" = some (some (.ref CS)))
    {ocx_Scope_init : Value} {odx_Scope_init anx_Scope_init : Option Addr} {slx_Scope_init : Array (Option Value)} {kVx_Scope_init docx_Scope_init pmx_Scope_init cdx_Scope_init ctx_Scope_init : Value} (ma_Scope_init : PySem.W.findIn K (.ref CS) "__init__" = some (some (.ref f_Scope_init))) (mi_Scope_init : PySem.W.isFn K (.ref f_Scope_init) = true) (ml_Scope_init : K.lookup f_Scope_init = some ⟨ocx_Scope_init, odx_Scope_init, .func (PySem.W.fnOf "__init__" "Scope.__init__" (defArgs s_Scope_init) (defBody s_Scope_init) (defScope s_Scope_init) .none kVx_Scope_init docx_Scope_init pmx_Scope_init anx_Scope_init cdx_Scope_init ctx_Scope_init), slx_Scope_init⟩) (mc_Scope_init : PySem.W.codeIn K cdx_Scope_init "Scope.__init__" = true) (mk_Scope_init : PySem.W.keepIn K (.ref f_Scope_init) = true)
    (pg_Scope : PySem.W.plainGet K CS Str.empty = true) (hd_Scope : PySem.W.hasDictIn K CS = true) (po_Scope : PySem.W.plainOver K CS = true) (sa_Scope : PySem.W.findIn K (.ref CS) "__setattr__" = some (some (.builtin "object.__setattr__"))) (mks_Scope : PySem.W.makesIn K CS = true) (kc_Scope : PySem.W.keepIn K (.ref CS) = true)
    (nf_Scope_atlas : PySem.W.findIn K (.ref CS) "atlas" = some none)
    (nf_Scope_known : PySem.W.findIn K (.ref CS) "known" = some none)
    (nf_Scope_gives : PySem.W.findIn K (.ref CS) "gives" = some none)
    (aC_Link : PySem.W.nsIn K mainGlobals "Link" = some (some (.ref CL)))
    {ocx_Link_init : Value} {odx_Link_init anx_Link_init : Option Addr} {slx_Link_init : Array (Option Value)} {kVx_Link_init docx_Link_init pmx_Link_init cdx_Link_init ctx_Link_init : Value} (ma_Link_init : PySem.W.findIn K (.ref CL) "__init__" = some (some (.ref f_Link_init))) (mi_Link_init : PySem.W.isFn K (.ref f_Link_init) = true) (ml_Link_init : K.lookup f_Link_init = some ⟨ocx_Link_init, odx_Link_init, .func (PySem.W.fnOf "__init__" "Link.__init__" (defArgs s_Link_init) (defBody s_Link_init) (defScope s_Link_init) .none kVx_Link_init docx_Link_init pmx_Link_init anx_Link_init cdx_Link_init ctx_Link_init), slx_Link_init⟩) (mc_Link_init : PySem.W.codeIn K cdx_Link_init "Link.__init__" = true) (mk_Link_init : PySem.W.keepIn K (.ref f_Link_init) = true)
    {ocx_Link_load : Value} {odx_Link_load anx_Link_load : Option Addr} {slx_Link_load : Array (Option Value)} {kVx_Link_load docx_Link_load pmx_Link_load cdx_Link_load ctx_Link_load : Value} (ma_Link_load : PySem.W.findIn K (.ref CL) "load" = some (some (.ref f_Link_load))) (mi_Link_load : PySem.W.isFn K (.ref f_Link_load) = true) (ml_Link_load : K.lookup f_Link_load = some ⟨ocx_Link_load, odx_Link_load, .func (PySem.W.fnOf "load" "Link.load" (defArgs s_Link_load) (defBody s_Link_load) (defScope s_Link_load) .none kVx_Link_load docx_Link_load pmx_Link_load anx_Link_load cdx_Link_load ctx_Link_load), slx_Link_load⟩) (mc_Link_load : PySem.W.codeIn K cdx_Link_load "Link.load" = true) (mk_Link_load : PySem.W.keepIn K (.ref f_Link_load) = true)
    {ocx_Link_unload : Value} {odx_Link_unload anx_Link_unload : Option Addr} {slx_Link_unload : Array (Option Value)} {kVx_Link_unload docx_Link_unload pmx_Link_unload cdx_Link_unload ctx_Link_unload : Value} (ma_Link_unload : PySem.W.findIn K (.ref CL) "unload" = some (some (.ref f_Link_unload))) (mi_Link_unload : PySem.W.isFn K (.ref f_Link_unload) = true) (ml_Link_unload : K.lookup f_Link_unload = some ⟨ocx_Link_unload, odx_Link_unload, .func (PySem.W.fnOf "unload" "Link.unload" (defArgs s_Link_unload) (defBody s_Link_unload) (defScope s_Link_unload) .none kVx_Link_unload docx_Link_unload pmx_Link_unload anx_Link_unload cdx_Link_unload ctx_Link_unload), slx_Link_unload⟩) (mc_Link_unload : PySem.W.codeIn K cdx_Link_unload "Link.unload" = true) (mk_Link_unload : PySem.W.keepIn K (.ref f_Link_unload) = true)
    {ocx_Link_names : Value} {odx_Link_names anx_Link_names : Option Addr} {slx_Link_names : Array (Option Value)} {kVx_Link_names docx_Link_names pmx_Link_names cdx_Link_names ctx_Link_names : Value} (ma_Link_names : PySem.W.findIn K (.ref CL) "names" = some (some (.ref f_Link_names))) (mi_Link_names : PySem.W.isFn K (.ref f_Link_names) = true) (ml_Link_names : K.lookup f_Link_names = some ⟨ocx_Link_names, odx_Link_names, .func (PySem.W.fnOf "names" "Link.names" (defArgs s_Link_names) (defBody s_Link_names) (defScope s_Link_names) .none kVx_Link_names docx_Link_names pmx_Link_names anx_Link_names cdx_Link_names ctx_Link_names), slx_Link_names⟩) (mc_Link_names : PySem.W.codeIn K cdx_Link_names "Link.names" = true) (mk_Link_names : PySem.W.keepIn K (.ref f_Link_names) = true)
    {ocx_Link_len : Value} {odx_Link_len anx_Link_len : Option Addr} {slx_Link_len : Array (Option Value)} {kVx_Link_len docx_Link_len pmx_Link_len cdx_Link_len ctx_Link_len : Value} (ma_Link_len : PySem.W.findIn K (.ref CL) "__len__" = some (some (.ref f_Link_len))) (mi_Link_len : PySem.W.isFn K (.ref f_Link_len) = true) (ml_Link_len : K.lookup f_Link_len = some ⟨ocx_Link_len, odx_Link_len, .func (PySem.W.fnOf "__len__" "Link.__len__" (defArgs s_Link_len) (defBody s_Link_len) (defScope s_Link_len) .none kVx_Link_len docx_Link_len pmx_Link_len anx_Link_len cdx_Link_len ctx_Link_len), slx_Link_len⟩) (mc_Link_len : PySem.W.codeIn K cdx_Link_len "Link.__len__" = true) (mk_Link_len : PySem.W.keepIn K (.ref f_Link_len) = true)
    (pg_Link : PySem.W.plainGet K CL Str.empty = true) (hd_Link : PySem.W.hasDictIn K CL = true) (po_Link : PySem.W.plainOver K CL = true) (sa_Link : PySem.W.findIn K (.ref CL) "__setattr__" = some (some (.builtin "object.__setattr__"))) (mks_Link : PySem.W.makesIn K CL = true) (kc_Link : PySem.W.keepIn K (.ref CL) = true)
    (nf_Link__modules : PySem.W.findIn K (.ref CL) "_modules" = some none)
    (nf_Link__atlas : PySem.W.findIn K (.ref CL) "_atlas" = some none)
    (q_nPA : decide (CP = CA) = false)
    (q_nPE : decide (CP = CE) = false)
    (q_nLA : decide (CL = CA) = false)
    (q_nLE : decide (CL = CE) = false)
    (nPT : K.lookup PT = none)
    (hCo : PySem.W.codeHdIn K cA PT = true)
    (bBC : baseB K a_BASE_CLASSES = true)
    (aq_class_fault : PySem.W.nsIn K mainGlobals "class_fault" = some (some (.ref f_class_fault)))
    (aq_generic_fault : PySem.W.nsIn K mainGlobals "generic_fault" = some (some (.ref f_generic_fault)))
    (aq_method_fault : PySem.W.nsIn K mainGlobals "method_fault" = some (some (.ref f_method_fault)))
    {nmMU qMU : Str} {NMU : Addr} {bsMU : List Value} {snMU : List Str} {subMU : List Value} {abMU : Bool} {colMU : Option Bool} {ddMU : Option Addr} {kaMU kbMU kcMU kdMU keMU : Option Value} {oceMU : Value} {odeMU aneMU : Option Addr} {sleMU : Array (Option Value)} {kVeMU doceMU pmeMU cdeMU cteMU : Value} (aMU : PySem.W.nsIn K mainGlobals "MissingUse" = some (some (.ref CMU))) (lMU : K.lookup CMU = some (PySem.excClassObj nmMU qMU CMU NMU bsMU (.ref C0 :: PySem.CwEx.tl3) true snMU subMU abMU colMU ddMU kaMU kbMU kcMU kdMU keMU "Exception.__new__")) (iMU : PySem.W.findIn K (.ref CMU) "__init__" = some (some (.ref fMU))) (lfMU : K.lookup fMU = some ⟨oceMU, odeMU, .func (PySem.W.fnOf "__init__" "MissingUse.__init__" (defArgs s_MissingUse_init) (defBody s_MissingUse_init) (defScope s_MissingUse_init) .none kVeMU doceMU pmeMU aneMU cdeMU cteMU), sleMU⟩) (cfMU : PySem.W.codeIn K cdeMU "MissingUse.__init__" = true)
    (bMU : clB K CMU fMU ["name"] = true)
    {nmUL qUL : Str} {NUL : Addr} {bsUL : List Value} {snUL : List Str} {subUL : List Value} {abUL : Bool} {colUL : Option Bool} {ddUL : Option Addr} {kaUL kbUL kcUL kdUL keUL : Option Value} {oceUL : Value} {odeUL aneUL : Option Addr} {sleUL : Array (Option Value)} {kVeUL doceUL pmeUL cdeUL cteUL : Value} (aUL : PySem.W.nsIn K mainGlobals "Unlawful" = some (some (.ref CUL))) (lUL : K.lookup CUL = some (PySem.excClassObj nmUL qUL CUL NUL bsUL (.ref C0 :: PySem.CwEx.tl3) true snUL subUL abUL colUL ddUL kaUL kbUL kcUL kdUL keUL "Exception.__new__")) (iUL : PySem.W.findIn K (.ref CUL) "__init__" = some (some (.ref fUL))) (lfUL : K.lookup fUL = some ⟨oceUL, odeUL, .func (PySem.W.fnOf "__init__" "Unlawful.__init__" (defArgs s_Unlawful_init) (defBody s_Unlawful_init) (defScope s_Unlawful_init) .none kVeUL doceUL pmeUL aneUL cdeUL cteUL), sleUL⟩) (cfUL : PySem.W.codeIn K cdeUL "Unlawful.__init__" = true)
    (bUL : clB K CUL fUL ["rule", "at"] = true)
    (sg : PySem.W.specialIn K (.builtin "object.__class__") "__get__" = some (some (.builtin "getset_descriptor.__get__"))) (tk : PySem.W.takesIn K (.builtin "object.__class__") = some true) (aCE0 : PySem.W.nsIn K mainGlobals "CallError" = some (some (.ref C0)))
    (aBV : PySem.W.nsIn K mainGlobals "BadValue" = some (some (.ref CBV)))
    (aTN : PySem.W.nsIn K mainGlobals "TakenName" = some (some (.ref CTN)))
    (aNC : PySem.W.nsIn K mainGlobals "NotClosed" = some (some (.ref CNC)))
    (k_MU_BV : exB K CMU CBV false = true)
    (k_MU_TN : exB K CMU CTN false = true)
    (k_MU_MU : exB K CMU CMU true = true)
    (k_UL_BV : exB K CUL CBV false = true)
    (k_UL_TN : exB K CUL CTN false = true)
    (k_UL_MU : exB K CUL CMU false = true)
    (k_UL_UL : exB K CUL CUL true = true)
    (ne_is_named_class_is_class_name : decide (g_is_named_class = g_is_class_name) = false)
    (ne_is_class_is_name : decide (g_is_class = g_is_name) = false)
    (ne_is_generic_is_name : decide (g_is_generic = g_is_name) = false)
    (ne_is_generic_is_class : decide (g_is_generic = g_is_class) = false)
    (ne_is_method_is_name : decide (g_is_method = g_is_name) = false)
    (ne_is_method_is_class : decide (g_is_method = g_is_class) = false)
    (ne_is_method_is_generic : decide (g_is_method = g_is_generic) = false) :
    LawAtS l w K CX0 20 63 "script" mg fa h := by
  have e := hfa.symm.trans (PySem.W.mg_of X G da_law)
  cases e
  have F_reached := fun_mk (st := s_reached) dl_reached dc_reached dk_reached
  have h_reached : Hd K mg "reached" s_reached ["starts", "steps"] _ _ := ⟨F_reached, F_reached.binds fun _ _ _ _ _ _ us hl => match us, hl with | [_, _], _ => rfl, PySem.W.mg_of X G da_reached⟩
  have F_is_integer := fun_mk (st := s_is_integer) dl_is_integer dc_is_integer dk_is_integer
  have h_is_integer : Hd K mg "is_integer" s_is_integer ["value", "least", "most"] _ _ := ⟨F_is_integer, F_is_integer.binds fun _ _ _ _ _ _ us hl => match us, hl with | [_, _, _], _ => rfl, PySem.W.mg_of X G da_is_integer⟩
  have F_is_sequence := fun_mk (st := s_is_sequence) dl_is_sequence dc_is_sequence dk_is_sequence
  have h_is_sequence : Hd K mg "is_sequence" s_is_sequence ["value", "least", "most"] _ _ := ⟨F_is_sequence, F_is_sequence.binds fun _ _ _ _ _ _ us hl => match us, hl with | [_, _, _], _ => rfl, PySem.W.mg_of X G da_is_sequence⟩
  have F_are_lower := fun_mk (st := s_are_lower) dl_are_lower dc_are_lower dk_are_lower
  have h_are_lower : Hd K mg "are_lower" s_are_lower ["text"] _ _ := ⟨F_are_lower, F_are_lower.binds fun _ _ _ _ _ _ us hl => match us, hl with | [_], _ => rfl, PySem.W.mg_of X G da_are_lower⟩
  have F_is_name := fun_mk (st := s_is_name) dl_is_name dc_is_name dk_is_name
  have h_is_name : Hd K mg "is_name" s_is_name ["value"] _ _ := ⟨F_is_name, F_is_name.binds fun _ _ _ _ _ _ us hl => match us, hl with | [_], _ => rfl, PySem.W.mg_of X G da_is_name⟩
  have F_is_class_word := fun_mk (st := s_is_class_word) dl_is_class_word dc_is_class_word dk_is_class_word
  have h_is_class_word : Hd K mg "is_class_word" s_is_class_word ["value"] _ _ := ⟨F_is_class_word, F_is_class_word.binds fun _ _ _ _ _ _ us hl => match us, hl with | [_], _ => rfl, PySem.W.mg_of X G da_is_class_word⟩
  have F_is_class_name := fun_mk (st := s_is_class_name) dl_is_class_name dc_is_class_name dk_is_class_name
  have h_is_class_name : Hd K mg "is_class_name" s_is_class_name ["value"] _ _ := ⟨F_is_class_name, F_is_class_name.binds fun _ _ _ _ _ _ us hl => match us, hl with | [_], _ => rfl, PySem.W.mg_of X G da_is_class_name⟩
  have F_is_generic_name := fun_mk (st := s_is_generic_name) dl_is_generic_name dc_is_generic_name dk_is_generic_name
  have h_is_generic_name : Hd K mg "is_generic_name" s_is_generic_name ["value"] _ _ := ⟨F_is_generic_name, F_is_generic_name.binds fun _ _ _ _ _ _ us hl => match us, hl with | [_], _ => rfl, PySem.W.mg_of X G da_is_generic_name⟩
  have F_plain := fun_mk (st := s_plain) dl_plain dc_plain dk_plain
  have h_plain : Hd K mg "plain" s_plain ["value"] _ _ := ⟨F_plain, F_plain.binds fun _ _ _ _ _ _ us hl => match us, hl with | [_], _ => rfl, PySem.W.mg_of X G da_plain⟩
  have F_is_module := fun_mk (st := s_is_module) dl_is_module dc_is_module dk_is_module
  have h_is_module : Hd K mg "is_module" s_is_module ["value"] _ _ := ⟨F_is_module, F_is_module.binds fun _ _ _ _ _ _ us hl => match us, hl with | [_], _ => rfl, PySem.W.mg_of X G da_is_module⟩
  have F_is_expression := fun_mk (st := s_is_expression) dl_is_expression dc_is_expression dk_is_expression
  have h_is_expression : Hd K mg "is_expression" s_is_expression ["value"] _ _ := ⟨F_is_expression, F_is_expression.binds fun _ _ _ _ _ _ us hl => match us, hl with | [_], _ => rfl, PySem.W.mg_of X G da_is_expression⟩
  have F_are_all := fun_mk (st := s_are_all) dl_are_all dc_are_all dk_are_all
  have h_are_all : Hd K mg "are_all" s_are_all ["value", "least", "most", "test"] _ _ := ⟨F_are_all, F_are_all.binds fun _ _ _ _ _ _ us hl => match us, hl with | [_, _, _, _], _ => rfl, PySem.W.mg_of X G da_are_all⟩
  have F_is_class := fun_mk (st := s_is_class) dl_is_class dc_is_class dk_is_class
  have h_is_class : Hd K mg "is_class" s_is_class ["value"] _ _ := ⟨F_is_class, F_is_class.binds fun _ _ _ _ _ _ us hl => match us, hl with | [_], _ => rfl, PySem.W.mg_of X G da_is_class⟩
  have F_is_generic := fun_mk (st := s_is_generic) dl_is_generic dc_is_generic dk_is_generic
  have h_is_generic : Hd K mg "is_generic" s_is_generic ["value"] _ _ := ⟨F_is_generic, F_is_generic.binds fun _ _ _ _ _ _ us hl => match us, hl with | [_], _ => rfl, PySem.W.mg_of X G da_is_generic⟩
  have F_is_method := fun_mk (st := s_is_method) dl_is_method dc_is_method dk_is_method
  have h_is_method : Hd K mg "is_method" s_is_method ["value"] _ _ := ⟨F_is_method, F_is_method.binds fun _ _ _ _ _ _ us hl => match us, hl with | [_], _ => rfl, PySem.W.mg_of X G da_is_method⟩
  have F_is_named_class := fun_mk (st := s_is_named_class) dl_is_named_class dc_is_named_class dk_is_named_class
  have h_is_named_class : Hd K mg "is_named_class" s_is_named_class ["value"] _ _ := ⟨F_is_named_class, F_is_named_class.binds fun _ _ _ _ _ _ us hl => match us, hl with | [_], _ => rfl, PySem.W.mg_of X G da_is_named_class⟩
  have F_form_parts := fun_mk (st := s_form_parts) dl_form_parts dc_form_parts dk_form_parts
  have h_form_parts : Hd K mg "form_parts" s_form_parts ["value"] _ _ := ⟨F_form_parts, F_form_parts.binds fun _ _ _ _ _ _ us hl => match us, hl with | [_], _ => rfl, PySem.W.mg_of X G da_form_parts⟩
  have F_is_member := fun_mk (st := s_is_member) dl_is_member dc_is_member dk_is_member
  have h_is_member : Hd K mg "is_member" s_is_member ["kind", "value"] _ _ := ⟨F_is_member, F_is_member.binds fun _ _ _ _ _ _ us hl => match us, hl with | [_, _], _ => rfl, PySem.W.mg_of X G da_is_member⟩
  have F_any_place := fun_mk (st := s_any_place) dl_any_place dc_any_place dk_any_place
  have h_any_place : Hd K mg "any_place" s_any_place ["atlas"] _ _ := ⟨F_any_place, F_any_place.binds fun _ _ _ _ _ _ us hl => match us, hl with | [_], _ => rfl, PySem.W.mg_of X G da_any_place⟩
  have F_own_place := fun_mk (st := s_own_place) dl_own_place dc_own_place dk_own_place
  have h_own_place : Hd K mg "own_place" s_own_place ["atlas", "module"] _ _ := ⟨F_own_place, F_own_place.binds fun _ _ _ _ _ _ us hl => match us, hl with | [_, _], _ => rfl, PySem.W.mg_of X G da_own_place⟩
  have F_other_place := fun_mk (st := s_other_place) dl_other_place dc_other_place dk_other_place
  have h_other_place : Hd K mg "other_place" s_other_place ["atlas", "module"] _ _ := ⟨F_other_place, F_other_place.binds fun _ _ _ _ _ _ us hl => match us, hl with | [_, _], _ => rfl, PySem.W.mg_of X G da_other_place⟩
  have F_first_fault := fun_mk (st := s_first_fault) dl_first_fault dc_first_fault dk_first_fault
  have h_first_fault : Hd K mg "first_fault" s_first_fault ["atlas", "name"] _ _ := ⟨F_first_fault, F_first_fault.binds fun _ _ _ _ _ _ us hl => match us, hl with | [_, _], _ => rfl, PySem.W.mg_of X G da_first_fault⟩
  have F_are_different := fun_mk (st := s_are_different) dl_are_different dc_are_different dk_are_different
  have h_are_different : Hd K mg "are_different" s_are_different ["words"] _ _ := ⟨F_are_different, F_are_different.binds fun _ _ _ _ _ _ us hl => match us, hl with | [_], _ => rfl, PySem.W.mg_of X G da_are_different⟩
  have F_check_module := fun_mk (st := s_check_module) dl_check_module dc_check_module dk_check_module
  have h_check_module : Hd K mg "check_module" s_check_module ["atlas", "name"] _ _ := ⟨F_check_module, F_check_module.binds fun _ _ _ _ _ _ us hl => match us, hl with | [_, _], _ => rfl, PySem.W.mg_of X G da_check_module⟩
  have F_viewed_part := fun_mk (st := s_viewed_part) dl_viewed_part dc_viewed_part dk_viewed_part
  have h_viewed_part : Hd K mg "viewed_part" s_viewed_part ["atlas", "name"] _ _ := ⟨F_viewed_part, F_viewed_part.binds fun _ _ _ _ _ _ us hl => match us, hl with | [_, _], _ => rfl, PySem.W.mg_of X G da_viewed_part⟩
  have F_bad_call := fun_mk (st := s_bad_call) dl_bad_call dc_bad_call dk_bad_call
  have h_bad_call : Hd K mg "bad_call" s_bad_call ["atlas", "name"] _ _ := ⟨F_bad_call, F_bad_call.binds fun _ _ _ _ _ _ us hl => match us, hl with | [_, _], _ => rfl, PySem.W.mg_of X G da_bad_call⟩
  have F_check_uses := fun_mk (st := s_check_uses) dl_check_uses dc_check_uses dk_check_uses
  have h_check_uses : Hd K mg "check_uses" s_check_uses ["modules", "name", "uses"] _ _ := ⟨F_check_uses, F_check_uses.binds fun _ _ _ _ _ _ us hl => match us, hl with | [_, _, _], _ => rfl, PySem.W.mg_of X G da_check_uses⟩
  have F_check_rules := fun_mk (st := s_check_rules) dl_check_rules dc_check_rules dk_check_rules
  have h_check_rules : Hd K mg "check_rules" s_check_rules ["atlas", "name"] _ _ := ⟨F_check_rules, F_check_rules.binds fun _ _ _ _ _ _ us hl => match us, hl with | [_, _], _ => rfl, PySem.W.mg_of X G da_check_rules⟩
  have F__law_so := fun_mk (st := sSo) dl__law_so dc__law_so dk__law_so
  have h__law_so : Hd K mg "_law_so" sSo ["found", "meant"] _ _ := ⟨F__law_so, F__law_so.binds fun _ _ _ _ _ _ us hl => match us, hl with | [_, _], _ => rfl, PySem.W.mg_of X G da__law_so⟩
  have F__law_numbers := fun_mk (st := sNum) dl__law_numbers dc__law_numbers dk__law_numbers
  have h__law_numbers : Hd K mg "_law_numbers" sNum ["script"] _ _ := ⟨F__law_numbers, F__law_numbers.binds fun _ _ _ _ _ _ us hl => match us, hl with | [_], _ => rfl, PySem.W.mg_of X G da__law_numbers⟩
  have F__law_draw := fun_mk (st := sDraw) dl__law_draw dc__law_draw dk__law_draw
  have h__law_draw : Hd K mg "_law_draw" sDraw ["row", "at", "limit"] _ _ := ⟨F__law_draw, F__law_draw.binds fun _ _ _ _ _ _ us hl => match us, hl with | [_, _, _], _ => rfl, PySem.W.mg_of X G da__law_draw⟩
  have F__law_take := fun_mk (st := sTake) dl__law_take dc__law_take dk__law_take
  have h__law_take : Hd K mg "_law_take" sTake ["row", "spot", "limit"] _ _ := ⟨F__law_take, F__law_take.binds fun _ _ _ _ _ _ us hl => match us, hl with | [_, _, _], _ => rfl, PySem.W.mg_of X G da__law_take⟩
  have F__law_letters := fun_mk (st := s__law_letters) dl__law_letters dc__law_letters dk__law_letters
  have h__law_letters : Hd K mg "_law_letters" s__law_letters ["row", "spot", "many"] _ _ := ⟨F__law_letters, F__law_letters.binds fun _ _ _ _ _ _ us hl => match us, hl with | [_, _, _], _ => rfl, PySem.W.mg_of X G da__law_letters⟩
  have F__law_name := fun_mk (st := s__law_name) dl__law_name dc__law_name dk__law_name
  have h__law_name : Hd K mg "_law_name" s__law_name ["row", "spot", "used"] _ _ := ⟨F__law_name, F__law_name.binds fun _ _ _ _ _ _ us hl => match us, hl with | [_, _, _], _ => rfl, PySem.W.mg_of X G da__law_name⟩
  have F__law_reserved := fun_mk (st := s__law_reserved) dl__law_reserved dc__law_reserved dk__law_reserved
  have h__law_reserved : Hd K mg "_law_reserved" s__law_reserved [] _ _ := ⟨F__law_reserved, F__law_reserved.binds fun _ _ _ _ _ _ us hl => match us, hl with | [], _ => rfl, PySem.W.mg_of X G da__law_reserved⟩
  have F__law_load_told := fun_mk (st := s__law_load_told) dl__law_load_told dc__law_load_told dk__law_load_told
  have h__law_load_told : Hd K mg "_law_load_told" s__law_load_told ["link", "module"] _ _ := ⟨F__law_load_told, F__law_load_told.binds fun _ _ _ _ _ _ us hl => match us, hl with | [_, _], _ => rfl, PySem.W.mg_of X G da__law_load_told⟩
  have F_law := fun_mk (st := s_law) dl_law dc_law dk_law
  have h_BASE : Cst K mg "BASE" (.str "base") _ := ⟨PySem.W.mg_of X G ca_BASE, ⟨_, rfl⟩⟩
  have h_BASE_CLASSES : Cst K mg "BASE_CLASSES" (.ref a_BASE_CLASSES) _ := ⟨PySem.W.mg_of X G ca_BASE_CLASSES, rfl⟩
  have h_FORMS : Cst K mg "FORMS" (.ref a_FORMS) _ := ⟨PySem.W.mg_of X G ca_FORMS, rfl⟩
  have h_LARGEST : Cst K mg "LARGEST" (.int 65535) _ := ⟨PySem.W.mg_of X G ca_LARGEST, ⟨_, rfl⟩⟩
  have h_LOWER : Cst K mg "LOWER" (.str "abcdefghijklmnopqrstuvwxyz") _ := ⟨PySem.W.mg_of X G ca_LOWER, ⟨_, rfl⟩⟩
  have h_MOST_CLASSES : Cst K mg "MOST_CLASSES" (.int 6) _ := ⟨PySem.W.mg_of X G ca_MOST_CLASSES, ⟨_, rfl⟩⟩
  have h_MOST_EXPRESSIONS : Cst K mg "MOST_EXPRESSIONS" (.int 60) _ := ⟨PySem.W.mg_of X G ca_MOST_EXPRESSIONS, ⟨_, rfl⟩⟩
  have h_MOST_FIELDS : Cst K mg "MOST_FIELDS" (.int 3) _ := ⟨PySem.W.mg_of X G ca_MOST_FIELDS, ⟨_, rfl⟩⟩
  have h_MOST_GENERICS : Cst K mg "MOST_GENERICS" (.int 3) _ := ⟨PySem.W.mg_of X G ca_MOST_GENERICS, ⟨_, rfl⟩⟩
  have h_MOST_LETTERS : Cst K mg "MOST_LETTERS" (.int 12) _ := ⟨PySem.W.mg_of X G ca_MOST_LETTERS, ⟨_, rfl⟩⟩
  have h_MOST_LEVELS : Cst K mg "MOST_LEVELS" (.int 7) _ := ⟨PySem.W.mg_of X G ca_MOST_LEVELS, ⟨_, rfl⟩⟩
  have h_MOST_METHODS : Cst K mg "MOST_METHODS" (.int 8) _ := ⟨PySem.W.mg_of X G ca_MOST_METHODS, ⟨_, rfl⟩⟩
  have h_MOST_MODULES : Cst K mg "MOST_MODULES" (.int 12) _ := ⟨PySem.W.mg_of X G ca_MOST_MODULES, ⟨_, rfl⟩⟩
  have h_MOST_PARENTS : Cst K mg "MOST_PARENTS" (.int 12) _ := ⟨PySem.W.mg_of X G ca_MOST_PARENTS, ⟨_, rfl⟩⟩
  have h_MOST_TAKES : Cst K mg "MOST_TAKES" (.int 3) _ := ⟨PySem.W.mg_of X G ca_MOST_TAKES, ⟨_, rfl⟩⟩
  have h_MOST_USES : Cst K mg "MOST_USES" (.int 4) _ := ⟨PySem.W.mg_of X G ca_MOST_USES, ⟨_, rfl⟩⟩
  have h_MOST_VALUES : Cst K mg "MOST_VALUES" (.int 12) _ := ⟨PySem.W.mg_of X G ca_MOST_VALUES, ⟨_, rfl⟩⟩
  have h_MOST_VIEWED : Cst K mg "MOST_VIEWED" (.int 6) _ := ⟨PySem.W.mg_of X G ca_MOST_VIEWED, ⟨_, rfl⟩⟩
  have h_RESERVED : Cst K mg "RESERVED" (.ref a_RESERVED) _ := ⟨PySem.W.mg_of X G ca_RESERVED, rfl⟩
  have h_ROWS : Cst K mg "ROWS" (.ref a_ROWS) _ := ⟨PySem.W.mg_of X G ca_ROWS, rfl⟩
  have h_UPPER : Cst K mg "UPPER" (.str "ABCDEFGHIJKLMNOPQRSTUVWXYZ") _ := ⟨PySem.W.mg_of X G ca_UPPER, ⟨_, rfl⟩⟩
  have m_all := PySem.W.mg_none_of X G z_all
  have m_bool := PySem.W.mg_none_of X G z_bool
  have m_enumerate := PySem.W.mg_none_of X G z_enumerate
  have m_int := PySem.W.mg_none_of X G z_int
  have m_isinstance := PySem.W.mg_none_of X G z_isinstance
  have m_len := PySem.W.mg_none_of X G z_len
  have m_list := PySem.W.mg_none_of X G z_list
  have m_range := PySem.W.mg_none_of X G z_range
  have m_set := PySem.W.mg_none_of X G z_set
  have m_sorted := PySem.W.mg_none_of X G z_sorted
  have m_str := PySem.W.mg_none_of X G z_str
  have m_tuple := PySem.W.mg_none_of X G z_tuple
  have m_zip := PySem.W.mg_none_of X G z_zip
  have t_RESERVED : ∀ H : Hp, SqT K H a_RESERVED ((reserved).map V.str) := tup_of b_RESERVED
  have t_ROWS : ∀ H : Hp, SqT K H a_ROWS (((["values", "arguments"] : List Str)).map V.str) := tup_of b_ROWS
  have t_FORMS : Forms K w a_FORMS := forms_of (He.dicW_ok d_FORMS) b_FORMS
  have F_ClassEntry_init := fun_mk (st := s_ClassEntry_init) ml_ClassEntry_init mc_ClassEntry_init mk_ClassEntry_init
  have b_ClassEntry_init := F_ClassEntry_init.binds (ps := ["self", "module", "told"]) fun _ _ _ _ _ _ us hl => match us, hl with | [_, _, _], _ => rfl
  have K_ClassEntry : CI K mg "ClassEntry" ["self", "module", "told"] CE f_ClassEntry_init _ := ⟨⟨mks_ClassEntry, ma_ClassEntry_init, mi_ClassEntry_init, kc_ClassEntry⟩, ⟨pg_ClassEntry, hd_ClassEntry, po_ClassEntry, sa_ClassEntry⟩, PySem.W.mg_of X G aC_ClassEntry, b_ClassEntry_init⟩
  have clE := K_ClassEntry.cl
  have nCE : NA K CE ["name", "module", "is_open", "is_abstract", "parents", "fields"] := List.forall_mem_cons.mpr ⟨nf_ClassEntry_name, List.forall_mem_cons.mpr ⟨nf_ClassEntry_module, List.forall_mem_cons.mpr ⟨nf_ClassEntry_is_open, List.forall_mem_cons.mpr ⟨nf_ClassEntry_is_abstract, List.forall_mem_cons.mpr ⟨nf_ClassEntry_parents, List.forall_mem_cons.mpr ⟨nf_ClassEntry_fields, fun _ h => nomatch h⟩⟩⟩⟩⟩⟩
  have F_Atlas_init := fun_mk (st := s_Atlas_init) ml_Atlas_init mc_Atlas_init mk_Atlas_init
  have b_Atlas_init := F_Atlas_init.binds (ps := ["self", "modules"]) fun _ _ _ _ _ _ us hl => match us, hl with | [_, _], _ => rfl
  have F_Atlas_enter_classes := fun_mk (st := s_Atlas_enter_classes) ml_Atlas_enter_classes mc_Atlas_enter_classes mk_Atlas_enter_classes
  have b_Atlas_enter_classes := F_Atlas_enter_classes.binds (ps := ["self", "module", "classes"]) fun _ _ _ _ _ _ us hl => match us, hl with | [_, _, _], _ => rfl
  have M_Atlas_enter_classes : MI K CA "enter_classes" ["self", "module", "classes"] f_Atlas_enter_classes _ := ⟨⟨ma_Atlas_enter_classes, mi_Atlas_enter_classes, mk_Atlas_enter_classes⟩, b_Atlas_enter_classes⟩
  have F_Atlas_enter_generics := fun_mk (st := s_Atlas_enter_generics) ml_Atlas_enter_generics mc_Atlas_enter_generics mk_Atlas_enter_generics
  have b_Atlas_enter_generics := F_Atlas_enter_generics.binds (ps := ["self", "module", "generics"]) fun _ _ _ _ _ _ us hl => match us, hl with | [_, _, _], _ => rfl
  have M_Atlas_enter_generics : MI K CA "enter_generics" ["self", "module", "generics"] f_Atlas_enter_generics _ := ⟨⟨ma_Atlas_enter_generics, mi_Atlas_enter_generics, mk_Atlas_enter_generics⟩, b_Atlas_enter_generics⟩
  have F_Atlas_enter_methods := fun_mk (st := s_Atlas_enter_methods) ml_Atlas_enter_methods mc_Atlas_enter_methods mk_Atlas_enter_methods
  have b_Atlas_enter_methods := F_Atlas_enter_methods.binds (ps := ["self", "module", "methods"]) fun _ _ _ _ _ _ us hl => match us, hl with | [_, _, _], _ => rfl
  have M_Atlas_enter_methods : MI K CA "enter_methods" ["self", "module", "methods"] f_Atlas_enter_methods _ := ⟨⟨ma_Atlas_enter_methods, mi_Atlas_enter_methods, mk_Atlas_enter_methods⟩, b_Atlas_enter_methods⟩
  have F_Atlas_view := fun_mk (st := s_Atlas_view) ml_Atlas_view mc_Atlas_view mk_Atlas_view
  have b_Atlas_view := F_Atlas_view.binds (ps := ["self", "module"]) fun _ _ _ _ _ _ us hl => match us, hl with | [_, _], _ => rfl
  have M_Atlas_view : MI K CA "view" ["self", "module"] f_Atlas_view _ := ⟨⟨ma_Atlas_view, mi_Atlas_view, mk_Atlas_view⟩, b_Atlas_view⟩
  have F_Atlas_part := fun_mk (st := s_Atlas_part) ml_Atlas_part mc_Atlas_part mk_Atlas_part
  have b_Atlas_part := F_Atlas_part.binds (ps := ["self", "names"]) fun _ _ _ _ _ _ us hl => match us, hl with | [_, _], _ => rfl
  have M_Atlas_part : MI K CA "part" ["self", "names"] f_Atlas_part _ := ⟨⟨ma_Atlas_part, mi_Atlas_part, mk_Atlas_part⟩, b_Atlas_part⟩
  have K_Atlas : CI K mg "Atlas" ["self", "modules"] CA f_Atlas_init _ := ⟨⟨mks_Atlas, ma_Atlas_init, mi_Atlas_init, kc_Atlas⟩, ⟨pg_Atlas, hd_Atlas, po_Atlas, sa_Atlas⟩, PySem.W.mg_of X G aC_Atlas, b_Atlas_init⟩
  have clA := K_Atlas.cl
  have nCA : NA K CA ["modules", "classes", "generics", "methods", "_uses", "_parents", "_aboves"] := List.forall_mem_cons.mpr ⟨nf_Atlas_modules, List.forall_mem_cons.mpr ⟨nf_Atlas_classes, List.forall_mem_cons.mpr ⟨nf_Atlas_generics, List.forall_mem_cons.mpr ⟨nf_Atlas_methods, List.forall_mem_cons.mpr ⟨nf_Atlas__uses, List.forall_mem_cons.mpr ⟨nf_Atlas__parents, List.forall_mem_cons.mpr ⟨nf_Atlas__aboves, fun _ h => nomatch h⟩⟩⟩⟩⟩⟩⟩
  have F_Place_init := fun_mk (st := s_Place_init) ml_Place_init mc_Place_init mk_Place_init
  have b_Place_init := F_Place_init.binds (ps := ["self", "atlas", "names", "takes_strange"]) fun _ _ _ _ _ _ us hl => match us, hl with | [_, _, _, _], _ => rfl
  have K_Place : CI K mg "Place" ["self", "atlas", "names", "takes_strange"] CP f_Place_init _ := ⟨⟨mks_Place, ma_Place_init, mi_Place_init, kc_Place⟩, ⟨pg_Place, hd_Place, po_Place, sa_Place⟩, PySem.W.mg_of X G aC_Place, b_Place_init⟩
  have clP := K_Place.cl
  have nCP : NA K CP ["concrete", "extended"] := List.forall_mem_cons.mpr ⟨nf_Place_concrete, List.forall_mem_cons.mpr ⟨nf_Place_extended, fun _ h => nomatch h⟩⟩
  have F_Scope_init := fun_mk (st := s_Scope_init) ml_Scope_init mc_Scope_init mk_Scope_init
  have b_Scope_init := F_Scope_init.binds (ps := ["self", "atlas", "known", "gives"]) fun _ _ _ _ _ _ us hl => match us, hl with | [_, _, _, _], _ => rfl
  have K_Scope : CI K mg "Scope" ["self", "atlas", "known", "gives"] CS f_Scope_init _ := ⟨⟨mks_Scope, ma_Scope_init, mi_Scope_init, kc_Scope⟩, ⟨pg_Scope, hd_Scope, po_Scope, sa_Scope⟩, PySem.W.mg_of X G aC_Scope, b_Scope_init⟩
  have clS := K_Scope.cl
  have nCS : NA K CS ["atlas", "known", "gives"] := List.forall_mem_cons.mpr ⟨nf_Scope_atlas, List.forall_mem_cons.mpr ⟨nf_Scope_known, List.forall_mem_cons.mpr ⟨nf_Scope_gives, fun _ h => nomatch h⟩⟩⟩
  have F_Link_init := fun_mk (st := s_Link_init) ml_Link_init mc_Link_init mk_Link_init
  have b_Link_init := F_Link_init.binds (ps := ["self"]) fun _ _ _ _ _ _ us hl => match us, hl with | [_], _ => rfl
  have F_Link_load := fun_mk (st := s_Link_load) ml_Link_load mc_Link_load mk_Link_load
  have b_Link_load := F_Link_load.binds (ps := ["self", "module"]) fun _ _ _ _ _ _ us hl => match us, hl with | [_, _], _ => rfl
  have M_Link_load : MI K CL "load" ["self", "module"] f_Link_load _ := ⟨⟨ma_Link_load, mi_Link_load, mk_Link_load⟩, b_Link_load⟩
  have F_Link_unload := fun_mk (st := s_Link_unload) ml_Link_unload mc_Link_unload mk_Link_unload
  have b_Link_unload := F_Link_unload.binds (ps := ["self", "name"]) fun _ _ _ _ _ _ us hl => match us, hl with | [_, _], _ => rfl
  have M_Link_unload : MI K CL "unload" ["self", "name"] f_Link_unload _ := ⟨⟨ma_Link_unload, mi_Link_unload, mk_Link_unload⟩, b_Link_unload⟩
  have F_Link_names := fun_mk (st := s_Link_names) ml_Link_names mc_Link_names mk_Link_names
  have b_Link_names := F_Link_names.binds (ps := ["self"]) fun _ _ _ _ _ _ us hl => match us, hl with | [_], _ => rfl
  have M_Link_names : MI K CL "names" ["self"] f_Link_names _ := ⟨⟨ma_Link_names, mi_Link_names, mk_Link_names⟩, b_Link_names⟩
  have F_Link_len := fun_mk (st := s_Link_len) ml_Link_len mc_Link_len mk_Link_len
  have b_Link_len := F_Link_len.binds (ps := ["self"]) fun _ _ _ _ _ _ us hl => match us, hl with | [_], _ => rfl
  have M_Link_len : MI K CL "__len__" ["self"] f_Link_len _ := ⟨⟨ma_Link_len, mi_Link_len, mk_Link_len⟩, b_Link_len⟩
  have K_Link : CI K mg "Link" ["self"] CL f_Link_init _ := ⟨⟨mks_Link, ma_Link_init, mi_Link_init, kc_Link⟩, ⟨pg_Link, hd_Link, po_Link, sa_Link⟩, PySem.W.mg_of X G aC_Link, b_Link_init⟩
  have clL := K_Link.cl
  have nCL : NA K CL ["_modules", "_atlas"] := List.forall_mem_cons.mpr ⟨nf_Link__modules, List.forall_mem_cons.mpr ⟨nf_Link__atlas, fun _ h => nomatch h⟩⟩
  have nPA : CP ≠ CA := of_decide_eq_false q_nPA
  have nPE : CP ≠ CE := of_decide_eq_false q_nPE
  have nLA : CL ≠ CA := of_decide_eq_false q_nLA
  have nLE : CL ≠ CE := of_decide_eq_false q_nLE
  have t_BASE_CLASSES : ∀ H : Hp, BaseT K H a_BASE_CLASSES := base_of bBC
  have g_class_fault := PySem.W.mg_of X G aq_class_fault
  have g_generic_fault := PySem.W.mg_of X G aq_generic_fault
  have g_method_fault := PySem.W.mg_of X G aq_method_fault
  have x_BadValue := PySem.W.mg_of X G aBV
  have x_TakenName := PySem.W.mg_of X G aTN
  have x_NotClosed := PySem.W.mg_of X G aNC
  have EMissingUse : MissE K mg C0 CMU fMU _ := ec_of (x := "MissingUse") (st := s_MissingUse_init) X G aMU lMU iMU lfMU cfMU bMU sg tk
  have EUnlawful : UnlE K mg C0 CUL fUL _ := ec_of (x := "Unlawful") (st := s_Unlawful_init) X G aUL lUL iUL lfUL cfUL bUL sg tk
  have e_MU_BV := ex_of k_MU_BV
  have e_MU_TN := ex_of k_MU_TN
  have e_MU_MU := ex_of k_MU_MU
  have e_UL_BV := ex_of k_UL_BV
  have e_UL_TN := ex_of k_UL_TN
  have e_UL_MU := ex_of k_UL_MU
  have e_UL_UL := ex_of k_UL_UL
  have nne_is_named_class_is_class_name : g_is_named_class ≠ g_is_class_name := of_decide_eq_false ne_is_named_class_is_class_name
  have nne_is_class_is_name : g_is_class ≠ g_is_name := of_decide_eq_false ne_is_class_is_name
  have nne_is_generic_is_name : g_is_generic ≠ g_is_name := of_decide_eq_false ne_is_generic_is_name
  have nne_is_generic_is_class : g_is_generic ≠ g_is_class := of_decide_eq_false ne_is_generic_is_class
  have nne_is_method_is_name : g_is_method ≠ g_is_name := of_decide_eq_false ne_is_method_is_name
  have nne_is_method_is_class : g_is_method ≠ g_is_class := of_decide_eq_false ne_is_method_is_class
  have nne_is_method_is_generic : g_is_method ≠ g_is_generic := of_decide_eq_false ne_is_method_is_generic
  refine ⟨PySem.W.fnOf "law" "law" (defArgs s_law) (defBody s_law) (defScope s_law) .none kV_law doc_law pm_law an_law cd_law ct_law, [(cA, PT)], spLaw K [(PT, qLam)], fun p hp => ?_, fun p hp => ?_, fun p hp => ?_, fun s v => .of_eq rfl, fun H a ns hl _ ht hS => ⟨a, ns, rfl, hS, hl, fun p hp => ?_, fun _ => rfl⟩, fun base _ _ hTB => ?_⟩
  · rw [List.mem_singleton.mp hp]
    exact ePT
  · rw [List.mem_singleton.mp hp]
    exact nPT
  · rw [List.mem_singleton.mp hp]
    exact PySem.W.codeHd_of_K X hCo
  · rw [List.mem_singleton.mp hp]
    exact TabS.nil (ht (cA, PT) (List.mem_singleton.mpr rfl))
  have TB := hTB (cA, PT) (List.mem_singleton.mpr rfl)
  have G__law_numbers := ok_num (P := l.prog) (w := w) (base := base) (k := 0) F__law_numbers m_range m_int m_len
  have G_take0 := ok_take (P := l.prog) (w := w) (base := base) (k := 0) F__law_take F__law_draw h__law_draw.b h__law_draw.g m_int m_len
  have G__law_take := ok_tk G_take0
  have G__law_so : FnOk l.prog w K mg base CX0 4 _ _ ["found", "meant"] (spSo K 4) := ok_so (k := 0) F__law_so h__law_so.b h__law_so.g m_isinstance m_len m_range m_tuple m_bool m_int m_str 4
  have G_is_integer := ok_is_integer (P := l.prog) (w := w) (mg := mg) (base := base)  F_is_integer m_isinstance m_int m_bool
  have G_is_sequence := ok_is_sequence (P := l.prog) (w := w) (mg := mg) (base := base)  F_is_sequence m_isinstance m_list m_tuple m_len
  have G_are_lower := ok_are_lower (P := l.prog) (w := w) (mg := mg) (base := base)  F_are_lower h_LOWER
  have G_is_name := ok_is_name (P := l.prog) (w := w) (mg := mg) (base := base)  F_is_name h_are_lower G_are_lower h_MOST_LETTERS h_RESERVED t_RESERVED m_isinstance m_str m_len
  have G_is_class_word := ok_is_class_word (P := l.prog) (w := w) (mg := mg) (base := base)  F_is_class_word h_are_lower G_are_lower h_MOST_LETTERS h_UPPER m_isinstance m_str m_len
  have G_is_class_name := ok_is_class_name (P := l.prog) (w := w) (mg := mg) (base := base)  F_is_class_name h_is_name G_is_name h_is_class_word G_is_class_word m_isinstance m_str
  have G_is_generic_name := ok_is_generic_name (P := l.prog) (w := w) (mg := mg) (base := base)  F_is_generic_name h_is_name G_is_name m_isinstance m_str
  have G_is_named_class := ok_is_named_class (P := l.prog) (w := w) (mg := mg) (base := base)  F_is_named_class h_is_sequence G_is_sequence h_is_name G_is_name h_is_class_name G_is_class_name
  have G_is_member := ok_is_member (P := l.prog) (w := w) (mg := mg) (base := base)  F_is_member h_is_integer G_is_integer h_is_name G_is_name h_is_class_name G_is_class_name h_is_generic_name G_is_generic_name h_is_sequence G_is_sequence h_LARGEST h_MOST_VALUES h_MOST_TAKES
  have G_form_parts := ok_form_parts (P := l.prog) (w := w) (mg := mg) (base := base)  F_form_parts h_is_member G_is_member h_FORMS t_FORMS h_ROWS t_ROWS m_isinstance m_list m_tuple m_len m_str m_zip
  have G_is_expression := ok_is_expression (P := l.prog) (w := w) (mg := mg) (base := base)  F_is_expression h_form_parts G_form_parts h_MOST_LEVELS h_MOST_EXPRESSIONS m_range m_len
  let T1 : Addr → Option Sp := fun a => if a = g_is_class_name then some (sp1 K isCname) else if a = g_is_named_class then some (sp1 K isNamed) else none
  have q_is_class_name : T1 g_is_class_name = some (sp1 K isCname) := if_pos rfl
  have q_is_named_class : T1 g_is_named_class = some (sp1 K isNamed) := (if_neg nne_is_named_class_is_class_name).trans (if_pos rfl)
  have A_T1 : ∀ f sp, T1 f = some sp → Held l.prog w K mg base 8 f sp := fun f sp h => by
    by_cases c0 : f = g_is_class_name
    · subst c0
      obtain rfl := Option.some.inj (q_is_class_name.symm.trans h)
      exact ⟨⟨_, _, (G_is_class_name).mono (by decide), F_is_class_name.kp, h_is_class_name.b⟩⟩
    by_cases c1 : f = g_is_named_class
    · subst c1
      obtain rfl := Option.some.inj (q_is_named_class.symm.trans h)
      exact ⟨⟨_, _, (G_is_named_class).mono (by decide), F_is_named_class.kp, h_is_named_class.b⟩⟩
    have e : T1 f = none := (if_neg c0).trans ((if_neg c1).trans (rfl))
    rw [e] at h
    cases h
  have G_all1 := ok_are_all (P := l.prog) (w := w) (base := base) (S := T1) F_are_all h_is_sequence G_is_sequence m_all (n := 8) (by decide) A_T1
  have G_is_class := ok_is_class (P := l.prog) (w := w) (mg := mg) (base := base) (S := T1) F_is_class h_is_sequence G_is_sequence h_is_class_word G_is_class_word h_are_all G_all1 h_is_class_name h_is_named_class h_MOST_PARENTS h_MOST_FIELDS m_isinstance m_bool q_is_class_name q_is_named_class
  have G_is_generic := ok_is_generic (P := l.prog) (w := w) (mg := mg) (base := base) (S := T1) F_is_generic h_is_sequence G_is_sequence h_is_name G_is_name h_are_all G_all1 h_is_class_name G_is_class_name h_is_integer G_is_integer h_MOST_TAKES m_len q_is_class_name
  have G_is_method := ok_is_method (P := l.prog) (w := w) (mg := mg) (base := base) (S := T1) F_is_method h_is_sequence G_is_sequence h_is_generic_name G_is_generic_name h_are_all G_all1 h_is_named_class h_is_expression G_is_expression h_MOST_TAKES q_is_named_class
  let T2 : Addr → Option Sp := fun a => if a = g_is_name then some (sp1 K isName) else if a = g_is_class then some (sp1 K isClass) else if a = g_is_generic then some (sp1 K isGeneric) else if a = g_is_method then some (sp1 K isMethod) else none
  have q_is_name : T2 g_is_name = some (sp1 K isName) := if_pos rfl
  have q_is_class : T2 g_is_class = some (sp1 K isClass) := (if_neg nne_is_class_is_name).trans (if_pos rfl)
  have q_is_generic : T2 g_is_generic = some (sp1 K isGeneric) := (if_neg nne_is_generic_is_name).trans ((if_neg nne_is_generic_is_class).trans (if_pos rfl))
  have q_is_method : T2 g_is_method = some (sp1 K isMethod) := (if_neg nne_is_method_is_name).trans ((if_neg nne_is_method_is_class).trans ((if_neg nne_is_method_is_generic).trans (if_pos rfl)))
  have A_T2 : ∀ f sp, T2 f = some sp → Held l.prog w K mg base 10 f sp := fun f sp h => by
    by_cases c0 : f = g_is_name
    · subst c0
      obtain rfl := Option.some.inj (q_is_name.symm.trans h)
      exact ⟨⟨_, _, (G_is_name).mono (by decide), F_is_name.kp, h_is_name.b⟩⟩
    by_cases c1 : f = g_is_class
    · subst c1
      obtain rfl := Option.some.inj (q_is_class.symm.trans h)
      exact ⟨⟨_, _, (G_is_class).mono (by decide), F_is_class.kp, h_is_class.b⟩⟩
    by_cases c2 : f = g_is_generic
    · subst c2
      obtain rfl := Option.some.inj (q_is_generic.symm.trans h)
      exact ⟨⟨_, _, (G_is_generic).mono (by decide), F_is_generic.kp, h_is_generic.b⟩⟩
    by_cases c3 : f = g_is_method
    · subst c3
      obtain rfl := Option.some.inj (q_is_method.symm.trans h)
      exact ⟨⟨_, _, (G_is_method).mono (by decide), F_is_method.kp, h_is_method.b⟩⟩
    have e : T2 f = none := (if_neg c0).trans ((if_neg c1).trans ((if_neg c2).trans ((if_neg c3).trans (rfl))))
    rw [e] at h
    cases h
  have G_all2 := ok_are_all (P := l.prog) (w := w) (base := base) (S := T2) F_are_all h_is_sequence G_is_sequence m_all (n := 10) (by decide) A_T2
  have G_is_module := ok_is_module (P := l.prog) (w := w) (mg := mg) (base := base) (S := T2) F_is_module h_is_sequence G_is_sequence h_is_name G_is_name h_are_all G_all2 h_is_class h_is_generic h_is_method h_MOST_USES h_MOST_CLASSES h_MOST_GENERICS h_MOST_METHODS q_is_name q_is_class q_is_generic q_is_method
  have G__law_reserved := ok__law_reserved (P := l.prog) (w := w) (mg := mg) (base := base)  F__law_reserved
  have G__law_letters := ok__law_letters (P := l.prog) (w := w) (mg := mg) (base := base)  F__law_letters h__law_take G__law_take m_range
  have G__law_name := ok__law_name (P := l.prog) (w := w) (mg := mg) (base := base)  F__law_name h__law_letters G__law_letters h__law_take G__law_take h__law_reserved G__law_reserved m_range
  have G_plain : FnOk l.prog w K mg base CX0 4 _ _ ["value"] (spPlain K 3) := ok_plain (P := l.prog) (w := w) (mg := mg) (base := base) F_plain m_isinstance m_list m_tuple h_plain.b h_plain.g 3
  have G_are_different := ok_are_different (P := l.prog) (w := w) (mg := mg) (base := base)  F_are_different m_len m_set
  have G_reached := ok_reached (P := l.prog) (w := w) (mg := mg) (base := base)  F_reached m_list
  have G_ClassEntry_init := ok_ClassEntry_init (P := l.prog) (w := w) (mg := mg) (base := base)  F_ClassEntry_init m_tuple clE
  have G_Atlas_enter_generics := ok_Atlas_enter_generics (P := l.prog) (w := w) (mg := mg) (base := base)  F_Atlas_enter_generics
  have G_Atlas_enter_methods := ok_Atlas_enter_methods (P := l.prog) (w := w) (mg := mg) (base := base)  F_Atlas_enter_methods m_enumerate
  have G_Atlas_enter_classes := ok_Atlas_enter_classes (P := l.prog) (w := w) (mg := mg) (base := base)  F_Atlas_enter_classes K_ClassEntry G_ClassEntry_init clE nCE clA nCA
  have G_Atlas_init := ok_Atlas_init (P := l.prog) (w := w) (mg := mg) (base := base)  F_Atlas_init K_Atlas M_Atlas_enter_classes M_Atlas_enter_generics M_Atlas_enter_methods G_Atlas_enter_classes G_Atlas_enter_generics G_Atlas_enter_methods h_BASE h_BASE_CLASSES t_BASE_CLASSES nCA m_sorted rfl TB m_sorted
  have G_Atlas_view := ok_Atlas_view (P := l.prog) (w := w) (mg := mg) (base := base) (CE := CE) F_Atlas_view h_reached G_reached h_BASE clA nCA
  have G_Scope_init := ok_Scope_init (P := l.prog) (w := w) (mg := mg) (base := base)  F_Scope_init clS nCS
  have G_Atlas_part := ok_Atlas_part (P := l.prog) (w := w) (mg := mg) (base := base) (CE := CE) F_Atlas_part K_Atlas G_Atlas_init nCA
  have G_first_fault := ok_first_fault (P := l.prog) (w := w) (mg := mg) (base := base) (CE := CE) F_first_fault K_Scope K_Atlas M_Atlas_view G_Scope_init G_Atlas_view g_class_fault g_generic_fault g_method_fault m_range m_len nCA
  have G_Place_init := ok_Place_init (P := l.prog) (w := w) (mg := mg) (base := base) (CE := CE) F_Place_init clP nCP clA nCA clE nCE nPA nPE
  have G_any_place := ok_any_place (P := l.prog) (w := w) (mg := mg) (base := base) (CE := CE) F_any_place K_Place G_Place_init m_list clA nCA
  have G_own_place := ok_own_place (P := l.prog) (w := w) (mg := mg) (base := base) (CE := CE) F_own_place K_Place G_Place_init clA nCA clE nCE
  have G_other_place := ok_other_place (P := l.prog) (w := w) (mg := mg) (base := base) (CE := CE) F_other_place K_Place G_Place_init clA nCA clE nCE
  have G_bad_call := ok_bad_call (P := l.prog) (w := w) (mg := mg) (base := base) (CE := CE) F_bad_call h_any_place G_any_place h_own_place G_own_place h_other_place G_other_place clA nCA
  have G_viewed_part := ok_viewed_part (P := l.prog) (w := w) (mg := mg) (base := base) (CE := CE) F_viewed_part K_Atlas M_Atlas_part M_Atlas_view G_Atlas_part G_Atlas_view h_MOST_VIEWED m_len nCA
  have G_check_rules := ok_check_rules (P := l.prog) (w := w) (mg := mg) (base := base) (CE := CE) F_check_rules h_first_fault G_first_fault h_bad_call G_bad_call h_viewed_part G_viewed_part
  have G_check_uses := ok_check_uses (P := l.prog) (w := w) (mg := mg) (base := base) (T := [(PT, qLam)]) F_check_uses h_are_different G_are_different h_BASE EMissingUse EUnlawful
  have G_check_module := ok_check_module (P := l.prog) (w := w) (mg := mg) (base := base) (CA := CA) (CE := CE) F_check_module m_isinstance m_str clA nCA
  have G_Link_len := ok_Link_len (P := l.prog) (w := w) (mg := mg) (base := base)  F_Link_len m_len clL nCL
  have G_Link_names := ok_Link_names (P := l.prog) (w := w) (mg := mg) (base := base) (CA := CA) (CE := CE) F_Link_names m_tuple m_sorted clL nCL
  have G_Link_init := ok_Link_init (P := l.prog) (w := w) (mg := mg) (base := base) (CA := CA) (CE := CE) F_Link_init K_Atlas G_Atlas_init clL nCL nLA nLE
  have G_Link_unload := ok_Link_unload (P := l.prog) (w := w) (mg := mg) (base := base) (CA := CA) (CE := CE) F_Link_unload K_Atlas h_check_module G_check_module G_Atlas_init m_list clL nCL nCA nLA nLE
  have G_Link_load := ok_Link_load (P := l.prog) (w := w) (mg := mg) (base := base) (CA := CA) (CE := CE) F_Link_load K_Atlas M_Atlas_view h_is_module G_is_module h_plain G_plain h_check_uses G_check_uses G_Atlas_init G_Atlas_view h_check_rules G_check_rules h_MOST_MODULES h_MOST_VIEWED m_list m_len clL nCL nCA nLA nLE EUnlawful
  have G__law_load_told := ok__law_load_told (P := l.prog) (w := w) (mg := mg) (base := base) (CA := CA) (CE := CE) F__law_load_told K_Link M_Link_load G_Link_load EMissingUse EUnlawful x_BadValue x_TakenName x_NotClosed e_MU_BV e_MU_TN e_MU_MU e_UL_BV e_UL_TN e_UL_MU e_UL_UL
  exact ok_law (P := l.prog) (w := w) (mg := mg) (base := base) F_law K_Link M_Link_len M_Link_unload M_Link_names h__law_numbers G__law_numbers h__law_name G__law_name G_Link_init h__law_load_told G__law_load_told h__law_so G__law_so G_Link_len h__law_take G__law_take G_Link_unload G_Link_names m_range m_len m_tuple m_sorted ma_Link_len
end Cw

set_option Elab.async false
set_option linter.all false
set_option maxRecDepth 100000
set_option maxHeartbeats 0
namespace Cw
open PySem PySem.Spec PyProof.Rows L2 LamX
/-! ### the head: facts by names -/
theorem intK {K : PySem.W.Frag} {x : Str} {i : Int} (c : (He.Fa.int x i).ok K = true) : ∃ t, PySem.W.nsIn K mainGlobals x = some (some (.int i t)) := by
  have c : (match PySem.W.nsIn K mainGlobals x with
    | some (some (.int m _)) => decide (m = i)
    | _ => false) = true := c
  split at c
  · rename_i j t e
    exact ⟨t, by rw [e, of_decide_eq_true c]⟩
  · cases c
theorem strK {K : PySem.W.Frag} {x z : Str} (c : (He.Fa.str x z).ok K = true) : ∃ t, PySem.W.nsIn K mainGlobals x = some (some (.str z t)) := by
  have c : (match PySem.W.nsIn K mainGlobals x with
    | some (some (.str m _)) => decide (m = z)
    | _ => false) = true := c
  split at c
  · rename_i j t e
    exact ⟨t, by rw [e, of_decide_eq_true c]⟩
  · cases c
theorem methK {K : PySem.W.Frag} {x m : Str} (c : (He.Fa.meth x m).ok K = true) : PySem.W.findIn K (.ref (He.ga K x)) m = some (some (.ref (He.ma K (He.ga K x) m))) ∧ PySem.W.isFn K (.ref (He.ma K (He.ga K x) m)) = true ∧ PySem.W.keepIn K (.ref (He.ma K (He.ga K x) m)) = true := by
  have h := He.meth_ok c
  obtain ⟨h1, h2, h3⟩ := h
  exact ⟨h1, h2, h3⟩
theorem clsK {K : PySem.W.Frag} {x : Str} (c : (He.Fa.cls x).ok K = true) : PySem.W.plainGet K (He.ga K x) Str.empty = true ∧ PySem.W.hasDictIn K (He.ga K x) = true ∧ PySem.W.plainOver K (He.ga K x) = true ∧ PySem.W.findIn K (.ref (He.ga K x)) "__setattr__" = some (some (.builtin "object.__setattr__")) := by
  obtain ⟨h1, h2, h3, h4⟩ := He.cls_ok c
  exact ⟨h1, h2, h3, h4⟩
theorem mkrK {K : PySem.W.Frag} {x : Str} (c : (He.Fa.mkr x).ok K = true) : PySem.W.makesIn K (He.ga K x) = true ∧ PySem.W.keepIn K (.ref (He.ga K x)) = true := by
  obtain ⟨h1, h2, h3, h4⟩ := He.mkr_ok c
  exact ⟨h1, h4⟩
def excB (K : PySem.W.Frag) (C C0 : Addr) : Bool := match K.lookup C with
  | some ⟨.type t, _, .cls cd, sl⟩ => decide (t = "type") && (decide (cd.mro = .ref C :: .ref C0 :: PySem.CwEx.tl3) && (cd.hasDict && (!cd.hasDel && (match sl.toList with
    | [_, _, _, _, some (.builtin n), _] => decide (n = "Exception.__new__")
    | _ => false))))
  | _ => false
theorem excB_of {K : PySem.W.Frag} {C C0 : Addr} (h : excB K C C0 = true) : ∃ nm q N bs sn sub ab col dd k0 k1 k2 k3 k5, K.lookup C = some (PySem.excClassObj nm q C N bs (.ref C0 :: PySem.CwEx.tl3) true sn sub ab col dd k0 k1 k2 k3 k5 "Exception.__new__") := by
  unfold excB at h
  split at h
  · rename_i t dd cd sl e
    obtain ⟨h1, h⟩ := Bool.and_eq_true_iff.mp h
    obtain ⟨h2, h⟩ := Bool.and_eq_true_iff.mp h
    obtain ⟨h3, h⟩ := Bool.and_eq_true_iff.mp h
    obtain ⟨h4, g⟩ := Bool.and_eq_true_iff.mp h
    split at g
    · rename_i k0 k1 k2 k3 n k5 q
      obtain ⟨nm, bs, mro, ns, qn, hdct, sn, sub, ab, col, hdel⟩ := cd
      obtain ⟨l⟩ := sl
      have q : l = [k0, k1, k2, k3, some (.builtin n), k5] := q
      have e2 : mro = .ref C :: .ref C0 :: PySem.CwEx.tl3 := of_decide_eq_true h2
      have e3 : hdct = true := h3
      have e4 : hdel = false := by simpa using h4
      have e5 := of_decide_eq_true g
      have e1 := of_decide_eq_true h1
      subst e1 e2 e3 e4 e5 q
      exact ⟨nm, qn, ns, bs, sn, sub, ab, col, dd, k0, k1, k2, k3, k5, e⟩
    · cases g
  · cases h
theorem bnot {p : Bool} (h : (!p) = true) : p = false := by simpa using h
def fa0 : List He.Fa := [.glo "reached", .keep "reached", .glo "is_integer", .keep "is_integer", .glo "is_sequence", .keep "is_sequence", .glo "are_lower", .keep "are_lower", .glo "is_name", .keep "is_name", .glo "is_class_word", .keep "is_class_word", .glo "is_class_name", .keep "is_class_name", .glo "is_generic_name", .keep "is_generic_name", .glo "plain", .keep "plain", .glo "is_module", .keep "is_module"]
def fa1 : List He.Fa := [.glo "is_expression", .keep "is_expression", .glo "are_all", .keep "are_all", .glo "is_class", .keep "is_class", .glo "is_generic", .keep "is_generic", .glo "is_method", .keep "is_method", .glo "is_named_class", .keep "is_named_class", .glo "form_parts", .keep "form_parts", .glo "is_member", .keep "is_member", .glo "any_place", .keep "any_place", .glo "own_place", .keep "own_place"]
def fa2 : List He.Fa := [.glo "other_place", .keep "other_place", .glo "first_fault", .keep "first_fault", .glo "are_different", .keep "are_different", .glo "check_module", .keep "check_module", .glo "viewed_part", .keep "viewed_part", .glo "bad_call", .keep "bad_call", .glo "check_uses", .keep "check_uses", .glo "check_rules", .keep "check_rules", .glo "_law_so", .keep "_law_so", .glo "_law_numbers", .keep "_law_numbers"]
def fa3 : List He.Fa := [.glo "_law_draw", .keep "_law_draw", .glo "_law_take", .keep "_law_take", .glo "_law_letters", .keep "_law_letters", .glo "_law_name", .keep "_law_name", .glo "_law_reserved", .keep "_law_reserved", .glo "_law_load_told", .keep "_law_load_told", .glo "law", .keep "law", .str "BASE" "base", .glo "BASE_CLASSES", .glo "FORMS", .int "LARGEST" 65535, .str "LOWER" "abcdefghijklmnopqrstuvwxyz", .int "MOST_CLASSES" 6]
def fa4 : List He.Fa := [.int "MOST_EXPRESSIONS" 60, .int "MOST_FIELDS" 3, .int "MOST_GENERICS" 3, .int "MOST_LETTERS" 12, .int "MOST_LEVELS" 7, .int "MOST_METHODS" 8, .int "MOST_MODULES" 12, .int "MOST_PARENTS" 12, .int "MOST_TAKES" 3, .int "MOST_USES" 4, .int "MOST_VALUES" 12, .int "MOST_VIEWED" 6, .glo "RESERVED", .glo "ROWS", .str "UPPER" "ABCDEFGHIJKLMNOPQRSTUVWXYZ", .free "all", .free "bool", .free "enumerate", .free "int", .free "isinstance"]
def fa5 : List He.Fa := [.free "len", .free "list", .free "range", .free "set", .free "sorted", .free "str", .free "tuple", .free "zip", .glo "ClassEntry", .cls "ClassEntry", .mkr "ClassEntry", .noat "ClassEntry" "name", .noat "ClassEntry" "module", .noat "ClassEntry" "is_open", .noat "ClassEntry" "is_abstract", .noat "ClassEntry" "parents", .noat "ClassEntry" "fields", .meth "ClassEntry" "__init__", .glo "Atlas", .cls "Atlas"]
def fa6 : List He.Fa := [.mkr "Atlas", .noat "Atlas" "modules", .noat "Atlas" "classes", .noat "Atlas" "generics", .noat "Atlas" "methods", .noat "Atlas" "_uses", .noat "Atlas" "_parents", .noat "Atlas" "_aboves", .meth "Atlas" "__init__", .meth "Atlas" "enter_classes", .meth "Atlas" "enter_generics", .meth "Atlas" "enter_methods", .meth "Atlas" "view", .meth "Atlas" "part", .glo "Place", .cls "Place", .mkr "Place", .noat "Place" "concrete", .noat "Place" "extended", .meth "Place" "__init__"]
def fa7 : List He.Fa := [.glo "Scope", .cls "Scope", .mkr "Scope", .noat "Scope" "atlas", .noat "Scope" "known", .noat "Scope" "gives", .meth "Scope" "__init__", .glo "Link", .cls "Link", .mkr "Link", .noat "Link" "_modules", .noat "Link" "_atlas", .meth "Link" "__init__", .meth "Link" "load", .meth "Link" "unload", .meth "Link" "names", .meth "Link" "__len__", .glo "class_fault", .glo "generic_fault", .glo "method_fault"]
def fa8 : List He.Fa := [.glo "BadValue", .glo "TakenName", .glo "NotClosed", .glo "MissingUse", .glo "Unlawful", .glo "CallError", .meth "MissingUse" "__init__", .meth "Unlawful" "__init__"]
def fn0 : List He.FnD := [⟨("reached", none), "reached", "reached", defArgs s_reached, defBody s_reached, defScope s_reached⟩, ⟨("is_integer", none), "is_integer", "is_integer", defArgs s_is_integer, defBody s_is_integer, defScope s_is_integer⟩, ⟨("is_sequence", none), "is_sequence", "is_sequence", defArgs s_is_sequence, defBody s_is_sequence, defScope s_is_sequence⟩, ⟨("are_lower", none), "are_lower", "are_lower", defArgs s_are_lower, defBody s_are_lower, defScope s_are_lower⟩, ⟨("is_name", none), "is_name", "is_name", defArgs s_is_name, defBody s_is_name, defScope s_is_name⟩, ⟨("is_class_word", none), "is_class_word", "is_class_word", defArgs s_is_class_word, defBody s_is_class_word, defScope s_is_class_word⟩, ⟨("is_class_name", none), "is_class_name", "is_class_name", defArgs s_is_class_name, defBody s_is_class_name, defScope s_is_class_name⟩, ⟨("is_generic_name", none), "is_generic_name", "is_generic_name", defArgs s_is_generic_name, defBody s_is_generic_name, defScope s_is_generic_name⟩, ⟨("plain", none), "plain", "plain", defArgs s_plain, defBody s_plain, defScope s_plain⟩, ⟨("is_module", none), "is_module", "is_module", defArgs s_is_module, defBody s_is_module, defScope s_is_module⟩, ⟨("is_expression", none), "is_expression", "is_expression", defArgs s_is_expression, defBody s_is_expression, defScope s_is_expression⟩, ⟨("are_all", none), "are_all", "are_all", defArgs s_are_all, defBody s_are_all, defScope s_are_all⟩, ⟨("is_class", none), "is_class", "is_class", defArgs s_is_class, defBody s_is_class, defScope s_is_class⟩, ⟨("is_generic", none), "is_generic", "is_generic", defArgs s_is_generic, defBody s_is_generic, defScope s_is_generic⟩, ⟨("is_method", none), "is_method", "is_method", defArgs s_is_method, defBody s_is_method, defScope s_is_method⟩, ⟨("is_named_class", none), "is_named_class", "is_named_class", defArgs s_is_named_class, defBody s_is_named_class, defScope s_is_named_class⟩, ⟨("form_parts", none), "form_parts", "form_parts", defArgs s_form_parts, defBody s_form_parts, defScope s_form_parts⟩, ⟨("is_member", none), "is_member", "is_member", defArgs s_is_member, defBody s_is_member, defScope s_is_member⟩, ⟨("any_place", none), "any_place", "any_place", defArgs s_any_place, defBody s_any_place, defScope s_any_place⟩, ⟨("own_place", none), "own_place", "own_place", defArgs s_own_place, defBody s_own_place, defScope s_own_place⟩]
def fn1 : List He.FnD := [⟨("other_place", none), "other_place", "other_place", defArgs s_other_place, defBody s_other_place, defScope s_other_place⟩, ⟨("first_fault", none), "first_fault", "first_fault", defArgs s_first_fault, defBody s_first_fault, defScope s_first_fault⟩, ⟨("are_different", none), "are_different", "are_different", defArgs s_are_different, defBody s_are_different, defScope s_are_different⟩, ⟨("check_module", none), "check_module", "check_module", defArgs s_check_module, defBody s_check_module, defScope s_check_module⟩, ⟨("viewed_part", none), "viewed_part", "viewed_part", defArgs s_viewed_part, defBody s_viewed_part, defScope s_viewed_part⟩, ⟨("bad_call", none), "bad_call", "bad_call", defArgs s_bad_call, defBody s_bad_call, defScope s_bad_call⟩, ⟨("check_uses", none), "check_uses", "check_uses", defArgs s_check_uses, defBody s_check_uses, defScope s_check_uses⟩, ⟨("check_rules", none), "check_rules", "check_rules", defArgs s_check_rules, defBody s_check_rules, defScope s_check_rules⟩, ⟨("_law_so", none), "_law_so", "_law_so", defArgs sSo, defBody sSo, defScope sSo⟩, ⟨("_law_numbers", none), "_law_numbers", "_law_numbers", defArgs sNum, defBody sNum, defScope sNum⟩, ⟨("_law_draw", none), "_law_draw", "_law_draw", defArgs sDraw, defBody sDraw, defScope sDraw⟩, ⟨("_law_take", none), "_law_take", "_law_take", defArgs sTake, defBody sTake, defScope sTake⟩, ⟨("_law_letters", none), "_law_letters", "_law_letters", defArgs s__law_letters, defBody s__law_letters, defScope s__law_letters⟩, ⟨("_law_name", none), "_law_name", "_law_name", defArgs s__law_name, defBody s__law_name, defScope s__law_name⟩, ⟨("_law_reserved", none), "_law_reserved", "_law_reserved", defArgs s__law_reserved, defBody s__law_reserved, defScope s__law_reserved⟩, ⟨("_law_load_told", none), "_law_load_told", "_law_load_told", defArgs s__law_load_told, defBody s__law_load_told, defScope s__law_load_told⟩, ⟨("law", none), "law", "law", defArgs s_law, defBody s_law, defScope s_law⟩, ⟨("ClassEntry", some "__init__"), "__init__", "ClassEntry.__init__", defArgs s_ClassEntry_init, defBody s_ClassEntry_init, defScope s_ClassEntry_init⟩, ⟨("Atlas", some "__init__"), "__init__", "Atlas.__init__", defArgs s_Atlas_init, defBody s_Atlas_init, defScope s_Atlas_init⟩, ⟨("Atlas", some "enter_classes"), "enter_classes", "Atlas.enter_classes", defArgs s_Atlas_enter_classes, defBody s_Atlas_enter_classes, defScope s_Atlas_enter_classes⟩]
def fn2 : List He.FnD := [⟨("Atlas", some "enter_generics"), "enter_generics", "Atlas.enter_generics", defArgs s_Atlas_enter_generics, defBody s_Atlas_enter_generics, defScope s_Atlas_enter_generics⟩, ⟨("Atlas", some "enter_methods"), "enter_methods", "Atlas.enter_methods", defArgs s_Atlas_enter_methods, defBody s_Atlas_enter_methods, defScope s_Atlas_enter_methods⟩, ⟨("Atlas", some "view"), "view", "Atlas.view", defArgs s_Atlas_view, defBody s_Atlas_view, defScope s_Atlas_view⟩, ⟨("Atlas", some "part"), "part", "Atlas.part", defArgs s_Atlas_part, defBody s_Atlas_part, defScope s_Atlas_part⟩, ⟨("Place", some "__init__"), "__init__", "Place.__init__", defArgs s_Place_init, defBody s_Place_init, defScope s_Place_init⟩, ⟨("Scope", some "__init__"), "__init__", "Scope.__init__", defArgs s_Scope_init, defBody s_Scope_init, defScope s_Scope_init⟩, ⟨("Link", some "__init__"), "__init__", "Link.__init__", defArgs s_Link_init, defBody s_Link_init, defScope s_Link_init⟩, ⟨("Link", some "load"), "load", "Link.load", defArgs s_Link_load, defBody s_Link_load, defScope s_Link_load⟩, ⟨("Link", some "unload"), "unload", "Link.unload", defArgs s_Link_unload, defBody s_Link_unload, defScope s_Link_unload⟩, ⟨("Link", some "names"), "names", "Link.names", defArgs s_Link_names, defBody s_Link_names, defScope s_Link_names⟩, ⟨("Link", some "__len__"), "__len__", "Link.__len__", defArgs s_Link_len, defBody s_Link_len, defScope s_Link_len⟩, ⟨("MissingUse", some "__init__"), "__init__", "MissingUse.__init__", defArgs s_MissingUse_init, defBody s_MissingUse_init, defScope s_MissingUse_init⟩, ⟨("Unlawful", some "__init__"), "__init__", "Unlawful.__init__", defArgs s_Unlawful_init, defBody s_Unlawful_init, defScope s_Unlawful_init⟩]
def faL : List He.Fa := fa0 ++ fa1 ++ fa2 ++ fa3 ++ fa4 ++ fa5 ++ fa6 ++ fa7 ++ fa8
def fnL : List He.FnD := fn0 ++ fn1 ++ fn2
def exL (K : PySem.W.Frag) : Bool := (excB K (He.ga K "MissingUse") (He.ga K "CallError")) && ((excB K (He.ga K "Unlawful") (He.ga K "CallError")) && ((decide (tupStr K (He.ga K "RESERVED") = some ((reserved).map some))) && ((decide (tupStr K (He.ga K "ROWS") = some (((["values", "arguments"] : List Str)).map some))) && ((formsB K (He.ga K "FORMS")) && ((!(decide ((He.ga K "Place") = (He.ga K "Atlas")))) && ((!(decide ((He.ga K "Place") = (He.ga K "ClassEntry")))) && ((!(decide ((He.ga K "Link") = (He.ga K "Atlas")))) && ((!(decide ((He.ga K "Link") = (He.ga K "ClassEntry")))) && ((baseB K (He.ga K "BASE_CLASSES")) && ((clB K (He.ga K "MissingUse") (He.ma K (He.ga K "MissingUse") "__init__") ["name"]) && ((clB K (He.ga K "Unlawful") (He.ma K (He.ga K "Unlawful") "__init__") ["rule", "at"]) && ((He.eqO (PySem.W.specialIn K (.builtin "object.__class__") "__get__") (some (some (.builtin "getset_descriptor.__get__")))) && ((decide (PySem.W.takesIn K (.builtin "object.__class__") = some true)) && ((exB K (He.ga K "MissingUse") (He.ga K "BadValue") false) && ((exB K (He.ga K "MissingUse") (He.ga K "TakenName") false) && ((exB K (He.ga K "MissingUse") (He.ga K "MissingUse") true) && ((exB K (He.ga K "Unlawful") (He.ga K "BadValue") false) && ((exB K (He.ga K "Unlawful") (He.ga K "TakenName") false) && ((exB K (He.ga K "Unlawful") (He.ga K "MissingUse") false) && ((exB K (He.ga K "Unlawful") (He.ga K "Unlawful") true) && ((!(decide ((He.ga K "is_named_class") = (He.ga K "is_class_name")))) && ((!(decide ((He.ga K "is_class") = (He.ga K "is_name")))) && ((!(decide ((He.ga K "is_generic") = (He.ga K "is_name")))) && ((!(decide ((He.ga K "is_generic") = (He.ga K "is_class")))) && ((!(decide ((He.ga K "is_method") = (He.ga K "is_name")))) && ((!(decide ((He.ga K "is_method") = (He.ga K "is_class")))) && (!(decide ((He.ga K "is_method") = (He.ga K "is_generic"))))))))))))))))))))))))))))))
def tfL : List He.Defn := [("Atlas", some "__init__")]
def dsL : List (Str × List Str) := [("FORMS", formRows.map (·.1))]
theorem end_of {l : PySem.W.OpenLaw} {w : World} {K : PySem.W.Frag} {h : Heap} {mg : Str → Option Value} {fa : Addr} (X : K.In h) (G : h.Ns mainGlobals mg) (hfa : mg "law" = some (.ref fa)) (t : CwHk.Told faL fnL exL tfL dsL w h K) : LawAtS l w K CX0 20 63 "script" mg fa h := by
  obtain ⟨_, _, _, _, _, _, _, _, _, dl_reached, dc_reached⟩ := t.e.def_ 0
  obtain ⟨_, _, _, _, _, _, _, _, _, dl_is_integer, dc_is_integer⟩ := t.e.def_ 1
  obtain ⟨_, _, _, _, _, _, _, _, _, dl_is_sequence, dc_is_sequence⟩ := t.e.def_ 2
  obtain ⟨_, _, _, _, _, _, _, _, _, dl_are_lower, dc_are_lower⟩ := t.e.def_ 3
  obtain ⟨_, _, _, _, _, _, _, _, _, dl_is_name, dc_is_name⟩ := t.e.def_ 4
  obtain ⟨_, _, _, _, _, _, _, _, _, dl_is_class_word, dc_is_class_word⟩ := t.e.def_ 5
  obtain ⟨_, _, _, _, _, _, _, _, _, dl_is_class_name, dc_is_class_name⟩ := t.e.def_ 6
  obtain ⟨_, _, _, _, _, _, _, _, _, dl_is_generic_name, dc_is_generic_name⟩ := t.e.def_ 7
  obtain ⟨_, _, _, _, _, _, _, _, _, dl_plain, dc_plain⟩ := t.e.def_ 8
  obtain ⟨_, _, _, _, _, _, _, _, _, dl_is_module, dc_is_module⟩ := t.e.def_ 9
  obtain ⟨_, _, _, _, _, _, _, _, _, dl_is_expression, dc_is_expression⟩ := t.e.def_ 10
  obtain ⟨_, _, _, _, _, _, _, _, _, dl_are_all, dc_are_all⟩ := t.e.def_ 11
  obtain ⟨_, _, _, _, _, _, _, _, _, dl_is_class, dc_is_class⟩ := t.e.def_ 12
  obtain ⟨_, _, _, _, _, _, _, _, _, dl_is_generic, dc_is_generic⟩ := t.e.def_ 13
  obtain ⟨_, _, _, _, _, _, _, _, _, dl_is_method, dc_is_method⟩ := t.e.def_ 14
  obtain ⟨_, _, _, _, _, _, _, _, _, dl_is_named_class, dc_is_named_class⟩ := t.e.def_ 15
  obtain ⟨_, _, _, _, _, _, _, _, _, dl_form_parts, dc_form_parts⟩ := t.e.def_ 16
  obtain ⟨_, _, _, _, _, _, _, _, _, dl_is_member, dc_is_member⟩ := t.e.def_ 17
  obtain ⟨_, _, _, _, _, _, _, _, _, dl_any_place, dc_any_place⟩ := t.e.def_ 18
  obtain ⟨_, _, _, _, _, _, _, _, _, dl_own_place, dc_own_place⟩ := t.e.def_ 19
  obtain ⟨_, _, _, _, _, _, _, _, _, dl_other_place, dc_other_place⟩ := t.e.def_ 20
  obtain ⟨_, _, _, _, _, _, _, _, _, dl_first_fault, dc_first_fault⟩ := t.e.def_ 21
  obtain ⟨_, _, _, _, _, _, _, _, _, dl_are_different, dc_are_different⟩ := t.e.def_ 22
  obtain ⟨_, _, _, _, _, _, _, _, _, dl_check_module, dc_check_module⟩ := t.e.def_ 23
  obtain ⟨_, _, _, _, _, _, _, _, _, dl_viewed_part, dc_viewed_part⟩ := t.e.def_ 24
  obtain ⟨_, _, _, _, _, _, _, _, _, dl_bad_call, dc_bad_call⟩ := t.e.def_ 25
  obtain ⟨_, _, _, _, _, _, _, _, _, dl_check_uses, dc_check_uses⟩ := t.e.def_ 26
  obtain ⟨_, _, _, _, _, _, _, _, _, dl_check_rules, dc_check_rules⟩ := t.e.def_ 27
  obtain ⟨_, _, _, _, _, _, _, _, _, dl__law_so, dc__law_so⟩ := t.e.def_ 28
  obtain ⟨_, _, _, _, _, _, _, _, _, dl__law_numbers, dc__law_numbers⟩ := t.e.def_ 29
  obtain ⟨_, _, _, _, _, _, _, _, _, dl__law_draw, dc__law_draw⟩ := t.e.def_ 30
  obtain ⟨_, _, _, _, _, _, _, _, _, dl__law_take, dc__law_take⟩ := t.e.def_ 31
  obtain ⟨_, _, _, _, _, _, _, _, _, dl__law_letters, dc__law_letters⟩ := t.e.def_ 32
  obtain ⟨_, _, _, _, _, _, _, _, _, dl__law_name, dc__law_name⟩ := t.e.def_ 33
  obtain ⟨_, _, _, _, _, _, _, _, _, dl__law_reserved, dc__law_reserved⟩ := t.e.def_ 34
  obtain ⟨_, _, _, _, _, _, _, _, _, dl__law_load_told, dc__law_load_told⟩ := t.e.def_ 35
  obtain ⟨_, _, _, _, _, _, _, _, _, dl_law, dc_law⟩ := t.e.def_ 36
  obtain ⟨_, ca_BASE⟩ := strK (t.e.fact 74 (f := .str "BASE" "base"))
  obtain ⟨_, ca_LARGEST⟩ := intK (t.e.fact 77 (f := .int "LARGEST" 65535))
  obtain ⟨_, ca_LOWER⟩ := strK (t.e.fact 78 (f := .str "LOWER" "abcdefghijklmnopqrstuvwxyz"))
  obtain ⟨_, ca_MOST_CLASSES⟩ := intK (t.e.fact 79 (f := .int "MOST_CLASSES" 6))
  obtain ⟨_, ca_MOST_EXPRESSIONS⟩ := intK (t.e.fact 80 (f := .int "MOST_EXPRESSIONS" 60))
  obtain ⟨_, ca_MOST_FIELDS⟩ := intK (t.e.fact 81 (f := .int "MOST_FIELDS" 3))
  obtain ⟨_, ca_MOST_GENERICS⟩ := intK (t.e.fact 82 (f := .int "MOST_GENERICS" 3))
  obtain ⟨_, ca_MOST_LETTERS⟩ := intK (t.e.fact 83 (f := .int "MOST_LETTERS" 12))
  obtain ⟨_, ca_MOST_LEVELS⟩ := intK (t.e.fact 84 (f := .int "MOST_LEVELS" 7))
  obtain ⟨_, ca_MOST_METHODS⟩ := intK (t.e.fact 85 (f := .int "MOST_METHODS" 8))
  obtain ⟨_, ca_MOST_MODULES⟩ := intK (t.e.fact 86 (f := .int "MOST_MODULES" 12))
  obtain ⟨_, ca_MOST_PARENTS⟩ := intK (t.e.fact 87 (f := .int "MOST_PARENTS" 12))
  obtain ⟨_, ca_MOST_TAKES⟩ := intK (t.e.fact 88 (f := .int "MOST_TAKES" 3))
  obtain ⟨_, ca_MOST_USES⟩ := intK (t.e.fact 89 (f := .int "MOST_USES" 4))
  obtain ⟨_, ca_MOST_VALUES⟩ := intK (t.e.fact 90 (f := .int "MOST_VALUES" 12))
  obtain ⟨_, ca_MOST_VIEWED⟩ := intK (t.e.fact 91 (f := .int "MOST_VIEWED" 6))
  obtain ⟨_, ca_UPPER⟩ := strK (t.e.fact 94 (f := .str "UPPER" "ABCDEFGHIJKLMNOPQRSTUVWXYZ"))
  obtain ⟨pg_ClassEntry, hd_ClassEntry, po_ClassEntry, sa_ClassEntry⟩ := clsK (t.e.fact 109 (f := .cls "ClassEntry"))
  obtain ⟨mks_ClassEntry, kc_ClassEntry⟩ := mkrK (t.e.fact 110 (f := .mkr "ClassEntry"))
  obtain ⟨ma_ClassEntry_init, mi_ClassEntry_init, mk_ClassEntry_init⟩ := methK (t.e.fact 117 (f := .meth "ClassEntry" "__init__"))
  obtain ⟨_, _, _, _, _, _, _, _, _, ml_ClassEntry_init, mc_ClassEntry_init⟩ := t.e.def_ 37
  obtain ⟨pg_Atlas, hd_Atlas, po_Atlas, sa_Atlas⟩ := clsK (t.e.fact 119 (f := .cls "Atlas"))
  obtain ⟨mks_Atlas, kc_Atlas⟩ := mkrK (t.e.fact 120 (f := .mkr "Atlas"))
  obtain ⟨ma_Atlas_init, mi_Atlas_init, mk_Atlas_init⟩ := methK (t.e.fact 128 (f := .meth "Atlas" "__init__"))
  obtain ⟨_, _, _, _, _, _, _, cdA, _, ml_Atlas_init, mc_Atlas_init⟩ := t.e.def_ 38
  obtain ⟨ma_Atlas_enter_classes, mi_Atlas_enter_classes, mk_Atlas_enter_classes⟩ := methK (t.e.fact 129 (f := .meth "Atlas" "enter_classes"))
  obtain ⟨_, _, _, _, _, _, _, _, _, ml_Atlas_enter_classes, mc_Atlas_enter_classes⟩ := t.e.def_ 39
  obtain ⟨ma_Atlas_enter_generics, mi_Atlas_enter_generics, mk_Atlas_enter_generics⟩ := methK (t.e.fact 130 (f := .meth "Atlas" "enter_generics"))
  obtain ⟨_, _, _, _, _, _, _, _, _, ml_Atlas_enter_generics, mc_Atlas_enter_generics⟩ := t.e.def_ 40
  obtain ⟨ma_Atlas_enter_methods, mi_Atlas_enter_methods, mk_Atlas_enter_methods⟩ := methK (t.e.fact 131 (f := .meth "Atlas" "enter_methods"))
  obtain ⟨_, _, _, _, _, _, _, _, _, ml_Atlas_enter_methods, mc_Atlas_enter_methods⟩ := t.e.def_ 41
  obtain ⟨ma_Atlas_view, mi_Atlas_view, mk_Atlas_view⟩ := methK (t.e.fact 132 (f := .meth "Atlas" "view"))
  obtain ⟨_, _, _, _, _, _, _, _, _, ml_Atlas_view, mc_Atlas_view⟩ := t.e.def_ 42
  obtain ⟨ma_Atlas_part, mi_Atlas_part, mk_Atlas_part⟩ := methK (t.e.fact 133 (f := .meth "Atlas" "part"))
  obtain ⟨_, _, _, _, _, _, _, _, _, ml_Atlas_part, mc_Atlas_part⟩ := t.e.def_ 43
  obtain ⟨pg_Place, hd_Place, po_Place, sa_Place⟩ := clsK (t.e.fact 135 (f := .cls "Place"))
  obtain ⟨mks_Place, kc_Place⟩ := mkrK (t.e.fact 136 (f := .mkr "Place"))
  obtain ⟨ma_Place_init, mi_Place_init, mk_Place_init⟩ := methK (t.e.fact 139 (f := .meth "Place" "__init__"))
  obtain ⟨_, _, _, _, _, _, _, _, _, ml_Place_init, mc_Place_init⟩ := t.e.def_ 44
  obtain ⟨pg_Scope, hd_Scope, po_Scope, sa_Scope⟩ := clsK (t.e.fact 141 (f := .cls "Scope"))
  obtain ⟨mks_Scope, kc_Scope⟩ := mkrK (t.e.fact 142 (f := .mkr "Scope"))
  obtain ⟨ma_Scope_init, mi_Scope_init, mk_Scope_init⟩ := methK (t.e.fact 146 (f := .meth "Scope" "__init__"))
  obtain ⟨_, _, _, _, _, _, _, _, _, ml_Scope_init, mc_Scope_init⟩ := t.e.def_ 45
  obtain ⟨pg_Link, hd_Link, po_Link, sa_Link⟩ := clsK (t.e.fact 148 (f := .cls "Link"))
  obtain ⟨mks_Link, kc_Link⟩ := mkrK (t.e.fact 149 (f := .mkr "Link"))
  obtain ⟨ma_Link_init, mi_Link_init, mk_Link_init⟩ := methK (t.e.fact 152 (f := .meth "Link" "__init__"))
  obtain ⟨_, _, _, _, _, _, _, _, _, ml_Link_init, mc_Link_init⟩ := t.e.def_ 46
  obtain ⟨ma_Link_load, mi_Link_load, mk_Link_load⟩ := methK (t.e.fact 153 (f := .meth "Link" "load"))
  obtain ⟨_, _, _, _, _, _, _, _, _, ml_Link_load, mc_Link_load⟩ := t.e.def_ 47
  obtain ⟨ma_Link_unload, mi_Link_unload, mk_Link_unload⟩ := methK (t.e.fact 154 (f := .meth "Link" "unload"))
  obtain ⟨_, _, _, _, _, _, _, _, _, ml_Link_unload, mc_Link_unload⟩ := t.e.def_ 48
  obtain ⟨ma_Link_names, mi_Link_names, mk_Link_names⟩ := methK (t.e.fact 155 (f := .meth "Link" "names"))
  obtain ⟨_, _, _, _, _, _, _, _, _, ml_Link_names, mc_Link_names⟩ := t.e.def_ 49
  obtain ⟨ma_Link_len, mi_Link_len, mk_Link_len⟩ := methK (t.e.fact 156 (f := .meth "Link" "__len__"))
  obtain ⟨_, _, _, _, _, _, _, _, _, ml_Link_len, mc_Link_len⟩ := t.e.def_ 50
  obtain ⟨iMU, _, _⟩ := methK (t.e.fact 166 (f := .meth "MissingUse" "__init__"))
  obtain ⟨_, _, _, _, _, _, _, _, _, lfMU, cfMU⟩ := t.e.def_ 51
  obtain ⟨iUL, _, _⟩ := methK (t.e.fact 167 (f := .meth "Unlawful" "__init__"))
  obtain ⟨_, _, _, _, _, _, _, _, _, lfUL, cfUL⟩ := t.e.def_ 52
  obtain ⟨cA, rfl⟩ := He.codeIn_ref mc_Atlas_init
  obtain ⟨hCo, nPT, ePT⟩ := t.c _ (List.mem_singleton.mpr rfl)
  have eA : He.codeOf K ("Atlas", some "__init__") = cA := He.codeOf_eq ml_Atlas_init rfl
  unfold He.cT at hCo nPT ePT
  rw [eA] at hCo nPT ePT
  have d_FORMS := t.d _ (List.mem_singleton.mpr rfl)
  have x0 : exL K = true := t.x
  obtain ⟨y_lMU, x1⟩ := Bool.and_eq_true_iff.mp x0
  obtain ⟨_, _, _, _, _, _, _, _, _, _, _, _, _, _, lMU⟩ := excB_of y_lMU
  obtain ⟨y_lUL, x2⟩ := Bool.and_eq_true_iff.mp x1
  obtain ⟨_, _, _, _, _, _, _, _, _, _, _, _, _, _, lUL⟩ := excB_of y_lUL
  obtain ⟨y_b_RESERVED, x3⟩ := Bool.and_eq_true_iff.mp x2
  obtain ⟨y_b_ROWS, x4⟩ := Bool.and_eq_true_iff.mp x3
  obtain ⟨y_b_FORMS, x5⟩ := Bool.and_eq_true_iff.mp x4
  obtain ⟨y_q_nPA, x6⟩ := Bool.and_eq_true_iff.mp x5
  obtain ⟨y_q_nPE, x7⟩ := Bool.and_eq_true_iff.mp x6
  obtain ⟨y_q_nLA, x8⟩ := Bool.and_eq_true_iff.mp x7
  obtain ⟨y_q_nLE, x9⟩ := Bool.and_eq_true_iff.mp x8
  obtain ⟨y_bBC, x10⟩ := Bool.and_eq_true_iff.mp x9
  obtain ⟨y_bMU, x11⟩ := Bool.and_eq_true_iff.mp x10
  obtain ⟨y_bUL, x12⟩ := Bool.and_eq_true_iff.mp x11
  obtain ⟨y_sg, x13⟩ := Bool.and_eq_true_iff.mp x12
  obtain ⟨y_tk, x14⟩ := Bool.and_eq_true_iff.mp x13
  obtain ⟨y_k_MU_BV, x15⟩ := Bool.and_eq_true_iff.mp x14
  obtain ⟨y_k_MU_TN, x16⟩ := Bool.and_eq_true_iff.mp x15
  obtain ⟨y_k_MU_MU, x17⟩ := Bool.and_eq_true_iff.mp x16
  obtain ⟨y_k_UL_BV, x18⟩ := Bool.and_eq_true_iff.mp x17
  obtain ⟨y_k_UL_TN, x19⟩ := Bool.and_eq_true_iff.mp x18
  obtain ⟨y_k_UL_MU, x20⟩ := Bool.and_eq_true_iff.mp x19
  obtain ⟨y_k_UL_UL, x21⟩ := Bool.and_eq_true_iff.mp x20
  obtain ⟨y_ne_is_named_class_is_class_name, x22⟩ := Bool.and_eq_true_iff.mp x21
  obtain ⟨y_ne_is_class_is_name, x23⟩ := Bool.and_eq_true_iff.mp x22
  obtain ⟨y_ne_is_generic_is_name, x24⟩ := Bool.and_eq_true_iff.mp x23
  obtain ⟨y_ne_is_generic_is_class, x25⟩ := Bool.and_eq_true_iff.mp x24
  obtain ⟨y_ne_is_method_is_name, x26⟩ := Bool.and_eq_true_iff.mp x25
  obtain ⟨y_ne_is_method_is_class, x27⟩ := Bool.and_eq_true_iff.mp x26
  have y_ne_is_method_is_generic := x27
  exact all_mk X G hfa ePT (He.eqO_ok (t.e.fact 0 (f := .glo "reached"))) (dl_reached) (dc_reached) ((t.e.fact 1 (f := .keep "reached"))) (He.eqO_ok (t.e.fact 2 (f := .glo "is_integer"))) (dl_is_integer) (dc_is_integer) ((t.e.fact 3 (f := .keep "is_integer"))) (He.eqO_ok (t.e.fact 4 (f := .glo "is_sequence"))) (dl_is_sequence) (dc_is_sequence) ((t.e.fact 5 (f := .keep "is_sequence"))) (He.eqO_ok (t.e.fact 6 (f := .glo "are_lower"))) (dl_are_lower) (dc_are_lower) ((t.e.fact 7 (f := .keep "are_lower"))) (He.eqO_ok (t.e.fact 8 (f := .glo "is_name"))) (dl_is_name) (dc_is_name) ((t.e.fact 9 (f := .keep "is_name"))) (He.eqO_ok (t.e.fact 10 (f := .glo "is_class_word"))) (dl_is_class_word) (dc_is_class_word) ((t.e.fact 11 (f := .keep "is_class_word"))) (He.eqO_ok (t.e.fact 12 (f := .glo "is_class_name"))) (dl_is_class_name) (dc_is_class_name) ((t.e.fact 13 (f := .keep "is_class_name"))) (He.eqO_ok (t.e.fact 14 (f := .glo "is_generic_name"))) (dl_is_generic_name) (dc_is_generic_name) ((t.e.fact 15 (f := .keep "is_generic_name"))) (He.eqO_ok (t.e.fact 16 (f := .glo "plain"))) (dl_plain) (dc_plain) ((t.e.fact 17 (f := .keep "plain"))) (He.eqO_ok (t.e.fact 18 (f := .glo "is_module"))) (dl_is_module) (dc_is_module) ((t.e.fact 19 (f := .keep "is_module"))) (He.eqO_ok (t.e.fact 20 (f := .glo "is_expression"))) (dl_is_expression) (dc_is_expression) ((t.e.fact 21 (f := .keep "is_expression"))) (He.eqO_ok (t.e.fact 22 (f := .glo "are_all"))) (dl_are_all) (dc_are_all) ((t.e.fact 23 (f := .keep "are_all"))) (He.eqO_ok (t.e.fact 24 (f := .glo "is_class"))) (dl_is_class) (dc_is_class) ((t.e.fact 25 (f := .keep "is_class"))) (He.eqO_ok (t.e.fact 26 (f := .glo "is_generic"))) (dl_is_generic) (dc_is_generic) ((t.e.fact 27 (f := .keep "is_generic"))) (He.eqO_ok (t.e.fact 28 (f := .glo "is_method"))) (dl_is_method) (dc_is_method) ((t.e.fact 29 (f := .keep "is_method"))) (He.eqO_ok (t.e.fact 30 (f := .glo "is_named_class"))) (dl_is_named_class) (dc_is_named_class) ((t.e.fact 31 (f := .keep "is_named_class"))) (He.eqO_ok (t.e.fact 32 (f := .glo "form_parts"))) (dl_form_parts) (dc_form_parts) ((t.e.fact 33 (f := .keep "form_parts"))) (He.eqO_ok (t.e.fact 34 (f := .glo "is_member"))) (dl_is_member) (dc_is_member) ((t.e.fact 35 (f := .keep "is_member"))) (He.eqO_ok (t.e.fact 36 (f := .glo "any_place"))) (dl_any_place) (dc_any_place) ((t.e.fact 37 (f := .keep "any_place"))) (He.eqO_ok (t.e.fact 38 (f := .glo "own_place"))) (dl_own_place) (dc_own_place) ((t.e.fact 39 (f := .keep "own_place"))) (He.eqO_ok (t.e.fact 40 (f := .glo "other_place"))) (dl_other_place) (dc_other_place) ((t.e.fact 41 (f := .keep "other_place"))) (He.eqO_ok (t.e.fact 42 (f := .glo "first_fault"))) (dl_first_fault) (dc_first_fault) ((t.e.fact 43 (f := .keep "first_fault"))) (He.eqO_ok (t.e.fact 44 (f := .glo "are_different"))) (dl_are_different) (dc_are_different) ((t.e.fact 45 (f := .keep "are_different"))) (He.eqO_ok (t.e.fact 46 (f := .glo "check_module"))) (dl_check_module) (dc_check_module) ((t.e.fact 47 (f := .keep "check_module"))) (He.eqO_ok (t.e.fact 48 (f := .glo "viewed_part"))) (dl_viewed_part) (dc_viewed_part) ((t.e.fact 49 (f := .keep "viewed_part"))) (He.eqO_ok (t.e.fact 50 (f := .glo "bad_call"))) (dl_bad_call) (dc_bad_call) ((t.e.fact 51 (f := .keep "bad_call"))) (He.eqO_ok (t.e.fact 52 (f := .glo "check_uses"))) (dl_check_uses) (dc_check_uses) ((t.e.fact 53 (f := .keep "check_uses"))) (He.eqO_ok (t.e.fact 54 (f := .glo "check_rules"))) (dl_check_rules) (dc_check_rules) ((t.e.fact 55 (f := .keep "check_rules"))) (He.eqO_ok (t.e.fact 56 (f := .glo "_law_so"))) (dl__law_so) (dc__law_so) ((t.e.fact 57 (f := .keep "_law_so"))) (He.eqO_ok (t.e.fact 58 (f := .glo "_law_numbers"))) (dl__law_numbers) (dc__law_numbers) ((t.e.fact 59 (f := .keep "_law_numbers"))) (He.eqO_ok (t.e.fact 60 (f := .glo "_law_draw"))) (dl__law_draw) (dc__law_draw) ((t.e.fact 61 (f := .keep "_law_draw"))) (He.eqO_ok (t.e.fact 62 (f := .glo "_law_take"))) (dl__law_take) (dc__law_take) ((t.e.fact 63 (f := .keep "_law_take"))) (He.eqO_ok (t.e.fact 64 (f := .glo "_law_letters"))) (dl__law_letters) (dc__law_letters) ((t.e.fact 65 (f := .keep "_law_letters"))) (He.eqO_ok (t.e.fact 66 (f := .glo "_law_name"))) (dl__law_name) (dc__law_name) ((t.e.fact 67 (f := .keep "_law_name"))) (He.eqO_ok (t.e.fact 68 (f := .glo "_law_reserved"))) (dl__law_reserved) (dc__law_reserved) ((t.e.fact 69 (f := .keep "_law_reserved"))) (He.eqO_ok (t.e.fact 70 (f := .glo "_law_load_told"))) (dl__law_load_told) (dc__law_load_told) ((t.e.fact 71 (f := .keep "_law_load_told"))) (He.eqO_ok (t.e.fact 72 (f := .glo "law"))) (dl_law) (dc_law) ((t.e.fact 73 (f := .keep "law"))) (ca_BASE) (He.eqO_ok (t.e.fact 75 (f := .glo "BASE_CLASSES"))) (He.eqO_ok (t.e.fact 76 (f := .glo "FORMS"))) (ca_LARGEST) (ca_LOWER) (ca_MOST_CLASSES) (ca_MOST_EXPRESSIONS) (ca_MOST_FIELDS) (ca_MOST_GENERICS) (ca_MOST_LETTERS) (ca_MOST_LEVELS) (ca_MOST_METHODS) (ca_MOST_MODULES) (ca_MOST_PARENTS) (ca_MOST_TAKES) (ca_MOST_USES) (ca_MOST_VALUES) (ca_MOST_VIEWED) (He.eqO_ok (t.e.fact 92 (f := .glo "RESERVED"))) (He.eqO_ok (t.e.fact 93 (f := .glo "ROWS"))) (ca_UPPER) (He.eqO_ok (t.e.fact 95 (f := .free "all"))) (He.eqO_ok (t.e.fact 96 (f := .free "bool"))) (He.eqO_ok (t.e.fact 97 (f := .free "enumerate"))) (He.eqO_ok (t.e.fact 98 (f := .free "int"))) (He.eqO_ok (t.e.fact 99 (f := .free "isinstance"))) (He.eqO_ok (t.e.fact 100 (f := .free "len"))) (He.eqO_ok (t.e.fact 101 (f := .free "list"))) (He.eqO_ok (t.e.fact 102 (f := .free "range"))) (He.eqO_ok (t.e.fact 103 (f := .free "set"))) (He.eqO_ok (t.e.fact 104 (f := .free "sorted"))) (He.eqO_ok (t.e.fact 105 (f := .free "str"))) (He.eqO_ok (t.e.fact 106 (f := .free "tuple"))) (He.eqO_ok (t.e.fact 107 (f := .free "zip"))) (of_decide_eq_true y_b_RESERVED) (of_decide_eq_true y_b_ROWS) (y_b_FORMS) (d_FORMS) (He.eqO_ok (t.e.fact 108 (f := .glo "ClassEntry"))) (ma_ClassEntry_init) (mi_ClassEntry_init) (ml_ClassEntry_init) (mc_ClassEntry_init) (mk_ClassEntry_init) (pg_ClassEntry) (hd_ClassEntry) (po_ClassEntry) (sa_ClassEntry) (mks_ClassEntry) (kc_ClassEntry) (He.eqO_ok (t.e.fact 111 (f := .noat "ClassEntry" "name"))) (He.eqO_ok (t.e.fact 112 (f := .noat "ClassEntry" "module"))) (He.eqO_ok (t.e.fact 113 (f := .noat "ClassEntry" "is_open"))) (He.eqO_ok (t.e.fact 114 (f := .noat "ClassEntry" "is_abstract"))) (He.eqO_ok (t.e.fact 115 (f := .noat "ClassEntry" "parents"))) (He.eqO_ok (t.e.fact 116 (f := .noat "ClassEntry" "fields"))) (He.eqO_ok (t.e.fact 118 (f := .glo "Atlas"))) (ma_Atlas_init) (mi_Atlas_init) (ml_Atlas_init) (mc_Atlas_init) (mk_Atlas_init) (ma_Atlas_enter_classes) (mi_Atlas_enter_classes) (ml_Atlas_enter_classes) (mc_Atlas_enter_classes) (mk_Atlas_enter_classes) (ma_Atlas_enter_generics) (mi_Atlas_enter_generics) (ml_Atlas_enter_generics) (mc_Atlas_enter_generics) (mk_Atlas_enter_generics) (ma_Atlas_enter_methods) (mi_Atlas_enter_methods) (ml_Atlas_enter_methods) (mc_Atlas_enter_methods) (mk_Atlas_enter_methods) (ma_Atlas_view) (mi_Atlas_view) (ml_Atlas_view) (mc_Atlas_view) (mk_Atlas_view) (ma_Atlas_part) (mi_Atlas_part) (ml_Atlas_part) (mc_Atlas_part) (mk_Atlas_part) (pg_Atlas) (hd_Atlas) (po_Atlas) (sa_Atlas) (mks_Atlas) (kc_Atlas) (He.eqO_ok (t.e.fact 121 (f := .noat "Atlas" "modules"))) (He.eqO_ok (t.e.fact 122 (f := .noat "Atlas" "classes"))) (He.eqO_ok (t.e.fact 123 (f := .noat "Atlas" "generics"))) (He.eqO_ok (t.e.fact 124 (f := .noat "Atlas" "methods"))) (He.eqO_ok (t.e.fact 125 (f := .noat "Atlas" "_uses"))) (He.eqO_ok (t.e.fact 126 (f := .noat "Atlas" "_parents"))) (He.eqO_ok (t.e.fact 127 (f := .noat "Atlas" "_aboves"))) (He.eqO_ok (t.e.fact 134 (f := .glo "Place"))) (ma_Place_init) (mi_Place_init) (ml_Place_init) (mc_Place_init) (mk_Place_init) (pg_Place) (hd_Place) (po_Place) (sa_Place) (mks_Place) (kc_Place) (He.eqO_ok (t.e.fact 137 (f := .noat "Place" "concrete"))) (He.eqO_ok (t.e.fact 138 (f := .noat "Place" "extended"))) (He.eqO_ok (t.e.fact 140 (f := .glo "Scope"))) (ma_Scope_init) (mi_Scope_init) (ml_Scope_init) (mc_Scope_init) (mk_Scope_init) (pg_Scope) (hd_Scope) (po_Scope) (sa_Scope) (mks_Scope) (kc_Scope) (He.eqO_ok (t.e.fact 143 (f := .noat "Scope" "atlas"))) (He.eqO_ok (t.e.fact 144 (f := .noat "Scope" "known"))) (He.eqO_ok (t.e.fact 145 (f := .noat "Scope" "gives"))) (He.eqO_ok (t.e.fact 147 (f := .glo "Link"))) (ma_Link_init) (mi_Link_init) (ml_Link_init) (mc_Link_init) (mk_Link_init) (ma_Link_load) (mi_Link_load) (ml_Link_load) (mc_Link_load) (mk_Link_load) (ma_Link_unload) (mi_Link_unload) (ml_Link_unload) (mc_Link_unload) (mk_Link_unload) (ma_Link_names) (mi_Link_names) (ml_Link_names) (mc_Link_names) (mk_Link_names) (ma_Link_len) (mi_Link_len) (ml_Link_len) (mc_Link_len) (mk_Link_len) (pg_Link) (hd_Link) (po_Link) (sa_Link) (mks_Link) (kc_Link) (He.eqO_ok (t.e.fact 150 (f := .noat "Link" "_modules"))) (He.eqO_ok (t.e.fact 151 (f := .noat "Link" "_atlas"))) (bnot y_q_nPA) (bnot y_q_nPE) (bnot y_q_nLA) (bnot y_q_nLE) (nPT) (hCo) (y_bBC) (He.eqO_ok (t.e.fact 157 (f := .glo "class_fault"))) (He.eqO_ok (t.e.fact 158 (f := .glo "generic_fault"))) (He.eqO_ok (t.e.fact 159 (f := .glo "method_fault"))) (He.eqO_ok (t.e.fact 163 (f := .glo "MissingUse"))) (lMU) (iMU) (lfMU) (cfMU) (y_bMU) (He.eqO_ok (t.e.fact 164 (f := .glo "Unlawful"))) (lUL) (iUL) (lfUL) (cfUL) (y_bUL) (He.eqO_ok y_sg) (of_decide_eq_true y_tk) (He.eqO_ok (t.e.fact 165 (f := .glo "CallError"))) (He.eqO_ok (t.e.fact 160 (f := .glo "BadValue"))) (He.eqO_ok (t.e.fact 161 (f := .glo "TakenName"))) (He.eqO_ok (t.e.fact 162 (f := .glo "NotClosed"))) (y_k_MU_BV) (y_k_MU_TN) (y_k_MU_MU) (y_k_UL_BV) (y_k_UL_TN) (y_k_UL_MU) (y_k_UL_UL) (bnot y_ne_is_named_class_is_class_name) (bnot y_ne_is_class_is_name) (bnot y_ne_is_generic_is_name) (bnot y_ne_is_generic_is_class) (bnot y_ne_is_method_is_name) (bnot y_ne_is_method_is_class) (bnot y_ne_is_method_is_generic)
end Cw

set_option Elab.async false
set_option linter.all false
set_option maxRecDepth 100000
set_option maxHeartbeats 0
namespace CwOne
open PySem PySem.W PySem.Calls PyProof.Rows
abbrev Rw : OpenRow := OpenLaw.row PySem.Challenge.rw_callwarrant_k32_bounds_of_links
abbrev Vw : Program := view Rw.prog [117]
def other0 : List PySem.Str := ["_wall", "BASE", "INT", "BASE_CLASSES", "ClassEntry", "GenericEntry", "MethodEntry", "Atlas", "reached", "CallError", "BadValue", "NoModule", "TakenName", "MissingUse", "InUse", "NotClosed", "Unlawful", "LOWER", "UPPER", "MOST_LETTERS"]
def other1 : List PySem.Str := ["LARGEST", "RESERVED", "is_integer", "is_sequence", "are_lower", "is_name", "is_class_word", "is_class_name", "is_generic_name", "plain", "MOST_USES", "MOST_CLASSES", "MOST_GENERICS", "MOST_METHODS", "MOST_PARENTS", "MOST_FIELDS", "MOST_TAKES", "MOST_VALUES", "MOST_EXPRESSIONS", "MOST_LEVELS"]
def other2 : List PySem.Str := ["FORMS", "ROWS", "is_module", "is_expression", "are_all", "is_class", "is_generic", "is_method", "is_named_class", "form_parts", "is_member", "parts_of", "has_next", "Ranks", "as_bits", "Sight", "Place", "any_place", "own_place", "other_place"]
def other3 : List PySem.Str := ["least_sights", "highest", "lowest", "Case", "Scope", "type_in", "int_type", "name_type", "next_type", "new_type", "field_type", "call_type", "sign_type", "if_type", "let_type", "fit", "fields_of_objects", "RULES", "first_fault", "class_fault"]
def other4 : List PySem.Str := ["can_extend", "generic_fault", "method_fault", "fits_generic", "classes_of", "are_known", "are_different", "MOST_MODULES", "check_module", "MOST_VIEWED", "viewed_part", "bad_call", "Link", "check_uses", "check_rules", "_law_so", "_law_numbers", "_law_draw", "_law_take", "_law_letters"]
def other5 : List PySem.Str := ["_law_name", "_law_reserved", "_law_load_told"]
def others : List PySem.Str := other0 ++ other1 ++ other2 ++ other3 ++ other4 ++ other5
def adr0 : List Addr := [3, 6, 4, 21, 28, 45, 66, 85, 158, 169, 179, 199, 218, 237, 256, 275, 294, 313, 316, 323]
def adr1 : List Addr := [330, 337, 344, 351, 358, 365, 370, 371, 383, 390, 397, 402, 409, 416, 423, 430, 437, 444, 451, 456]
def adr2 : List Addr := [497, 508, 525, 544, 555, 560, 565, 570, 575, 580, 631, 666, 677, 684, 691, 698, 703, 710, 717, 724]
def adr3 : List Addr := [731, 738, 745, 750, 751, 758, 763, 770, 775, 780, 785, 790, 795, 802, 809, 816, 821, 913, 924, 931]
def adr4 : List Addr := [938, 945, 952, 959, 966, 973, 980, 987, 992, 0, 20, 24, 27, 44, 65, 84, 157, 168, 178, 198]
def adr5 : List Addr := [217, 236, 255, 274, 293, 312, 322, 329, 336, 343, 350, 357, 364, 369, 372, 373, 374, 375, 376, 377]
def adr6 : List Addr := [378, 379, 380, 381, 382, 389, 396, 401, 408, 415, 422, 429, 436, 443, 450, 455, 496, 507, 524, 543]
def adr7 : List Addr := [554, 559, 564, 569, 574, 579, 630, 665, 676, 683, 690, 697, 702, 709, 716, 723, 730, 737, 744, 749]
def adr8 : List Addr := [757, 762, 769, 774, 779, 784, 789, 794, 801, 808, 815, 820, 912, 923, 930, 937, 944, 951, 958, 965]
def adr9 : List Addr := [972, 979, 986, 991, 15, 16, 17, 18, 19, 22, 23, 25, 26, 42, 43, 46, 47, 63, 64, 67]
def adr10 : List Addr := [68, 82, 83, 86, 87, 101, 108, 115, 122, 129, 136, 143, 150, 155, 156, 159, 160, 163, 164, 165]
def adr11 : List Addr := [166, 167, 177, 180, 196, 197, 215, 216, 234, 235, 253, 254, 272, 273, 291, 292, 310, 311, 317, 318]
def adr12 : List Addr := [319, 320, 321, 324, 325, 326, 327, 328, 331, 332, 333, 334, 335, 338, 339, 340, 341, 342, 345, 346]
def adr13 : List Addr := [347, 348, 349, 352, 353, 354, 355, 356, 359, 360, 361, 362, 363, 366, 367, 368, 384, 385, 386, 387]
def adr14 : List Addr := [388, 391, 392, 393, 394, 395, 398, 399, 400, 403, 404, 405, 406, 407, 410, 411, 412, 413, 414, 417]
def adr15 : List Addr := [418, 419, 420, 421, 424, 425, 426, 427, 428, 431, 432, 433, 434, 435, 438, 439, 440, 441, 442, 445]
def adr16 : List Addr := [446, 447, 448, 449, 452, 453, 454, 468, 473, 480, 487, 494, 495, 498, 499, 502, 503, 504, 505, 506]
def adr17 : List Addr := [522, 523, 526, 527, 541, 542, 545, 546, 549, 550, 551, 552, 553, 556, 557, 558, 561, 562, 563, 566]
def adr18 : List Addr := [567, 568, 571, 572, 573, 576, 577, 578, 594, 599, 606, 611, 618, 623, 628, 629, 632, 633, 649, 656]
def adr19 : List Addr := [663, 664, 667, 668, 671, 672, 673, 674, 675, 678, 679, 680, 681, 682, 685, 686, 687, 688, 689, 692]
def adr20 : List Addr := [693, 694, 695, 696, 699, 700, 701, 704, 705, 706, 707, 708, 711, 712, 713, 714, 715, 718, 719, 720]
def adr21 : List Addr := [721, 722, 725, 726, 727, 728, 729, 732, 733, 734, 735, 736, 739, 740, 741, 742, 743, 746, 747, 748]
def adr22 : List Addr := [752, 753, 754, 755, 756, 759, 760, 761, 764, 765, 766, 767, 768, 771, 772, 773, 776, 777, 778, 781]
def adr23 : List Addr := [782, 783, 786, 787, 788, 791, 792, 793, 796, 797, 798, 799, 800, 803, 804, 805, 806, 807, 810, 811]
def adr24 : List Addr := [812, 813, 814, 817, 818, 819, 835, 842, 849, 856, 861, 868, 875, 882, 889, 896, 903, 910, 911, 914]
def adr25 : List Addr := [915, 918, 919, 920, 921, 922, 925, 926, 927, 928, 929, 932, 933, 934, 935, 936, 939, 940, 941, 942]
def adr26 : List Addr := [943, 946, 947, 948, 949, 950, 953, 954, 955, 956, 957, 960, 961, 962, 963, 964, 967, 968, 969, 970]
def adr27 : List Addr := [971, 974, 975, 976, 977, 978, 981, 982, 983, 984, 985, 988, 989, 990, 41, 62, 81, 100, 107, 114]
def adr28 : List Addr := [121, 128, 135, 142, 149, 154, 195, 214, 233, 252, 271, 290, 309, 467, 472, 479, 486, 493, 521, 540]
def adr29 : List Addr := [593, 598, 605, 610, 617, 622, 627, 648, 655, 662, 834, 841, 848, 855, 860, 867, 874, 881, 888, 895]
def adr30 : List Addr := [902, 909, 36, 37, 38, 39, 40, 57, 58, 59, 60, 61, 78, 79, 80, 97, 98, 99, 102, 103]
def adr31 : List Addr := [104, 105, 106, 109, 110, 111, 112, 113, 116, 117, 118, 119, 120, 123, 124, 125, 126, 127, 130, 131]
def adr32 : List Addr := [132, 133, 134, 137, 138, 139, 140, 141, 144, 145, 146, 147, 148, 151, 152, 153, 190, 191, 192, 193]
def adr33 : List Addr := [194, 209, 210, 211, 212, 213, 228, 229, 230, 231, 232, 247, 248, 249, 250, 251, 266, 267, 268, 269]
def adr34 : List Addr := [270, 285, 286, 287, 288, 289, 304, 305, 306, 307, 308, 464, 465, 466, 469, 470, 471, 474, 475, 476]
def adr35 : List Addr := [477, 478, 481, 482, 483, 484, 485, 488, 489, 490, 491, 492, 516, 517, 518, 519, 520, 537, 538, 539]
def adr36 : List Addr := [588, 589, 590, 591, 592, 595, 596, 597, 600, 601, 602, 603, 604, 607, 608, 609, 612, 613, 614, 615]
def adr37 : List Addr := [616, 619, 620, 621, 624, 625, 626, 643, 644, 645, 646, 647, 650, 651, 652, 653, 654, 657, 658, 659]
def adr38 : List Addr := [660, 661, 829, 830, 831, 832, 833, 836, 837, 838, 839, 840, 843, 844, 845, 846, 847, 850, 851, 852]
def adr39 : List Addr := [853, 854, 857, 858, 859, 862, 863, 864, 865, 866, 869, 870, 871, 872, 873, 876, 877, 878, 879, 880]
def adr40 : List Addr := [883, 884, 885, 886, 887, 890, 891, 892, 893, 894, 897, 898, 899, 900, 901, 904, 905, 906, 907, 908]
def adrs : List Addr := adr0 ++ (adr1 ++ (adr2 ++ (adr3 ++ (adr4 ++ (adr5 ++ (adr6 ++ (adr7 ++ (adr8 ++ (adr9 ++ (adr10 ++ (adr11 ++ (adr12 ++ (adr13 ++ (adr14 ++ (adr15 ++ (adr16 ++ (adr17 ++ (adr18 ++ (adr19 ++ (adr20 ++ (adr21 ++ (adr22 ++ (adr23 ++ (adr24 ++ (adr25 ++ (adr26 ++ (adr27 ++ (adr28 ++ (adr29 ++ (adr30 ++ (adr31 ++ (adr32 ++ (adr33 ++ (adr34 ++ (adr35 ++ (adr36 ++ (adr37 ++ (adr38 ++ (adr39 ++ (adr40))))))))))))))))))))))))))))))))))))))))
abbrev hk : Hook := CwHk.hook adrs Cw.faL Cw.fnL Cw.exL Cw.tfL Cw.dsL
def ob (s : SharedT) : CwHk.Seen := CwHk.seen adrs Cw.faL Cw.fnL Cw.exL Cw.tfL Cw.dsL (HandSHeadRun.getT s)
theorem run0 (w : World) : HandSHeadRun.RunEq Rw Vw hk ob 9000 others (w.withFollow "special-get-raises" false) := by
  intro os
  kernel_rfl
theorem run1 (w : World) : HandSHeadRun.RunEq Rw Vw hk ob 9000 others (w.withFollow "special-get-raises" true) := by
  intro os
  kernel_rfl
end CwOne
open PySem PySem.W PySem.Calls PyProof.Rows
theorem PySem.Challenge.cw_callwarrant_k32_bounds_of_links_holds : PySem.Challenge.rw_callwarrant_k32_bounds_of_links.Holds := by
  w_on; o_law
  refine HandSHeadRun.head_any (r := CwOne.Rw) (q := CwOne.Vw) (H := CwOne.hk) (ob := CwOne.ob) (M := 9000) (loose := CwOne.others) (kwd := []) (fun s => CwHk.seen_hook _ _ _ _ _ _ s) (by kernel_rfl) (fun s => by kernel_rfl) (fun w => byRow2 "special-get-raises" (P := fun w => HandSHeadRun.RunEq CwOne.Rw CwOne.Vw CwOne.hk CwOne.ob 9000 CwOne.others w) CwOne.run0 CwOne.run1 w) (by rfl) (by rfl) (by rfl) (by rfl) (by first | assumption | decide +kernel) (by decide +kernel) ⟨rfl, rfl, rfl, rfl, rfl, by decide +kernel⟩ ?hw ?hc
  case hw => w_witness2
  case hc =>
    refine LamX.walk_ofTsE (l := PySem.Challenge.rw_callwarrant_k32_bounds_of_links) (n := 63) (k := 20) (x := "script") (CX := fun _ => L2.CX0) rfl (by decide) rfl ⟨rfl, by decide, by decide⟩ ?F (fun _ _ _ _ _ h => h)
    case F =>
      rintro w mg fa h ⟨K, X, t⟩ G hmg
      exact ⟨K, X, Cw.end_of X G hmg t⟩
