import PyProof.Rows.All
import Wide.All
import OpenK.AllK
import Wide.FinOn
import PyProof.EqAt
import PyProof.EqKinds
import PyProof.TupleCall
import HandS.ForMost
import HandS.ForExc
import HandS.ExcInit
import HandS.ExcIs
import HandS.IsInst
import HandS.Flow
import PySem.Challenge.RW_callwarrant_k00_errors
set_option Elab.async false
set_option linter.all false
set_option maxRecDepth 100000
set_option maxHeartbeats 4000000
/-! # CwEx: exception classes one step below an own class over Exception, each with an `__init__` that stores its arguments. -/
namespace PySem
namespace CwEx
open Builtin Builtin.ObjectAttr PySem.HandSPX
/-- what stands behind the two own classes in the order of search -/
abbrev tl3 : List Value := [.type "Exception", .type "BaseException", .type "object"]
theorem has_iff (CE : Addr) (Y : String) : (Value.ref CE :: tl3).contains (.type Y) = tl3.contains (.type Y) := by
  rw [List.contains_cons]
  rfl
theorem has_obj (C CE : Addr) : (Value.ref C :: Value.ref CE :: tl3).contains (.type "object") = true := by
  rw [List.contains_cons, has_iff, show tl3.contains (Value.type "object") = true from by decide +kernel, Bool.or_true]
theorem pass2 (self : Value) (C CE : Addr) : refuseLoop self "__setattr__" (Value.ref C :: Value.ref CE :: tl3) = pure () := by
  rw [refuseLoop_ref, refuseLoop_ref]
  exact F.store_Exception.passes _
section
variable {prog : Program} {w : World} {A : Around} {E : Value → Shared → Prop} {R : Result → Shared → Prop} {h0 : Heap} {gs : Array GenState} {dr : Drawn} {t : Nat} {os : OsState}
/-- up to the own dict -/
theorem to_dict {K : W.Frag} {fld : Str} {tk : Tok} {val : Value} {x C CE : Addr} {ob : Obj} {od : Option Obj} {cd : ClassData}
    (KX : K.In h0) (J : W.InstAt h0 x ob C od) (hcd : W.clsIn K C = some cd) (hm : cd.mro = .ref C :: .ref CE :: tl3) (hno : W.findIn K (.ref C) fld = some none)
    (go : wpAny (model prog w) A.in1 (storeInOwnDict (.ref x) (.ref C) (.str fld tk) fld val false)
      (fun fin s' => match fin with | .done f => R (.ok f) s' | .again c' => c'.quiet = true ∧ codeAny (model prog w) A c' R s') (fun e s' => R (.error e) s') ⟨h0, gs, dr, t, os⟩) :
    codeAny (model prog w) A (.call (.builtin "object.__setattr__") ⟨[.ref x, .str fld tk, val], []⟩) R ⟨h0, gs, dr, t, os⟩ := by
  have SO := F.store_object
  have inM : W.mroIn K C (.type "object") = some true := by
    unfold W.mroIn
    rw [hcd, Option.bind_some, hm, if_neg (by simp), has_obj]
  have isO : W.Looks (model prog w) h0 (isInstance (.ref x) (.type "object")) true := J.type.andThen (W.looks_mroIn KX inM)
  have row : W.Looks (model prog w) h0 (mroOf (.ref C)) cd.mro := (W.looks_clsIn KX hcd).andThen .now
  have noTk : W.Looks (model prog w) h0 (storeTaker? none) none := .now
  have free : refuseLoop (.ref x) "__setattr__" cd.mro = pure () := by rw [hm]; exact pass2 _ _ _
  refine codeAny_call_builtin SO.slot.plain SO.entry (@W.check_slot (model prog w) _ _ ⟨h0, gs, dr, t, os⟩ "object.__setattr__" "object" "__setattr__" (.ref x) [.str fld tk, val] [] _ SO.kind SO.split isO (SO.args (.ref x) (.str fld tk) val) ?_)
  rw [W.osa_eq, refuse_eq]
  refine wpAny_bind (wpAny_bind (J.type.at (wpAny_bind (row.at ?_))))
  rw [free]
  exact wpAny_pure (wpAny_bind (J.type.at (wpAny_bind ((W.looks_findIn KX hno).at (wpAny_bind (noTk.at go))))))
theorem put_first {K : W.Frag} {fld : Str} {tk : Tok} {val : Value} {x C CE : Addr} {fv : Array Value} {cd : ClassData}
    (KX : K.In h0) (hx : h0.get? x = some { cls := .ref C, data := .fields fv }) (hcd : W.clsIn K C = some cd) (hm : cd.mro = .ref C :: .ref CE :: tl3) (hh : cd.hasDict = true) (hno : W.findIn K (.ref C) fld = some none)
    (go : ∀ h' tk' dx, (∀ b o, b ≠ x → h0.get? b = some o → h'.get? b = some o) → h0.objs.size ≤ dx → dx ≠ x → h'.get? x = some { cls := .ref C, dict := some dx, data := .fields fv } →
      h'.Ns1 dx (fun y => if y = fld then some val else none) → R (.ok (.ret .none)) ⟨h', gs, dr, tk', os⟩) :
    codeAny (model prog w) A (.call (.builtin "object.__setattr__") ⟨[.ref x, .str fld tk, val], []⟩) R ⟨h0, gs, dr, t, os⟩ := by
  have J : W.InstAt h0 x { cls := .ref C, data := .fields fv } C none := ⟨hx, rfl, rfl, trivial⟩
  have apart : x ≠ h0.objs.size := Nat.ne_of_lt (Heap.lt_size hx)
  refine to_dict KX J hcd hm hno ?_
  have lk : W.Looks (model prog w) h0 (classData C) cd := W.looks_clsIn KX hcd
  rcases cd with ⟨c1, c2, c3, c4, c5, c6, c7, c8, c9, c10, c11⟩
  dsimp only at hh
  subst hh
  unfold storeInOwnDict ownDictForStores
  repeat (first | with_reducible refine HandSPX.store_in_new ?_ ?_ | with_reducible refine wpAny_loadPart_at hx ?_ | with_reducible refine lk.at ?_ | wp_step)
  · exact ⟨_, #[], _, (Heap.get?_update_ne _ _ _ _ apart.symm).trans (Heap.get?_push_at rfl rfl), rfl, fun e he => absurd he (by simp), fun _ => rfl⟩
  · intro h' tk' nsd same
    have hx' : (h0.push { cls := .type "dict", data := .dict #[] }).get? x = some { cls := .ref C, data := .fields fv } := Heap.get?_push_of_some _ hx
    refine go h' tk' h0.objs.size (fun b o hb ho => ?_) (Nat.le_refl _) apart.symm ?_ nsd
    · exact (same.2 b (Nat.ne_of_lt (Heap.lt_size ho))).trans ((Heap.get?_update_ne _ _ _ _ hb).trans (Heap.get?_push_of_some _ ho))
    · exact (same.2 x apart).trans (Heap.get?_update_self _ hx' rfl)
theorem put_next {K : W.Frag} {fld : Str} {tk : Tok} {val : Value} {x C CE dx : Addr} {fv : Array Value} {cd : ClassData} {m0 : Str → Option Value} {nl : List Str}
    (KX : K.In h0) (hx : h0.get? x = some { cls := .ref C, dict := some dx, data := .fields fv }) (hns : h0.Ns1 dx m0) (hw : Within m0 nl) (hz : nl.length ≤ 1000) (hcd : W.clsIn K C = some cd) (hm : cd.mro = .ref C :: .ref CE :: tl3) (hh : cd.hasDict = true)
    (hno : W.findIn K (.ref C) fld = some none)
    (go : ∀ h' tk', (∀ b o, b ≠ dx → h0.get? b = some o → h'.get? b = some o) → h'.Ns1 dx (fun y => if y = fld then some val else m0 y) → R (.ok (.ret .none)) ⟨h', gs, dr, tk', os⟩) :
    codeAny (model prog w) A (.call (.builtin "object.__setattr__") ⟨[.ref x, .str fld tk, val], []⟩) R ⟨h0, gs, dr, t, os⟩ := by
  obtain ⟨oD, _, _, hoD, _, _⟩ := hns.count hw
  have J : W.InstAt h0 x { cls := .ref C, dict := some dx, data := .fields fv } C (some oD) := ⟨hx, rfl, rfl, hoD⟩
  refine to_dict KX J hcd hm hno ?_
  have lk : W.Looks (model prog w) h0 (classData C) cd := W.looks_clsIn KX hcd
  rcases cd with ⟨c1, c2, c3, c4, c5, c6, c7, c8, c9, c10, c11⟩
  dsimp only at hh
  subst hh
  unfold storeInOwnDict ownDictForStores
  repeat (first | with_reducible refine PySem.OEX.store_in_old hns hw hz ?_ | with_reducible refine wpAny_loadPart_at hx ?_ | with_reducible refine lk.at ?_ | wp_step)
  intro h' tk' nsd same
  exact go h' tk' (fun b o hb ho => (same.2 b hb).trans ho) nsd
end
end CwEx
end PySem

set_option Elab.async false
set_option linter.all false
set_option maxRecDepth 100000
set_option maxHeartbeats 4000000
/-! ## the call of such a class, by place and by name -/
namespace PySem
namespace CwEx
open Builtin Builtin.ObjectAttr PySem.HandSPX
section
variable {M : Model} {A : Around} {E : Value → Shared → Prop} {h0 : Heap} {gs : Array GenState} {dr : Drawn} {t : Nat} {os : OsState}
variable {cn cq : Str} {C CE N : Addr} {bs : List Value} {hdct : Bool} {sn : List Str} {sub : List Value} {ab : Bool} {col : Option Bool} {dd : Option Addr} {k0 k1 k2 k3 k5 : Option Value}
variable {args : List Value} {kws : List (Str × Value)}
theorem kw_check_type {Q : Unit → Shared → Prop} (hC : h0.get? C = some (excClassObj cn cq C N bs (.ref CE :: tl3) hdct sn sub ab col dd k0 k1 k2 k3 k5 "Exception.__new__"))
    (go : Q () ⟨h0, gs, dr, t, os⟩) : wpAny M A (checkBuiltinCall "type.__call__" ⟨.ref C :: args, kws⟩) Q E ⟨h0, gs, dr, t, os⟩ := by
  have subT := tc_sub
  have isT : (⟨h0, gs, dr, t, os⟩ : Shared).TypeIs (.ref C) "type" := ⟨_, hC, rfl⟩
  simp only [checkBuiltinCall, tc_kind, tc_split]
  repeat (any_goals (first | assumption | with_reducible refine wpAny_loadPart_at hC ?_ | with_reducible refine wpAny_onRaise ?_ | with_reducible refine wpAny_map ?_ | wp_step))
theorem kw_check_new {Q : Unit → Shared → Prop} (hC : h0.get? C = some (excClassObj cn cq C N bs (.ref CE :: tl3) hdct sn sub ab col dd k0 k1 k2 k3 k5 "Exception.__new__"))
    (go : Q () ⟨h0, gs, dr, t, os⟩) : wpAny M A (checkBuiltinCall "Exception.__new__" ⟨.ref C :: args, kws⟩) Q E ⟨h0, gs, dr, t, os⟩ := by
  have F := F.excBase_Exception
  have holds : (Value.ref C :: Value.ref CE :: tl3).contains (.type "Exception") = true := by rw [List.contains_cons, has_iff, F.hasB, Bool.or_true]
  have star := F.noStar
  simp only [checkBuiltinCall, F.newKind, F.newSplit, F.newRow]
  repeat (first | refine wpAny_loadPart_at hC ?_ | (refine wpAny_isSubtype_exc hC ?_; rw [holds]) | refine wpAny_staticBase_exc hC ?_ | refine wpAny_madeBy_exc hC ?_ | simp only [bne_self_eq_false, Bool.false_eq_true, if_false] | wp_step)
  exact go
end
section
variable {prog : Program} {w : World} {A : Around} {E : Value → Shared → Prop} {R : Result → Shared → Prop} {h0 : Heap} {gs : Array GenState} {dr : Drawn} {t : Nat} {os : OsState}
variable {cn cq : Str} {C CE N : Addr} {bs : List Value} {hdct : Bool} {sn : List Str} {sub : List Value} {ab : Bool} {col : Option Bool} {dd : Option Addr} {k0 k1 k2 k3 k5 : Option Value}
variable {args : List Value} {kws : List (Str × Value)}
theorem kw_new (hC : h0.get? C = some (excClassObj cn cq C N bs (.ref CE :: tl3) hdct sn sub ab col dd k0 k1 k2 k3 k5 "Exception.__new__"))
    (go : R (.ok (.ret (.ref (h0.objs.size + 1)))) ⟨(h0.push (W.kdv_tup args)).push (excO C h0.objs.size), gs, dr, t, os⟩) (few : args.length ≤ sizeLine) :
    codeAny (model prog w) A (.builtin "Exception.__new__" ⟨.ref C :: args, kws⟩) R ⟨h0, gs, dr, t, os⟩ := by
  have F := F.excBase_Exception
  have ends := F.ends
  have has1 : (Value.ref C :: Value.ref CE :: tl3).contains (.type "Exception") = true := by rw [List.contains_cons, has_iff, F.hasB, Bool.or_true]
  have has2 : (Value.ref C :: Value.ref CE :: tl3).contains (.type "AttributeError") = false := by rw [List.contains_cons, has_iff, F.noAttr] <;> rfl
  have has3 : (Value.ref C :: Value.ref CE :: tl3).contains (.type "NameError") = false := by rw [List.contains_cons, has_iff, F.noName] <;> rfl
  refine codeAny_builtinAt F.entry ?_
  unfold Builtin.«BaseException.__new__»
  refine wpAt_bind ?_
  show wpAt _ _ _ (stack >>= _) _ _ _
  refine wpAt_bind (wpAt_stack fun p below => wpAt_of_wpAny ?_)
  wp_walk
  refine wpAt_of_wpAny ?_
  rw [F.owner]
  repeat (first | with_reducible refine wpAny_madeHere_exc F.canon hC ?_ | with_reducible refine wpAny_loadPart_at hC ?_ | (with_reducible refine wpAny_isSubtype_exc hC ?_; first | rw [has1] | rw [has2] | rw [has3]) | wp_step)
  show R _ _
  rw [Heap.size_push]
  exact go
theorem kw_type_call {fI : Addr} {Q : Fin → Shared → Prop} (hC : h0.get? C = some (excClassObj cn cq C N bs (.ref CE :: tl3) hdct sn sub ab col dd k0 k1 k2 k3 k5 "Exception.__new__"))
    (hi : W.Looks (model prog w) h0 (typeLookup (.ref C) "__init__") (some (.ref fI))) (hb : ∀ self, W.Looks (model prog w) h0 (bindSpecial (.ref fI) self) (.ref fI, [self])) (few : args.length ≤ sizeLine)
    (go : codeAny (model prog w) A (.call (.ref fI) ⟨.ref (h0.objs.size + 1) :: args, kws⟩)
      (fun r s' => match r with | .ok (.ret v) => v = .none ∧ Q (.done (.ret (.ref (h0.objs.size + 1)))) s' | .ok _ => False | .error e => E e s')
      ⟨(h0.push (W.kdv_tup args)).push (excO C h0.objs.size), gs, dr, t, os⟩) :
    wpAny (model prog w) A (Builtin.«type.__call__» ⟨.ref C :: args, kws⟩) Q E ⟨h0, gs, dr, t, os⟩ := by
  have Fe := F.excBase_Exception
  repeat (first | with_reducible refine wpAny_loadPart_at hC ?_ | with_reducible refine wpAny_madeBy_exc hC ?_ | wp_step)
  refine codeAny_call_builtin_code (Code.quiet_builtin _ Fe.quiet) (kw_check_new hC ?_)
  refine kw_new hC ?_ few
  show wpAny _ _ _ _ _ _
  have grow : ∀ b o, h0.get? b = some o → ((h0.push (W.kdv_tup args)).push (excO C h0.objs.size)).get? b = some o := fun b o e => Heap.get?_push_of_some _ (Heap.get?_push_of_some _ e)
  have hC1 := grow _ _ hC
  have got : ((h0.push (W.kdv_tup args)).push (excO C h0.objs.size)).get? (h0.objs.size + 1) = some (excO C h0.objs.size) := by heap_get
  have self1 : (Value.ref C :: Value.ref CE :: tl3).contains (.ref C) = true := by simp
  have lk1 := hi.keeps grow
  have bd1 := (hb (.ref (h0.objs.size + 1))).keeps grow
  unfold isInstance
  repeat (first | with_reducible refine wpAny_loadPart_at got ?_ | (with_reducible refine wpAny_isSubtype_exc hC1 ?_; rw [self1]) | wp_step)
  show wpAny _ _ (typeLookup (.ref C) _) _ _ _
  refine lk1.at ?_
  refine wpAny_holding (wpAny_bind (bd1.at ?_))
  refine wpAny_bind (wpAny_call (codeAny_mono go fun r s' z => ?_))
  rcases r with e | (v | _ | _ | _) <;> first | exact z | exact z.elim | skip
  obtain ⟨rfl, z⟩ := z
  first
    | exact wpAny_pure (wpAny_pure z)
    | (wp_walk; exact z)
theorem kw_call {fI : Addr} (hC : h0.get? C = some (excClassObj cn cq C N bs (.ref CE :: tl3) hdct sn sub ab col dd k0 k1 k2 k3 k5 "Exception.__new__"))
    (hi : W.Looks (model prog w) h0 (typeLookup (.ref C) "__init__") (some (.ref fI))) (hb : ∀ self, W.Looks (model prog w) h0 (bindSpecial (.ref fI) self) (.ref fI, [self])) (few : args.length ≤ sizeLine)
    (go : codeAny (model prog w) (A.under (.builtin "type.__call__" ⟨.ref C :: args, kws⟩)) (.call (.ref fI) ⟨.ref (h0.objs.size + 1) :: args, kws⟩) (W.InitBack (h0.objs.size + 1) R)
      ⟨(h0.push (W.kdv_tup args)).push (excO C h0.objs.size), gs, dr, t, os⟩) :
    codeAny (model prog w) A (.call (.ref C) ⟨args, kws⟩) R ⟨h0, gs, dr, t, os⟩ := by
  have lkT := tc_lookup
  have bdT := tc_bind (.ref C)
  have isT : (⟨h0, gs, dr, t, os⟩ : Shared).TypeIs (.ref C) "type" := ⟨_, hC, rfl⟩
  refine codeAny_of_tree ?_
  show wpAny _ _ (callAny (.ref C) _) _ _ _
  repeat (any_goals (first | assumption | with_reducible refine wpAny_loadPart_at hC ?_ | wp_step))
  refine ⟨rfl, ?_⟩
  refine codeAny_call_builtin_at (Code.quiet_builtin _ (by decide +kernel)) entry_typeCall (kw_check_type hC (kw_type_call hC hi hb few ?_))
  refine codeAny_mono go fun r s' z => ?_
  rcases r with e | (v | _ | _ | _) <;> exact z
end
end CwEx
end PySem

set_option Elab.async false
set_option linter.all false
set_option maxRecDepth 100000
set_option maxHeartbeats 4000000
/-! ## the rules: self.f = e in an `__init__`, C(..) as a value, e.f, isinstance -/
namespace PySem.CwEx
open PySem PySem.Spec PySem.Calls PyProof.Rows PySem.W
section
variable {prog : Program} {w : World} {A : Around} {E : Value → Shared → Prop} {s : Shared} {K : Frag} {x D : Addr} {ob : Obj} {od : Option Obj}
theorem bound_of_class {C : Addr} {nm : Str} {a g : Value} (hc : (clsIn K C).isSome = true) (ha : findIn K (.ref C) nm = some (some a)) (hg : specialIn K a "__get__" = some (some g)) (ht : takesIn K a = some true) : findObj K C od nm = some (.bind g a) := by
  obtain ⟨cd, e⟩ := Option.isSome_iff_exists.mp hc
  unfold findObj
  simp [e, ha, hg, ht]
/-- e.__class__ of an exception, with a dict or without -/
theorem class_of_exc {Q : Option Value → Shared → Prop} (g1 : findIn K (.ref D) "__getattribute__" = some (some (.builtin "BaseException.__getattribute__"))) (g2 : findIn K (.ref D) "__getattr__" = some none) (g3 : subIn K (.ref D) (.type "BaseException") = some true)
    (g4 : hasDictIn K D = true) (g5 : findIn K (.ref D) "__class__" = some (some (.builtin "object.__class__")))
    (g6 : specialIn K (.builtin "object.__class__") "__get__" = some (some (.builtin "getset_descriptor.__get__"))) (g7 : takesIn K (.builtin "object.__class__") = some true) (g8 : mroIn K D (.type "object") = some true)
    (KX : K.In s.heap) (J : InstAt s.heap x ob D od) (go : Q (some (.ref D)) { s with toks := s.toks + 1 }) : wpAny (model prog w) A (getAttr? (.ref x) "__class__") Q E s := by
  have found : findObj K D od "__class__" = some (.bind (.builtin "getset_descriptor.__get__") (.builtin "object.__class__")) := bound_of_class (by obtain ⟨cd, hc, _⟩ := any_some g4; rw [hc]; rfl) g5 g6 g7
  obtain ⟨h0, gs, dr, t, os⟩ := s
  have T0 := J.type (M := model prog w)
  have T1 := looks_findIn (M := model prog w) KX g1
  have T2 := looks_findIn (M := model prog w) KX g2
  have T3 := looks_find (M := model prog w) KX J found
  have isB : Looks (model prog w) h0 (isInstance (.ref x) (.type "BaseException")) true := T0.andThen (looks_subIn KX g3)
  have n2 : (Value.builtin "BaseException.__getattribute__" == Value.builtin "object.__getattribute__") = false := by decide +kernel
  have n1 : (onTheHeap (Value.ref D) && Value.builtin "BaseException.__getattribute__" == Value.builtin "object.__getattribute__") = false := by rw [n2] <;> rfl
  have n0 : (false && onTheHeap (Value.builtin "BaseException.__getattribute__")) = false := rfl
  have n3 : onTheHeap (Value.ref D) = true := rfl
  unfold getAttr? getAttrBy? getAttrBy
  refine wpAny_bind (wpAny_mkText (wpAny_bind (wpAny_attempt (wpAny_holding (wpAny_bind (T0.at (wpAny_bind (T1.at ?_))))))))
  show wpAny _ _ (if (onTheHeap (Value.ref D) && Value.builtin "BaseException.__getattribute__" == Value.builtin "object.__getattribute__") = true then _ else _) _ _ ⟨h0, gs, dr, t + 1, os⟩
  rw [n1, if_neg Bool.false_ne_true]
  unfold getAttrByItsOwn hookBefore
  refine wpAny_bind ?_
  rw [if_pos n3]
  refine T2.at (wpAny_bind (wpAny_attempt (wpAny_holding ?_)))
  unfold callGetattribute
  rw [n0, if_neg Bool.false_ne_true]
  unfold boundAndCalled
  rw [PySem.F.attr_Exception.ga.bind (.ref x)]
  refine wpAny_bind (wpAny_pure ?_)
  show wpAny _ _ (call (.builtin "BaseException.__getattribute__") [.ref x, .str "__class__" t]) _ _ ⟨h0, gs, dr, t + 1, os⟩
  refine wpAny_call (codeAny_call_builtin PySem.F.attr_Exception.ga.plain PySem.F.entry_bexc_ga (@check_slot (model prog w) _ _ ⟨h0, gs, dr, t + 1, os⟩ "BaseException.__getattribute__" "BaseException" "__getattribute__" (.ref x) [.str "__class__" t] [] _
    (by decide +kernel) (by decide +kernel) isB (PySem.F.args_bexc_ga (.ref x) (.str "__class__" t)) ?_))
  unfold Builtin.«object.__getattribute__»
  refine wpAny_bind (wpAny_of_eq (a := ((Value.ref x : Value), [Value.str "__class__" t])) (by first | rfl | (simp only [slotArgs]; rfl)) ?_)
  refine wpAny_bind (wpAny_pure (wpAny_bind (T0.at (wpAny_bind (T3.at ?_)))))
  show wpAny _ _ (holding [Value.builtin "object.__class__"] (call (.builtin "getset_descriptor.__get__") [.builtin "object.__class__", .ref x, .ref D]) >>= ret) _ _ ⟨h0, gs, dr, t + 1, os⟩
  refine wpAny_bind (wpAny_holding (wpAny_call (class_get (s := ⟨h0, gs, dr, t + 1, os⟩) (ox := ob) (od := od) KX J g8 ?_)))
  refine wpAny_pure ?_
  show wpAny _ _ (handedOut (.ref D)) _ _ ⟨h0, gs, dr, t + 1, os⟩
  rw [handedOut_of (v := .ref D) rfl]
  first
    | exact wpAny_pure (wpAny_pure go)
    | exact wpAny_pure go
    | exact wpAny_pure (wpAny_bind (wpAny_pure (wpAny_pure go)))
theorem kit_exc (g1 : findIn K (.ref D) "__getattribute__" = some (some (.builtin "BaseException.__getattribute__"))) (g2 : findIn K (.ref D) "__getattr__" = some none) (g3 : subIn K (.ref D) (.type "BaseException") = some true)
    (g4 : hasDictIn K D = true) (g5 : findIn K (.ref D) "__class__" = some (some (.builtin "object.__class__")))
    (g6 : specialIn K (.builtin "object.__class__") "__get__" = some (some (.builtin "getset_descriptor.__get__"))) (g7 : takesIn K (.builtin "object.__class__") = some true) (g8 : mroIn K D (.type "object") = some true) :
    KitX K (.ref x) (.ref D) (fun h => InstAt h x ob D od) where
  ty := fun _ _ _ J => J.type
  it := fun _ _ KX _ => by
    obtain ⟨cd, hc, _⟩ := any_some g4
    unfold clsIn at hc
    split at hc
    · rename_i ho
      intro A' Q' E' s' keep q
      unfold isType loadHead
      exact wpAny_bind (wpAny_loadPart (keep _ _ (KX _ _ ho)) (wpAny_pure q))
    · cases hc
  ne := fun h tp d its n sl KX htp => by
    obtain ⟨cd, hc, _⟩ := any_some g4
    refine Bool.eq_false_iff.mpr fun q => ?_
    have e : D = tp := Value.ref.inj (beq_iff_eq.mp q)
    subst e
    unfold clsIn at hc
    split at hc
    · rename_i ho
      cases (KX _ _ ho).symm.trans htp
    · cases hc
  ca := fun KX J go => class_of_exc g1 g2 g3 g4 g5 g6 g7 g8 KX J go
end
end PySem.CwEx

set_option Elab.async false
set_option linter.all false
set_option maxRecDepth 100000
set_option maxHeartbeats 4000000
namespace PySem.CwEx
open PySem PySem.Spec PySem.W
/-- what the written part must say of such a class (at C, over the one at CE) -/
structure CexC (K : Frag) (C CE : Addr) : Prop where
  cls : ∃ nm q N bs sn sub ab col dd k0 k1 k2 k3 k5, K.lookup C = some (excClassObj nm q C N bs (.ref CE :: tl3) true sn sub ab col dd k0 k1 k2 k3 k5 "Exception.__new__")
  sa : findIn K (.ref C) "__setattr__" = some (some (.builtin "object.__setattr__"))
  ga : findIn K (.ref C) "__getattribute__" = some (some (.builtin "BaseException.__getattribute__"))
  gg : findIn K (.ref C) "__getattr__" = some none
  cl : findIn K (.ref C) "__class__" = some (some (.builtin "object.__class__"))
  sg : specialIn K (.builtin "object.__class__") "__get__" = some (some (.builtin "getset_descriptor.__get__"))
  tk : takesIn K (.builtin "object.__class__") = some true
  mo : mroIn K C (.type "object") = some true
  exC : subIn K (.ref C) (.type "BaseException") = some true
  tyC : typeIn K (.ref C) = some (.type "type")
  hdC : hasDictIn K C = true
  kC : keepIn K (.ref C) = true
theorem CexC.data {K : Frag} {C CE : Addr} (T : CexC K C CE) : ∃ cd, clsIn K C = some cd ∧ cd.mro = .ref C :: .ref CE :: tl3 ∧ cd.hasDict = true := by
  obtain ⟨nm, q, N, bs, sn, sub, ab, col, dd, k0, k1, k2, k3, k5, hC⟩ := T.cls
  exact ⟨{ name := nm, bases := bs, mro := .ref C :: .ref CE :: tl3, ns := N, qualname := q, hasDict := true, slotNames := sn, subclasses := sub, abstract := ab, collection := col, hasDel := false }, by unfold clsIn; rw [hC] <;> rfl, rfl, rfl⟩
end PySem.CwEx
namespace L2
open PySem PySem.Spec PyProof.Rows PySem.CwEx
section
variable {X : Cx} {pins : List (Addr × Obj)} {σ : St} {H : Hp} {s : Shared} {a C CE dx : Addr} {f : Str} {y : V} {u : Value} {fs : List (Str × V)} {Q : Unit → Shared → Prop} {E : Value → Shared → Prop} {A : Around}
theorem cx_first (T : CexC X.K C CE) (I : Inv X pins σ H s) (e : H a = some (exo a C none)) (hno : PySem.W.findIn X.K (.ref C) f = some none) (ry : RelV y u)
    (go : ∀ dx s', H dx = none → dx ≠ a → Inv X pins σ (upd (upd H dx (exd dx [(f, y)])) a (exo a C (some dx))) s' → Q () s') : wpAny (model X.prog X.w) A (setAttr (.ref a) f u) Q E s := by
  obtain ⟨cd, hcd, hm, hh⟩ := T.data
  obtain ⟨t1, ho⟩ := exo_at I.hok e
  obtain ⟨h0, gs, dr, t, os⟩ := s
  refine PySem.W.set_plain I.kIn (ox := { cls := .ref C, dict := none, data := .fields #[.ref t1, .none, .none, .none, .bool false, .none] }) (od := none) ⟨ho, rfl, rfl, trivial⟩ T.sa ?_
  refine put_first I.kIn ho hcd hm hh hno fun h' tk' dx keep dn dne hx hn => ?_
  have gone : H dx = none := I.hok.fresh dn
  have off : ∀ {b : Addr} {o : Obj}, h0.get? b = some o → b ≠ dx := fun {b o} q => Nat.ne_of_lt (Nat.lt_of_lt_of_le (Heap.lt_size q) dn)
  have offa : ∀ {b : Addr}, H b = none → b ≠ a := fun {b} n z => by rw [z, e] at n; cases n
  have un1 : Un X.fs [] H (upd (upd H dx (exd dx [(f, y)])) a (exo a C (some dx))) h0 h' :=
    ⟨fun b o q n _ _ => keep b o (offa n) q, fun b o q n _ _ => ⟨o.slots, keep b o (offa n) q⟩, fun b o q n _ => by rw [upd_ne (offa n), upd_ne (off q)]; exact n,
     fun b o q _ => by
       by_cases hb : b = a
       · subst hb; exact ⟨_, hx⟩
       · exact ⟨o, keep b o hb q⟩,
     fun b xs q => by rw [upd_ne (at_ne e q exo_tup), upd_ne (ne_of_none q gone)]; exact q,
     fun b o v q => by rw [upd_ne (at_ne e q exo_frz), upd_ne (ne_of_none q gone)]; exact q,
     fun b ps q => ⟨#[], by rw [upd_ne (at_ne e q exo_tbl), upd_ne (ne_of_none q gone), q]; simp⟩⟩
  refine go dx _ gone dne (I.un (t' := tk') un1 fun b o q => ?_)
  by_cases hb : b = a
  · subst hb
    rw [upd_same] at q
    cases q
    exact exo_ok hx
  · rw [upd_ne hb] at q
    by_cases hd : b = dx
    · subst hd
      rw [upd_same] at q
      cases q
      exact exd_ok hn (relO_put (fs := []) ry fun g => True.intro)
    · rw [upd_ne hd] at q
      refine (I.hok b o q).stay (fun c v hc z => keep c v ?_ z) (fun c hc => ?_) fun c xs hc => ?_
      · rcases hc with hc | hc
        · rw [hc]; exact hb
        · exact at_ne e hc exo_own
      · rw [upd_ne (at_ne e hc exo_own), upd_ne (ne_of_none hc gone)]; exact hc
      · rw [upd_ne (at_ne e hc exo_tup), upd_ne (ne_of_none hc gone)]; exact hc
theorem cx_next (T : CexC X.K C CE) (I : Inv X pins σ H s) (e : H a = some (exo a C (some dx))) (ed : H dx = some (exd dx fs)) (hl : fs.length ≤ 900) (hno : PySem.W.findIn X.K (.ref C) f = some none) (ry : RelV y u)
    (go : ∀ s', Inv X pins σ (upd H dx (exd dx ((f, y) :: fs))) s' → Q () s') : wpAny (model X.prog X.w) A (setAttr (.ref a) f u) Q E s := by
  obtain ⟨cd, hcd, hm, hh⟩ := T.data
  obtain ⟨t1, ho⟩ := exo_at I.hok e
  obtain ⟨mA, hns, rel⟩ := exd_at I.hok ed
  have inside := within_of rel
  obtain ⟨h0, gs, dr, t, os⟩ := s
  obtain ⟨oD, _, _, hoD, _, _⟩ := hns.count inside
  refine PySem.W.set_plain I.kIn (ox := { cls := .ref C, dict := some dx, data := .fields #[.ref t1, .none, .none, .none, .bool false, .none] }) (od := some oD) ⟨ho, rfl, rfl, hoD⟩ T.sa ?_
  refine put_next I.kIn ho hns inside (by rw [List.length_map]; omega) hcd hm hh hno fun h' tk' keep hn => ?_
  have there : ∃ o, h'.get? dx = some o := by obtain ⟨o, _, _, e', _⟩ := hn; exact ⟨o, e'⟩
  exact go _ (I.write (t' := tk') (x := dx) (e := dx) (o := exd dx ((f, y) :: fs)) (by rw [ed]; exact True.intro) (.inl rfl) keep there (exd_ok hn (relO_put ry rel)))
end
/-! ### self.f = e -/
/-- the first one: the exception at a gets its dict -/
def tX1 (K : PySem.W.Frag) (f : Str) (to te : TE) : TS := fun D σ H => te σ H fun y H1 => to σ H1 fun x H2 => ∃ a C CE : Addr, x = .ref a ∧ CexC K C CE ∧ PySem.W.findIn K (.ref C) f = some none ∧
  ((H2 a = some (exo a C none) ∧ ∀ dx, H2 dx = none → dx ≠ a → D.nx σ (upd (upd H2 dx (exd dx [(f, y)])) a (exo a C (some dx)))) ∨
    ∃ (dx : Addr) (fs : List (Str × V)), H2 a = some (exo a C (some dx)) ∧ H2 dx = some (exd dx fs) ∧ fs.length ≤ 900 ∧ D.nx σ (upd H2 dx (exd dx ((f, y) :: fs))))
section
variable {X : Cx} {CX : CXT} {k n : Nat} {o e : Expr} {es : List Expr} {kws : List Keyword} {to te : TE} {ta tk : TA} {f x : Str} {p p' pos : Pos} {C CE fI : Addr} {fd : FuncData} {ps ks : List Str} {sp : Sp}
theorem ps_x1 (ho : PE X o to) (he : PE X e te) (hs : swapsWith e (some (.Attribute o f p')) pos.line X.env = pure false := by rfl) : PS X (.Assign [.Attribute o f p'] e pos) (tX1 X.K f to te) := by
  refine ⟨fun pins s σ H D I h => ?_⟩
  refine plainObj_wpAny_Assign_Attribute (thn (he.run pins s σ H _ I h) fun v s1 ⟨y, H1, I1, r1, q1⟩ => thn (ho.run pins s1 σ H1 _ I1 q1) fun u s2 ⟨z, H2, I2, r2, a, C, CE, ez, T, hno, q⟩ => ?_) hs
  subst ez
  obtain rfl : u = Value.ref a := r2
  rcases q with ⟨ea, q⟩ | ⟨dx, fs, ea, ed, hl, q⟩
  · exact cx_first T I2 ea hno r1 fun dx s' n ne J => ⟨σ, _, J, q dx n ne⟩
  · exact cx_next T I2 ea ed hl hno r1 fun s' J => ⟨σ, _, J, q⟩
/-! ### C(..) as a value -/
theorem run_cx {pins : List (Addr × Obj)} {σ : St} {H : Hp} {s : Shared} {Q : VK} {us bs : List Value} {bv : List V → List V} {kw : List (Str × Value)} (T : CexC X.K C CE) (iC : PySem.W.findIn X.K (.ref C) "__init__" = some (some (.ref fI))) (tI : PySem.W.typeIn X.K (.ref fI) = some (.type "function"))
    (F : FnOk X.prog X.w X.K X.mg X.base CX k fI fd ps sp) (hr : Room (k + 1) X.A) (few : us.length ≤ sizeLine) (hx : Passes CX X (fun _ _ _ => False)) (I : Inv X pins σ H s)
    (hb : ∀ (s' : Shared) (a : Addr), X.K.In s'.heap → BindsTo s' fd ⟨.ref a :: us, kw⟩ (ps.zip (.ref a :: bs))) (rb : ∀ a : Addr, Vals (bv [.ref a]) (.ref a :: bs))
    (h : ∀ a, H a = none → sp (bv [.ref a]) (upd H a (exo a C none)) (fun v H2 => v = .non ∧ Q (.ref a) H2) (fun _ _ _ => False)) :
    wpAny (model X.prog X.w) X.A (call (.ref C) us kw) (EP X pins σ Q) X.xe s := by
  obtain ⟨nm, q, N, bs', sn, sub, ab, col, dd, k0, k1, k2, k3, k5, hC⟩ := T.cls
  obtain ⟨h0, gs, dr, t, os⟩ := s
  have far : h0.objs.size ≤ h0.objs.size + 1 := Nat.le_succ _
  have gone : H (h0.objs.size + 1) = none := I.hok.fresh far
  have hq := h (h0.objs.size + 1) gone
  have grow : ∀ b o, h0.get? b = some o → ((h0.push (PySem.W.kdv_tup us)).push (PySem.HandSPX.excO C h0.objs.size)).get? b = some o := fun b o e => Heap.get?_push_of_some _ (Heap.get?_push_of_some _ e)
  have got : ((h0.push (PySem.W.kdv_tup us)).push (PySem.HandSPX.excO C h0.objs.size)).get? (h0.objs.size + 1) = some (PySem.HandSPX.excO C h0.objs.size) := by heap_get
  have I2 : Inv X pins σ (upd H (h0.objs.size + 1) (exo (h0.objs.size + 1) C none)) ⟨(h0.push (PySem.W.kdv_tup us)).push (PySem.HandSPX.excO C h0.objs.size), gs, dr, t, os⟩ :=
    I.laid (t' := t) (a := h0.objs.size + 1) (o := exo (h0.objs.size + 1) C none) grow far (exo_ok got)
  refine wpAny_call (kw_call (I.kIn _ _ hC) (PySem.W.looks_findIn I.kIn iC) (fun self => PySem.W.bind_fn I.kIn self tI) few
    (codeAny_mono (F.run _ X.stack _ _ ⟨Value.ref (h0.objs.size + 1) :: us, kw⟩ (Value.ref (h0.objs.size + 1) :: bs) _ _ (fun _ _ _ => False) (hr.make C us kw) (I2.env0.make C us kw) (hb _ _ I2.kIn) (rb _) hq) fun r s' hq' => ?_))
  cases r with
  | error er => exact hx pins σ _ _ er s' I2 hq'
  | ok fl =>
    cases fl with
    | ret u =>
      obtain ⟨v, H2, I3, rv, ev, q3⟩ := I2.after hq'
      subst ev
      exact ⟨rv, ⟨V.ref (h0.objs.size + 1), H2, I3, rfl, q3⟩⟩
    | next => exact False.elim hq'
    | brk => exact False.elim hq'
    | cont => exact False.elim hq'
/-- C(e, ..) -/
def tMkX (C : Addr) (sp : Sp) (ta : TA) : TE := fun σ H Q => ta σ H fun vs H1 => vs.length ≤ 1000 ∧ ∀ a, H1 a = none → sp (.ref a :: vs) (upd H1 a (exo a C none)) (fun v H2 => v = .non ∧ Q (.ref a) H2) (fun _ _ _ => False)
/-- C(k = e, ..) -/
def tMkXk (C : Addr) (sp : Sp) (gV : List V → List V → List V) (tk : TA) : TE := fun σ H Q => tk σ H fun zs H1 => ∀ a, H1 a = none → sp (gV [.ref a] zs) (upd H1 a (exo a C none)) (fun v H2 => v = .non ∧ Q (.ref a) H2) (fun _ _ _ => False)
theorem pe_mkX (T : CexC X.K C CE) (iC : PySem.W.findIn X.K (.ref C) "__init__" = some (some (.ref fI))) (tI : PySem.W.typeIn X.K (.ref fI) = some (.type "function")) (F : FnOk X.prog X.w X.K X.mg X.base CX k fI fd ps sp) (hr : Room (k + 1) X.A)
    (hb : Binds X.K fd ps []) (hx : Passes CX X (fun _ _ _ => False)) (hg : Gl X x) (hm : X.mg x = some (.ref C)) (ha : PA X (e :: es) ta)
    (hdb : (x == ("__debug__" : Str)) = false := by decide) (he : starEach (e :: es) X.env = (false, eval e X.env) :: starEach es X.env := by rfl) (hpl : (backTo pos (starEach es X.env)).any (·.1) = false := by rfl) :
    PE X (.Call (.Name x p) (e :: es) [] pos) (tMkX C sp ta) := by
  refine ⟨fun pins s σ H Q I h => ?_⟩
  refine wpAny_Call_Name_kw (ld_glob I hg hm ?_ hdb)
  refine PySem.W.callWith_K (h₀ := X.base) I.ok.mod.kin T.kC (thn (ha.run pos pins s σ H _ I h) fun us s1 ⟨vs, H1, I1, r1, hz, q1⟩ => ⟨I1.kIn, ?_⟩) he hpl
  have r2 : ∀ a : Addr, Vals (V.ref a :: vs) (Value.ref a :: us) := fun a => .cons rfl r1
  have big := I1.hok.fresh (Nat.le_refl s1.heap.objs.size)
  have l1 := F.len _ _ _ _ (q1 _ big)
  show wpAny _ _ (call (Value.ref C) us []) _ _ s1
  refine run_cx (bv := fun l => l ++ vs) (bs := us) T iC tI F hr (by rw [← Paired.length r1, sizeLine_eq]; omega) hx I1 (fun s' a KX => ?_) r2 q1
  have hl : ((Value.ref a :: us) ++ ([] : List Value)).length = ps.length := by
    rw [List.append_nil, ← l1]
    exact congrArg Nat.succ (Paired.length r1).symm
  have z := hb s' (.ref a :: us) KX hl
  rw [List.append_nil] at z
  exact z
theorem pe_mkXk {g : List Value → List Value → List Value} {gV : List V → List V → List V} (T : CexC X.K C CE) (iC : PySem.W.findIn X.K (.ref C) "__init__" = some (some (.ref fI))) (tI : PySem.W.typeIn X.K (.ref fI) = some (.type "function")) (F : FnOk X.prog X.w X.K X.mg X.base CX k fI fd ps sp) (hr : Room (k + 1) X.A)
    (hb : ∀ (s : Shared) (a : Addr) (ws : List Value), X.K.In s.heap → (g [.ref a] ws).length = ps.length → BindsTo s fd ⟨[.ref a], ks.zip ws⟩ (ps.zip (g [.ref a] ws))) (gh : ∀ a ws, g [.ref a] ws = .ref a :: (g [.ref a] ws).tail) (gt : ∀ a b ws, (g [.ref a] ws).tail = (g [.ref b] ws).tail)
    (rel : ∀ {vs zs : List V} {us ws : List Value}, Vals vs us → Vals zs ws → Vals (gV vs zs) (g us ws)) (hx : Passes CX X (fun _ _ _ => False)) (hg : Gl X x) (hm : X.mg x = some (.ref C)) (hkw : PK X kws tk)
    (hall : (backToKw pos (keywordEach kws X.env)).all (·.1.isSome) = true := by rfl) (hks : (backToKw pos (keywordEach kws X.env)).filterMap (·.1) = ks := by rfl)
    (hdb : (x == ("__debug__" : Str)) = false := by decide) (hpl : ((backTo pos (starEach [] X.env)).any (·.1) || (backToKw pos (keywordEach kws X.env)).any (·.1.isNone)) = false := by rfl) :
    PE X (.Call (.Name x p) [] kws pos) (tMkXk C sp gV tk) := by
  refine ⟨fun pins s σ H Q I h => ?_⟩
  refine wpAny_Call_Name_kw (ld_glob I hg hm ?_ hdb)
  refine PySem.W.callWith_KW0 (h₀ := X.base) I.ok.mod.kin T.kC hall (thn (hkw.run pos pins s σ H _ I h) fun ws s1 ⟨zs, H1, I1, rz, q1⟩ => ⟨I1.kIn, ?_⟩) hpl
  rw [hks]
  have rl : ∀ a : Addr, Vals (gV [.ref a] zs) (g [.ref a] ws) := fun a => rel (.cons rfl .nil) rz
  have big := I1.hok.fresh (Nat.le_refl s1.heap.objs.size)
  have l1 := F.len _ _ _ _ (q1 _ big)
  show wpAny _ _ (call (Value.ref C) [] (ks.zip ws)) _ _ s1
  refine run_cx (bv := fun l => gV l zs) (us := []) (bs := (g [.ref 0] ws).tail) T iC tI F hr (Nat.zero_le _) hx I1 (fun s' a KX => ?_) (fun a => ?_) q1
  · have e : Value.ref a :: (g [.ref 0] ws).tail = g [.ref a] ws := by rw [gt 0 a ws]; exact (gh a ws).symm
    rw [e]
    refine hb s' a ws KX ?_
    have e1 := (rl a).length
    have e2 := (rl s1.heap.objs.size).length
    have e3 : (g [.ref a] ws).length = (g [.ref s1.heap.objs.size] ws).length := by rw [gh a ws, gh s1.heap.objs.size ws, List.length_cons, List.length_cons, gt a s1.heap.objs.size ws]
    rw [e3, ← e2]
    exact l1
  · have e : Value.ref a :: (g [.ref 0] ws).tail = g [.ref a] ws := by rw [gt 0 a ws]; exact (gh a ws).symm
    rw [e]
    exact rl a
/-! ### e.f of such an exception -/
def tXf2 (K : PySem.W.Frag) (te : TE) (f : Str) : TE := fun σ H Q => te σ H fun x H1 => ∃ (a C CE d : Addr) (fs : List (Str × V)) (v : V), x = .ref a ∧ CexC K C CE ∧ PySem.W.findIn K (.ref C) f = some none ∧ H1 a = some (exo a C (some d)) ∧ H1 d = some (exd d fs) ∧ fs.lookup f = some v ∧ Q v H1
theorem pe_xf2 (he : PE X e te) (hb : attributeBase e f X.env (eval e X.env) = eval e X.env := by rfl) : PE X (.Attribute e f pos) (tXf2 X.K te f) := by
  refine ⟨fun pins s σ H Q I h => ?_⟩
  refine attr_of hb (thn (he.run pins s σ H _ I h) fun u s1 hh => ?_)
  obtain ⟨z, H1, I1, rz, a, C, CE, d, fs, v, ez, T, hno, ea, ed, l, q⟩ := hh
  subst ez
  obtain rfl : u = Value.ref a := rz
  obtain ⟨t1, ho⟩ := exo_at I1.hok ea
  obtain ⟨mA, hns, rel⟩ := exd_at I1.hok ed
  obtain ⟨od, hd, hl⟩ := lookIn_ns hns
  obtain ⟨u, hu, ru⟩ := RelO.some_of (v := v) (o := mA f) (by rw [← l]; exact rel f)
  have J : PySem.W.InstAt s1.heap a { cls := .ref C, dict := some d, data := .fields #[.ref t1, .none, .none, .none, .bool false, .none] } C (some od) := ⟨ho, rfl, rfl, hd⟩
  exact HandSPX.exc_get I1.kIn J T.ga T.gg T.exC (PySem.W.findObj_own T.hdC hno rfl (by rw [hl, hu])) (handed_of ru) ⟨v, H1, I1.tok _, ru, q⟩
/-! ### isinstance(e, c), one class -/
def rIsX (K : PySem.W.Frag) : List V → Hp → VK → Prop := fun xs H Q => ∃ (a C CE d : Addr) (c : V) (u : Value) (b : Bool), xs = [.ref a, c] ∧ ClsV c u ∧ CexC K C CE ∧ H a = some (exo a C (some d)) ∧ (∃ fs, H d = some (exd d fs)) ∧ PySem.W.kitOne K (.ref C) u = some b ∧ Q (.bl b) H
theorem call_isX : CallR X (.builtin "isinstance") (rIsX X.K) := by
  intro pins s σ H xs us Q I r h
  obtain ⟨a, C, CE, d, c, u, b, rfl, hc, T, ea, ⟨fs, ed⟩, e, q⟩ := h
  obtain ⟨u1, u2, rfl, r1, r2⟩ := vals2 r
  have e2 := hc.eq r2
  subst e2
  obtain rfl : u1 = Value.ref a := r1
  obtain ⟨t1, ho⟩ := exo_at I.hok ea
  obtain ⟨mA, hns, rel⟩ := exd_at I.hok ed
  obtain ⟨od, hd, hl⟩ := lookIn_ns hns
  have J : PySem.W.InstAt s.heap a { cls := .ref C, dict := some d, data := .fields #[.ref t1, .none, .none, .none, .bool false, .none] } C (some od) := ⟨ho, rfl, rfl, hd⟩
  exact PySem.W.kia_one (kit_exc T.ga T.gg T.exC T.hdC T.cl T.sg T.tk T.mo) I.kIn J e (fun z => nomatch z) fun tk => ⟨.bl b, H, I.tok tk, rfl, q⟩
end
end L2

set_option Elab.async false
set_option linter.all false
set_option maxRecDepth 100000
set_option maxHeartbeats 4000000
namespace L2
open PySem PySem.Spec PyProof.Rows PySem.CwEx
section
variable {X : Cx} {CX : CXT} {k n : Nat} {o e : Expr} {es : List Expr} {ta : TA} {x : Str} {p pos : Pos} {C CE fI : Addr} {fd : FuncData} {ps : List Str} {sp : Sp}
/-- C(e, ..), to be raised: the exception is let go, its dict stays -/
theorem pmk_cx (T : CexC X.K C CE) (iC : PySem.W.findIn X.K (.ref C) "__init__" = some (some (.ref fI))) (tI : PySem.W.typeIn X.K (.ref fI) = some (.type "function")) (F : FnOk X.prog X.w X.K X.mg X.base CX k fI fd ps sp) (hr : Room (k + 1) X.A)
    (hb : Binds X.K fd ps []) (hx : Passes CX X (fun _ _ _ => False)) (hg : Gl X x) (hm : X.mg x = some (.ref C)) (ha : PA X (e :: es) ta)
    (hdb : (x == ("__debug__" : Str)) = false := by decide) (he : starEach (e :: es) X.env = (false, eval e X.env) :: starEach es X.env := by rfl) (hpl : (backTo pos (starEach es X.env)).any (·.1) = false := by rfl) :
    PMk X (.Call (.Name x p) (e :: es) [] pos) (tMkO C sp [] ta) := by
  intro pins s σ H Q I h
  obtain ⟨nm, q, N, bs', sn, sub, ab, col, dd, k0, k1, k2, k3, k5, hC⟩ := T.cls
  refine wpAny_Call_Name_kw (ld_glob I hg hm ?_ hdb)
  refine PySem.W.callWith_K (h₀ := X.base) I.ok.mod.kin T.kC (thn (ha.run pos pins s σ H _ I h) fun us s1 ⟨vs, H1, I1, r1, hz, q1⟩ => ⟨I1.kIn, ?_⟩) he hpl
  show wpAny _ _ (call (Value.ref C) us []) _ _ s1
  obtain ⟨h0, gs, dr, t, os⟩ := s1
  have far : h0.objs.size ≤ h0.objs.size + 1 := Nat.le_succ _
  have gone : H1 (h0.objs.size + 1) = none := I1.hok.fresh far
  have hq := q1 (h0.objs.size + 1) gone
  rw [List.append_nil] at hq
  have grow : ∀ b o, h0.get? b = some o → ((h0.push (PySem.W.kdv_tup us)).push (PySem.HandSPX.excO C h0.objs.size)).get? b = some o := fun b o e => Heap.get?_push_of_some _ (Heap.get?_push_of_some _ e)
  have got : ((h0.push (PySem.W.kdv_tup us)).push (PySem.HandSPX.excO C h0.objs.size)).get? (h0.objs.size + 1) = some (PySem.HandSPX.excO C h0.objs.size) := by heap_get
  have I2 : Inv X pins σ (upd H1 (h0.objs.size + 1) (exo (h0.objs.size + 1) C none)) ⟨(h0.push (PySem.W.kdv_tup us)).push (PySem.HandSPX.excO C h0.objs.size), gs, dr, t, os⟩ :=
    I1.laid (t' := t) (a := h0.objs.size + 1) (o := exo (h0.objs.size + 1) C none) grow far (exo_ok got)
  have l1 := F.len _ _ _ _ hq
  have r2 : Vals (V.ref (h0.objs.size + 1) :: vs) (Value.ref (h0.objs.size + 1) :: us) := .cons rfl r1
  have few : us.length ≤ sizeLine := by rw [← Paired.length r1, sizeLine_eq]; omega
  have bind1 : BindsTo ⟨(h0.push (PySem.W.kdv_tup us)).push (PySem.HandSPX.excO C h0.objs.size), gs, dr, t, os⟩ fd ⟨.ref (h0.objs.size + 1) :: us, []⟩ (ps.zip (.ref (h0.objs.size + 1) :: us)) := by
    have z := hb _ (.ref (h0.objs.size + 1) :: us) I2.kIn (by rw [List.append_nil, ← l1]; exact congrArg Nat.succ (Paired.length r1).symm)
    rw [List.append_nil] at z
    exact z
  refine wpAny_call (kw_call (I1.kIn _ _ hC) (PySem.W.looks_findIn I1.kIn iC) (fun self => PySem.W.bind_fn I1.kIn self tI) few
    (codeAny_mono (F.run _ X.stack _ _ ⟨Value.ref (h0.objs.size + 1) :: us, []⟩ (Value.ref (h0.objs.size + 1) :: us) _ _ (fun _ _ _ => False) (hr.make C us []) (I2.env0.make C us []) bind1 r2 hq) fun r s' hq' => ?_))
  cases r with
  | error er => exact hx pins σ _ _ er s' I2 hq'
  | ok fl =>
    cases fl with
    | ret u =>
      obtain ⟨v, H2, os2, bare2, un2, hok2, rv, ev, d, fs, ea, ed, hd1, q2⟩ := hq'
      subst ev
      obtain ⟨h2, g2, d2, t2, os'⟩ := s'
      exact ⟨rv, mk_end (raises_own T.exC T.tyC) I1 far grow un2 hok2 os2 bare2 ea ed hd1 q2⟩
    | next => exact False.elim hq'
    | brk => exact False.elim hq'
    | cont => exact False.elim hq'
/-- isinstance(e, c), e the exception that the suite holds, its dict at d -/
def rIsH (K : PySem.W.Frag) (cls : Value) (d : Option Addr) (a : Addr) : List V → Hp → VK → Prop := fun xs H Q => ∃ (c : V) (u : Value) (C CE dd : Addr) (b : Bool), xs = [.ref a, c] ∧ ClsV c u ∧ cls = .ref C ∧ CexC K C CE ∧ d = some dd ∧ (∃ fs, H dd = some (.xd fs)) ∧ PySem.W.kitOne K (.ref C) u = some b ∧ Q (.bl b) H
theorem call_isH {a : Addr} {cls : Value} {d : Option Addr} {oe : Obj} {pn : List (Addr × Obj)} (hz : Zc cls d oe) (hf : ∃ vs, oe.data = .fields vs) : CallR (X.suite a ((a, oe) :: pn)) (.builtin "isinstance") (rIsH X.K cls d a) := by
  intro pins s σ H xs us Q I r h
  obtain ⟨c, u, C, CE, dd, b, rfl, hc, ec, T, ed, ⟨fs, hx⟩, e, q⟩ := h
  subst ec
  subst ed
  obtain ⟨u1, u2, rfl, r1, r2⟩ := vals2 r
  have e2 := hc.eq r2
  subst e2
  obtain rfl : u1 = Value.ref a := r1
  obtain ⟨there, _⟩ := I.pin (a, oe) (List.mem_append.mpr (.inl List.mem_cons_self))
  obtain ⟨vs, hv⟩ := hf
  have hx' : ObjOk X.prog X.w H s.heap dd (.xd fs) := I.hok dd _ hx
  obtain ⟨mA, hns, _⟩ := hx'
  obtain ⟨od, ho, _⟩ := lookIn_ns hns
  have J : PySem.W.InstAt s.heap a oe C (some od) := ⟨there, hz.1, by unfold PySem.W.notCls; rw [hv] <;> rfl, by rw [hz.2]; exact ho⟩
  exact PySem.W.kia_one (kit_exc T.ga T.gg T.exC T.hdC T.cl T.sg T.tk T.mo) I.kIn J e (fun z => nomatch z) fun tk => ⟨.bl b, H, I.kept (t' := tk) fun _ _ z => z, rfl, q⟩
end
end L2

set_option Elab.async false
set_option linter.all false
set_option maxRecDepth 100000
set_option maxHeartbeats 4000000
namespace Cw
open PySem PySem.Spec PyProof.Rows L2
def topS (i : Nat) : Stmt := PySem.Challenge.pw_callwarrant_k00_errors.main.body.getD i (.Pass ⟨0, 0, 0, 0⟩)
abbrev sNum : Stmt := topS 16
theorem scNum : FnScope ["script", "row", "cell", "left", "k", "mixed"] ["script"] (defScope sNum) := ⟨rfl, rfl, rfl, by decide +kernel, rfl, by decide +kernel, by decide +kernel⟩
theorem same_upd {H : Hp} {p : Addr} {o : HO} (h : H p = none) : Same H (upd H p o) := fun b x e => by
  rw [upd_ne (ne_of_none e h)]
  exact e
/-- H' keeps what H tracks, p (new to H) apart -/
theorem same_mut {H H' : Hp} {p : Addr} {o : HO} (s : Same H H') (h : H p = none) : Same H (upd H' p o) := fun b x e => by
  rw [upd_ne (ne_of_none e h)]
  exact s b x e
def spNum (K : PySem.W.Frag) : Sp := fun vs H Q _ => ∃ (a : Addr) (ns : List Int), vs = [.ref a] ∧ SqL K H a (ns.map V.int) ∧ ns.length ≤ 63 ∧
  ∀ H' p (row : List Int), Same H H' → H p = none → H' p = some (.lst (row.map V.int)) → row ≠ [] → row.length ≤ 4000 → Q (.ref p) H'
section
variable {P : Program} {w : World} {K : PySem.W.Frag} {mg : Str → Option Value} {base : Heap}
theorem ok_num {f : Addr} {fd : FuncData} {k : Nat} (F : Fun K "_law_numbers" "_law_numbers" sNum f fd) (mr : mg "range" = none) (mi : mg "int" = none) (ml : mg "len" = none) : FnOk P w K mg base CX0 (k + 1) f fd ["script"] (spNum K) := by
  refine F.ok scNum (fun vs H Q E h => ?_) (fun cdv A outer s H vs Q E hr h => ?_)
  · obtain ⟨a, ns, rfl, _⟩ := h
    rfl
  · obtain ⟨a, ns, rfl, hS, hlen, q⟩ := h
    refine ⟨_, pss_cons (ps_set (i := 1) scNum.nd rfl (.inl rfl) (pe_lst pa_nil))
      (pss_cons (ps_for PassesOwn.never rfl (pi_list (pe_slice sl_list (pv 0) po_none (po_some pe_int))) (pg_name (i := 2) scNum.nd rfl (.inl rfl))
        (pss_one (ps_if (pt_cmpR op_ge (pv 2) (pe_op op_pow pe_int pe_int) (nomark _))
          (pss_cons (ps_set (i := 3) scNum.nd rfl (.inl rfl) (pv 2))
            (pss_one (ps_for PassesOwn.never rfl (pi_range1 rfl mr (pa_cons pe_int pa_nil)) (pg_name (i := 4) scNum.nd rfl (.inl rfl))
              (pss_cons (ps_if (pt_cmpR op_eq (pv 3) pe_int (nomark _)) (pss_one ps_break) pss_nil)
              (pss_cons (ps_expr (pe_bm PySem.F.plainAttrs_list PySem.F.slot_list_append PySem.F.type_list_append mt_append (pv 1) (pa_cons (pe_op op_mod (pe_callTy call_int1 (by rfl) mi (by decide +kernel) (pa_cons (pv 3) pa_nil)) pe_int) pa_nil)))
              (pss_one (ps_set (i := 3) scNum.nd rfl (.inl rfl) (pe_op op_fdiv (pv 3) pe_int))))))))
          (pss_one (ps_for PassesOwn.never rfl (pi_range1 rfl mr (pa_cons pe_int pa_nil)) (pg_name (i := 4) scNum.nd rfl (.inl rfl))
              (pss_cons (ps_set (i := 5) scNum.nd rfl (.inl rfl) (pe_op op_mod (pe_callTy call_int1 (by rfl) mi (by decide +kernel) (pa_cons (pe_op op_add (pe_op op_add (pe_op op_mul (pv 2) pe_int) (pe_op op_mul (pv 4) pe_int)) pe_int) pa_nil)) pe_int))
              (pss_one (ps_expr (pe_bm PySem.F.plainAttrs_list PySem.F.slot_list_append PySem.F.type_list_append mt_append (pv 1) (pa_cons (pe_op op_mod (pe_callTy call_int1 (by rfl) mi (by decide +kernel) (pa_cons (pe_op op_add (pe_op op_mul (pv 5) pe_int) (pv 4)) pa_nil)) pe_int) pa_nil))))))))))
      (pss_cons (ps_if (pt_cmpR op_eq (pe_callB call_len_seq (by rfl) ml PySem.boot_len (pa_cons (pv 1) pa_nil)) pe_int (nomark _)) (pss_one (ps_expr (pe_bm PySem.F.plainAttrs_list PySem.F.slot_list_append PySem.F.type_list_append mt_append (pv 1) (pa_cons pe_int pa_nil)))) pss_nil)
      (pss_one (ps_ret (pv 1))))), ?_⟩
    refine ⟨Nat.zero_le _, fun o no => ?_⟩
    have s1 : Same H (upd H o (.lst [])) := same_upd no
    have cut : ∃ ms : List Int, cutV (ns.map V.int) none (some 63) = ms.map V.int ∧ ms.length ≤ 63 :=
      ⟨_, by unfold cutV; rw [← List.map_drop, ← List.map_take], by rw [List.length_take, List.length_drop]; omega⟩
    obtain ⟨ms, ems, lms⟩ := cut
    refine ⟨.ref a, rfl, 63, rfl, a, ns.map V.int, rfl, s1.seq hS, fun c nc => ?_⟩
    rw [ems]
    have oc : o ≠ c := fun z => by rw [← z, upd_same] at nc; cases nc
    have nc0 : H c = none := by rw [upd_ne (Ne.symm oc)] at nc; exact nc
    refine ⟨c, rfl, ⟨_, .inl (.inl upd_same)⟩, for_list (xs := ms.map V.int)
      (fun i σ H' => ∃ c2 c3 c4 c5, σ = [some (.ref a), some (.ref o), c2, c3, c4, c5] ∧ ∃ row : List Int, Same H H' ∧ H' c = some (.lst (ms.map V.int)) ∧ H' o = some (.lst (row.map V.int)) ∧ row.length ≤ 60 * i)
      ⟨none, none, none, none, rfl, [], same_mut s1 nc0, upd_same, by rw [upd_ne oc]; exact upd_same, Nat.le_refl _⟩
      (fun i σ H' _ hp => by obtain ⟨_, _, _, _, _, _, _, e, _⟩ := hp; exact .inl (.inl e)) ?_ ?_⟩
    · rintro i x σ H' hx ⟨c2, c3, c4, c5, rfl, row, sm, hc, ho, hl⟩
      have hi : i < 63 := by
        have := (List.getElem?_eq_some_iff.mp hx).1
        rw [List.length_map] at this
        omega
      obtain ⟨z, rfl⟩ : ∃ z, x = V.int z := by
        rw [List.getElem?_map] at hx
        cases e : ms[i]? with
        | none => rw [e] at hx; cases hx
        | some z => rw [e] at hx; exact ⟨z, (Option.some.inj hx).symm⟩
      refine ⟨_, rfl, 10, 18, rfl, rfl, ⟨by decide, by decide, by decide⟩, z, _, rfl, rfl, _, rfl, ite2 (fun _ => ?_) (fun _ => ?_)⟩
      · refine ⟨_, rfl, 60, rfl, by decide, by decide, for_range (lo := 0) (n := 60)
          (fun j σ H2 => ∃ l c4 c5, σ = [some (.ref a), some (.ref o), some (.int z), some (.int l), c4, c5] ∧ ∃ row : List Int, Same H H2 ∧ H2 c = some (.lst (ms.map V.int)) ∧ H2 o = some (.lst (row.map V.int)) ∧ row.length ≤ 60 * i + j)
          ⟨z, _, _, rfl, row, sm, hc, ho, hl⟩ ?_ ?_⟩
        · rintro j σ H2 hj ⟨l, d4, d5, rfl, row2, sm2, hc2, ho2, hl2⟩
          refine ⟨_, rfl, rfl, _, rfl, ite2 (fun _ => ?_) (fun _ => ?_)⟩
          · exact ⟨_, _, _, _, rfl, row2, sm2, hc2, ho2, by omega⟩
          · refine ⟨.ref o, rfl, .inl ⟨rfl, _, .inl (.inl ho2)⟩, .int l, rfl, .inl ⟨l, rfl, l, 997, rfl, rfl, by show (0 : Int) < 997; decide, o, _, _, rfl, rfl, ho2, ?_, ?_⟩⟩
            · rw [List.length_map]
              exact Nat.lt_of_lt_of_le (show row2.length < 4000 by omega) (by decide)
            · refine ⟨_, rfl, l, 997, rfl, rfl, ⟨by decide, by decide⟩, ?_⟩
              exact ⟨_, _, _, rfl, row2 ++ [l % 997], same_mut sm2 no, by rw [upd_ne (Ne.symm oc)]; exact hc2, by rw [upd_same, List.map_append]; rfl, by rw [List.length_append]; show row2.length + 1 ≤ _; omega⟩
        · rintro σ H2 ⟨l, d4, d5, rfl, row2, sm2, hc2, ho2, hl2⟩
          exact ⟨_, _, _, _, rfl, row2, sm2, hc2, ho2, by omega⟩
      · refine ⟨4, rfl, by decide, by decide, for_range (lo := 0) (n := 4)
          (fun j σ H2 => ∃ c3 c4 c5, σ = [some (.ref a), some (.ref o), some (.int z), c3, c4, c5] ∧ ∃ row : List Int, Same H H2 ∧ H2 c = some (.lst (ms.map V.int)) ∧ H2 o = some (.lst (row.map V.int)) ∧ row.length ≤ 60 * i + j)
          ⟨_, _, _, rfl, row, sm, hc, ho, hl⟩ ?_ ?_⟩
        · rintro j σ H2 hj ⟨d3, d4, d5, rfl, row2, sm2, hc2, ho2, hl2⟩
          refine ⟨_, rfl, z, 48271, rfl, rfl, .inr (by decide), _, rfl, _, 69621, rfl, rfl, .inr (by decide), _, _, rfl, rfl, _, _, rfl, rfl, .inl ⟨_, rfl, _, 2147483647, rfl, rfl, by show (0 : Int) < 2147483647; decide, ?_⟩⟩
          refine ⟨.ref o, rfl, .inl ⟨rfl, _, .inl (.inl ho2)⟩, _, rfl, _, 16807, rfl, rfl, .inr (by decide), _, rfl, _, _, rfl, rfl, .inl ⟨_, rfl, _, 2147483629, rfl, rfl, by show (0 : Int) < 2147483629; decide, o, _, _, rfl, rfl, ho2, ?_, ?_⟩⟩
          · rw [List.length_map]
            exact Nat.lt_of_lt_of_le (show row2.length < 4000 by omega) (by decide)
          · exact ⟨_, _, _, rfl, row2 ++ [_], same_mut sm2 no, by rw [upd_ne (Ne.symm oc)]; exact hc2, by rw [upd_same, List.map_append]; rfl, by rw [List.length_append]; show row2.length + 1 ≤ _; omega⟩
        · rintro σ H2 ⟨d3, d4, d5, rfl, row2, sm2, hc2, ho2, hl2⟩
          exact ⟨_, _, _, _, rfl, row2, sm2, hc2, ho2, by omega⟩
    · rintro σ H' ⟨c2, c3, c4, c5, rfl, row, sm, hc, ho, hl⟩
      rw [List.length_map] at hl
      refine ⟨.ref o, rfl, o, _, rfl, .inl (.inl (.inl ho)), rfl, _, rfl, ite2 (fun e => ?_) (fun e => ?_)⟩
      · refine ⟨.ref o, rfl, .inl ⟨rfl, _, .inl (.inl ho)⟩, o, _, _, rfl, rfl, ho, ?_, ?_⟩
        · rw [List.length_map]
          exact Nat.lt_of_lt_of_le (show row.length < 4000 by omega) (by decide)
        · exact ⟨.ref o, rfl, q _ o (row ++ [0]) (same_mut sm no) no (by rw [upd_same, List.map_append]; rfl) (by simp) (by rw [List.length_append]; show row.length + 1 ≤ _; omega)⟩
      · refine ⟨.ref o, rfl, q _ o row sm no ho (fun z => ?_) (by omega)⟩
        subst z
        exact e rfl
end
end Cw

set_option Elab.async false
set_option linter.all false
set_option maxRecDepth 100000
set_option maxHeartbeats 4000000
namespace Cw
open PySem PySem.Spec PyProof.Rows L2
abbrev sDraw : Stmt := topS 17
abbrev sTake : Stmt := topS 18
theorem scDraw : FnScope ["row", "at", "limit", "mixed"] ["row", "at", "limit"] (defScope sDraw) := ⟨rfl, rfl, rfl, by decide +kernel, rfl, by decide +kernel, by decide +kernel⟩
theorem scTake : FnScope ["row", "spot", "limit"] ["row", "spot", "limit"] (defScope sTake) := ⟨rfl, rfl, rfl, by decide +kernel, rfl, by decide +kernel, by decide +kernel⟩
def spDraw (K : PySem.W.Frag) : Sp := fun vs H Q _ => ∃ (r : Addr) (row : List Int) (i lim : Int), vs = [.ref r, .int i, .int lim] ∧ SqL K H r (row.map V.int) ∧ row ≠ [] ∧ 0 ≤ i ∧ 0 < lim ∧ ∀ z : Int, 0 ≤ z → z < lim → Q (.int z) H
def spTake (K : PySem.W.Frag) : Sp := fun vs H Q _ => ∃ (r sp : Addr) (row : List Int) (n : Nat) (lim : Int), vs = [.ref r, .ref sp, .int lim] ∧ H r = some (.lst (row.map V.int)) ∧ row ≠ [] ∧ r ≠ sp ∧ H sp = some (.lst [.int (n : Int)]) ∧ 0 < lim ∧
  ∀ z : Int, 0 ≤ z → z < lim → Q (.int z) (upd H sp (.lst [.int ((n + 1 : Nat) : Int)]))
theorem at_int {l : List Int} {i : Int} (h0 : 0 ≤ i) (h : i < (l.length : Int)) : ∃ z, atI (l.map V.int) i = some (.int z) := by
  obtain ⟨j, rfl⟩ := Int.eq_ofNat_of_zero_le h0
  have hj : j < l.length := Int.ofNat_lt.mp h
  exact ⟨l[j], atI_nat (by rw [List.getElem?_map, List.getElem?_eq_getElem hj]; rfl)⟩
section
variable {P : Program} {w : World} {K : PySem.W.Frag} {mg : Str → Option Value} {base : Heap}
theorem ok_draw {f : Addr} {fd : FuncData} {k : Nat} (F : Fun K "_law_draw" "_law_draw" sDraw f fd) (mi : mg "int" = none) (ml : mg "len" = none) : FnOk P w K mg base CX0 (k + 1) f fd ["row", "at", "limit"] (spDraw K) := by
  refine F.ok scDraw (fun vs H Q E h => ?_) (fun cdv A outer s H vs Q E hr h => ?_)
  · obtain ⟨_, _, _, _, rfl, _⟩ := h
    rfl
  · obtain ⟨r, row, i, lim, rfl, hS, hne, hi, hl, q⟩ := h
    refine ⟨_, pss_cons (ps_if (pt_cmpR op_lt (pv 1) (pe_callB call_len_seq (by rfl) ml PySem.boot_len (pa_cons (pv 0) pa_nil)) (nomark _))
        (pss_one (ps_ret (pe_op op_mod (pe_callTy call_int1 (by rfl) mi (by decide +kernel) (pa_cons (pe_ix ix_list (pv 0) (pv 1) (fun _ _ => rfl)) pa_nil)) (pv 2)))) pss_nil)
      (pss_cons (ps_set (i := 3) scDraw.nd rfl (.inl rfl) (pe_op op_mod (pe_callTy call_int1 (by rfl) mi (by decide +kernel) (pa_cons (pe_op op_add (pe_op op_add
          (pe_op op_mul (pe_ix ix_list (pv 0) (pe_op op_mod (pe_callTy call_int1 (by rfl) mi (by decide +kernel) (pa_cons (pv 1) pa_nil)) (pe_callB call_len_seq (by rfl) ml PySem.boot_len (pa_cons (pv 0) pa_nil))) (fun _ _ => rfl)) pe_int)
          (pe_op op_mul (pv 1) pe_int)) pe_int) pa_nil)) pe_int))
      (pss_one (ps_ret (pe_op op_mod (pe_callTy call_int1 (by rfl) mi (by decide +kernel) (pa_cons (pe_op op_mod (pe_callTy call_int1 (by rfl) mi (by decide +kernel) (pa_cons (pe_op op_add (pe_op op_mul (pv 3) pe_int) (pv 1)) pa_nil)) pe_int) pa_nil)) (pv 2))))), ?_⟩
    have pos : 0 < row.length := List.length_pos_iff.mpr hne
    refine ⟨_, rfl, .ref r, rfl, r, _, rfl, .inl hS, i, _, rfl, rfl, _, rfl, ite2 (fun e => ?_) (fun e => ?_)⟩
    · have e1 : i < ((row.map V.int).length : Int) := of_decide_eq_true e
      rw [List.length_map] at e1
      obtain ⟨z, hz⟩ := at_int hi e1
      exact ⟨.ref r, rfl, _, rfl, r, _, i, _, rfl, rfl, hS, hz, .inl ⟨z, rfl, _, rfl, z, lim, rfl, rfl, hl, q _ (Int.emod_nonneg _ (by omega)) (Int.emod_lt_of_pos _ hl)⟩⟩
    · have lp : (0 : Int) < ((row.map V.int).length : Int) := by rw [List.length_map]; omega
      obtain ⟨z, hz⟩ := at_int (l := row) (i := i % ((row.map V.int).length : Int)) (Int.emod_nonneg _ (by omega)) (by have := Int.emod_lt_of_pos i lp; rw [List.length_map] at this ⊢; exact this)
      refine ⟨.ref r, rfl, _, rfl, .inl ⟨i, rfl, .ref r, rfl, r, _, rfl, .inl hS, i, _, rfl, rfl, lp, r, _, _, _, rfl, rfl, hS, hz, z, 40692, rfl, rfl, .inr (by decide), _, rfl, i, 7919, rfl, rfl, .inr (by decide), _, _, rfl, rfl, _, 3, rfl, rfl, .inl ⟨_, rfl, _, 2147483399, rfl, rfl, by show (0 : Int) < 2147483399; decide, ?_⟩⟩⟩
      exact ⟨_, rfl, _, 48271, rfl, rfl, .inr (by decide), _, rfl, _, i, rfl, rfl, .inl ⟨_, rfl, _, 2147483647, rfl, rfl, by show (0 : Int) < 2147483647; decide, .inl ⟨_, rfl, _, rfl, _, lim, rfl, rfl, hl, q _ (Int.emod_nonneg _ (by omega)) (Int.emod_lt_of_pos _ hl)⟩⟩⟩
theorem ok_take {f fD : Addr} {fd fdD : FuncData} {k : Nat} (F : Fun K "_law_take" "_law_take" sTake f fd) (FD : Fun K "_law_draw" "_law_draw" sDraw fD fdD) (bD : Binds K fdD ["row", "at", "limit"] []) (gD : mg "_law_draw" = some (.ref fD)) (mi : mg "int" = none) (ml : mg "len" = none) :
    FnOk P w K mg base CX0 (k + 2) f fd ["row", "spot", "limit"] (spTake K) := by
  have GD : FnOk P w K mg base CX0 (k + 1) fD fdD ["row", "at", "limit"] (spDraw K) := ok_draw FD mi ml
  refine F.ok scTake (fun vs H Q E h => ?_) (fun cdv A outer s H vs Q E hr h => ?_)
  · obtain ⟨_, _, _, _, _, rfl, _⟩ := h
    rfl
  · obtain ⟨r, sp, row, n, lim, rfl, hR, hne, hrs, hs, hl, q⟩ := h
    refine ⟨_, pss_cons (ps_asg (pe_op op_add (pe_ix ix_list (pv 1) pe_int (fun _ _ => rfl)) pe_int) (pg_sub (pv 1) pe_int set_list))
      (pss_one (ps_ret (pe_call GD hr (by rfl) gD FD.kp bD .nil pass0 (pa_cons (pv 0) (pa_cons (pe_op op_sub (pe_ix ix_list (pv 1) pe_int (fun _ _ => rfl)) pe_int) (pa_cons (pv 2) pa_nil)))))), ?_⟩
    refine ⟨.ref sp, rfl, sp, [.int (n : Int)], 0, _, rfl, rfl, SqL.of hs, atI_nat (j := 0) rfl, n, 1, rfl, rfl, .ref sp, rfl, sp, [.int (n : Int)], 0, 0, rfl, rfl, hs, rfl, ?_⟩
    have h1 : ([V.int (n : Int)].set 0 (V.int ((n : Int) + 1))) = [V.int ((n + 1 : Nat) : Int)] := rfl
    refine ⟨.ref r, rfl, .ref sp, rfl, sp, _, 0, .int ((n : Int) + 1), rfl, rfl, SqL.of upd_same, atI_nat (j := 0) rfl, (n : Int) + 1, 1, rfl, rfl, .int lim, rfl, r, row, _, lim, rfl, ?_, hne, by omega, hl, fun z z0 z1 => ?_⟩
    · exact SqL.of (by rw [upd_ne hrs]; exact hR)
    · exact q z z0 z1
end
end Cw

set_option Elab.async false
set_option linter.all false
set_option maxRecDepth 100000
set_option maxHeartbeats 4000000
namespace Cw
open PySem PySem.Spec PyProof.Rows L2
/-! ### data: what a value's class is, and what it is equal to -/
def tyName : PyData → String
  | .none => "NoneType" | .bool _ => "bool" | .int _ => "int" | .str _ => "str" | .list _ => "list" | .tuple _ => "tuple" | .dict _ => "dict"
def isTy (n : String) (d : PyData) : Bool := (kitB (tyName d) n).getD false
theorem ty_dp {K : PySem.W.Frag} {H : Hp} {x : V} {d : PyData} (h : Dp K H x d) : TyX K H x (.type (tyName d)) := by
  cases h with
  | non => exact .base .non
  | bl b => exact .base (.bl b)
  | int i => exact .base (.int i)
  | str s => exact .base (.str s)
  | lst hs _ =>
    rcases hs with (e | ⟨o, e⟩) | ⟨o, its, n, e, c, _⟩
    · exact .base (.lst e)
    · exact .base (.frz e)
    · exact .kList e c
  | tup hs _ =>
    rcases hs with (e | ⟨o, e⟩) | ⟨o, its, n, e, c, _⟩
    · exact .base (.tup e)
    · exact .fTuple e
    · exact .kTuple e c
theorem dp_get {K : PySem.W.Frag} {H : Hp} : ∀ {xs : List V} {ds : List PyData}, DpAll K H xs ds → xs.length = ds.length ∧ ∀ (i : Nat) (d : PyData), ds[i]? = some d → ∃ x, xs[i]? = some x ∧ Dp K H x d
  | _, _, .nil => ⟨rfl, fun (i : Nat) d h => by simp at h⟩
  | _, _, .cons h t => by
    obtain ⟨l, g⟩ := dp_get t
    refine ⟨congrArg Nat.succ l, fun i d e => ?_⟩
    cases i with
    | zero => obtain rfl := Option.some.inj e; exact ⟨_, rfl, h⟩
    | succ j => exact g j d e
theorem dp_scal {K : PySem.W.Frag} {H : Hp} {x y : V} {b c : Bool} (h : Dp K H x (.bool b)) (g : Dp K H y (.bool c)) : x = .bl b ∧ y = .bl c := by
  cases h; cases g; exact ⟨rfl, rfl⟩
def isN : PyData → Bool | .none => true | _ => false
/-- the law's own equality: found, meant -/
def so : Nat → PyData → PyData → Bool
  | _, f, .none => isN f
  | _, f, .bool b => match f with | .bool c => c == b | _ => false
  | _, f, .int i => match f with | .int j => j == i | _ => false
  | _, f, .str s => match f with | .str t => t == s | _ => false
  | 0, _, .tuple _ => false
  | n + 1, f, .tuple ms => match f with | .tuple fs => fs.length == ms.length && (List.range ms.length).all (fun i => so n (fs.getD i .none) (ms.getD i .none)) | _ => false
  | _, _, .list _ => false
  | _, _, .dict _ => false
theorem so_none (n : Nat) (f : PyData) : so n f .none = isN f := by cases n <;> rfl
theorem so_bool (n : Nat) (f : PyData) (b : Bool) : so n f (.bool b) = (match f with | .bool c => c == b | _ => false) := by cases n <;> rfl
theorem so_int (n : Nat) (f : PyData) (i : Int) : so n f (.int i) = (match f with | .int j => j == i | _ => false) := by cases n <;> rfl
theorem so_str (n : Nat) (f : PyData) (x : Str) : so n f (.str x) = (match f with | .str t => t == x | _ => false) := by cases n <;> rfl
theorem so_list (n : Nat) (f : PyData) (l : List PyData) : so n f (.list l) = false := by cases n <;> rfl
def fits : Nat → PyData → Prop
  | 0, .tuple _ => False
  | n + 1, .tuple ds => ds.length ≤ 1000 ∧ ∀ d, d ∈ ds → fits n d
  | _, _ => True
def isTu : PyData → Bool | .tuple _ => true | _ => false
def isBo : PyData → Bool | .bool _ => true | _ => false
def isIn : PyData → Bool | .bool _ => true | .int _ => true | _ => false
def isSt : PyData → Bool | .str _ => true | _ => false
theorem kb_tu (d : PyData) : kitB (tyName d) "tuple" = some (isTu d) := match d with
  | .none => (by decide +kernel : kitB "NoneType" "tuple" = some false)
  | .bool _ => (by decide +kernel : kitB "bool" "tuple" = some false)
  | .int _ => (by decide +kernel : kitB "int" "tuple" = some false)
  | .str _ => (by decide +kernel : kitB "str" "tuple" = some false)
  | .list _ => (by decide +kernel : kitB "list" "tuple" = some false)
  | .tuple _ => (by decide +kernel : kitB "tuple" "tuple" = some true)
  | .dict _ => (by decide +kernel : kitB "dict" "tuple" = some false)
theorem kb_bo (d : PyData) : kitB (tyName d) "bool" = some (isBo d) := match d with
  | .none => (by decide +kernel : kitB "NoneType" "bool" = some false)
  | .bool _ => (by decide +kernel : kitB "bool" "bool" = some true)
  | .int _ => (by decide +kernel : kitB "int" "bool" = some false)
  | .str _ => (by decide +kernel : kitB "str" "bool" = some false)
  | .list _ => (by decide +kernel : kitB "list" "bool" = some false)
  | .tuple _ => (by decide +kernel : kitB "tuple" "bool" = some false)
  | .dict _ => (by decide +kernel : kitB "dict" "bool" = some false)
theorem kb_in (d : PyData) : kitB (tyName d) "int" = some (isIn d) := match d with
  | .none => (by decide +kernel : kitB "NoneType" "int" = some false)
  | .bool _ => (by decide +kernel : kitB "bool" "int" = some true)
  | .int _ => (by decide +kernel : kitB "int" "int" = some true)
  | .str _ => (by decide +kernel : kitB "str" "int" = some false)
  | .list _ => (by decide +kernel : kitB "list" "int" = some false)
  | .tuple _ => (by decide +kernel : kitB "tuple" "int" = some false)
  | .dict _ => (by decide +kernel : kitB "dict" "int" = some false)
theorem kb_st (d : PyData) : kitB (tyName d) "str" = some (isSt d) := match d with
  | .none => (by decide +kernel : kitB "NoneType" "str" = some false)
  | .bool _ => (by decide +kernel : kitB "bool" "str" = some false)
  | .int _ => (by decide +kernel : kitB "int" "str" = some false)
  | .str _ => (by decide +kernel : kitB "str" "str" = some true)
  | .list _ => (by decide +kernel : kitB "list" "str" = some false)
  | .tuple _ => (by decide +kernel : kitB "tuple" "str" = some false)
  | .dict _ => (by decide +kernel : kitB "dict" "str" = some false)
theorem r_isi {K : PySem.W.Frag} {σ : L2.St} {H : Hp} {x : V} {d : PyData} {n : String} {b : Bool} {i : Nat} {Q : Bool → Hp → Prop} (e : σ[i]? = some (some x)) (h : Dp K H x d) (kb : kitB (tyName d) n = some b) (q : Q b H) :
    tB (tCB (rIsi K) (tCons (tVar i) (tCons (tC (.ty n)) tNil))) σ H Q := ⟨x, e, x, .ty n, .type (tyName d), .type n, b, rfl, .ty n, ty_dp h, kit_ty kb, b, rfl, q⟩
theorem v_isi {K : PySem.W.Frag} {σ : L2.St} {H : Hp} {x : V} {d : PyData} {n : String} {b : Bool} {i : Nat} {Q : VK} (e : σ[i]? = some (some x)) (h : Dp K H x d) (kb : kitB (tyName d) n = some b) (q : Q (.bl b) H) :
    tCB (rIsi K) (tCons (tVar i) (tCons (tC (.ty n)) tNil)) σ H Q := ⟨x, e, x, .ty n, .type (tyName d), .type n, b, rfl, .ty n, ty_dp h, kit_ty kb, q⟩
theorem dp_non {K : PySem.W.Frag} {H : Hp} {x : V} {d : PyData} (h : Dp K H x d) : decide (x = V.non) = isN d := by
  cases h <;> rfl
abbrev sSo : Stmt := topS 15
theorem scSo : FnScope ["found", "meant", "k"] ["found", "meant"] (defScope sSo) := ⟨rfl, rfl, rfl, by decide +kernel, rfl, by decide +kernel, by decide +kernel⟩
def spSo (K : PySem.W.Frag) : Nat → Sp
  | 0 => fun _ _ _ _ => False
  | n + 1 => fun vs H Q _ => ∃ x y f m, vs = [x, y] ∧ Dp K H x f ∧ Dp K H y m ∧ fits n m ∧ Q (.bl (so n f m)) H
section
variable {P : Program} {w : World} {K : PySem.W.Frag} {mg : Str → Option Value} {base : Heap}
theorem ok_so {f : Addr} {fd : FuncData} {k : Nat} (F : Fun K "_law_so" "_law_so" sSo f fd) (bF : Binds K fd ["found", "meant"] []) (gF : mg "_law_so" = some (.ref f))
    (ms : mg "isinstance" = none) (ml : mg "len" = none) (mr : mg "range" = none) (m1 : mg "tuple" = none) (m2 : mg "bool" = none) (m3 : mg "int" = none) (m4 : mg "str" = none) : ∀ n, FnOk P w K mg base CX0 (k + n) f fd ["found", "meant"] (spSo K n)
  | 0 => ⟨fun _ _ _ _ h => h.elim, fun _ _ _ _ _ _ _ _ _ _ _ _ _ h => h.elim⟩
  | n + 1 => by
    have G := ok_so (k := k) F bF gF ms ml mr m1 m2 m3 m4 n
    refine F.ok scSo (fun vs H Q E h => ?_) (fun cdv A outer s H vs Q E hr h => ?_)
    · obtain ⟨_, _, _, _, rfl, _⟩ := h
      rfl
    · obtain ⟨x, y, f, m, rfl, hx, hy, hf, q⟩ := h
      refine ⟨_, pss_cons (ps_if (pt_cmpR op_isN (pv 1) pe_non (nomark _)) (pss_one (ps_ret (pe_cmpR op_isN (pv 0) pe_non (nomark _)))) pss_nil)
        (pss_cons (ps_if (pt_val (pe_callB call_isi (by rfl) ms (by decide +kernel) (pa_cons (pv 1) (pa_cons (pe_bltn (v := .ty "tuple") (by rfl) m1 (by decide +kernel) rfl) pa_nil))))
          (pss_cons (ps_if (PW.pt (pw_or (pt_not (pt_val (pe_callB call_isi (by rfl) ms (by decide +kernel) (pa_cons (pv 0) (pa_cons (pe_bltn (v := .ty "tuple") (by rfl) m1 (by decide +kernel) rfl) pa_nil)))))
              (pw_or1 (pt_cmpR op_ne (pe_callB call_len_seq (by rfl) ml PySem.boot_len (pa_cons (pv 0) pa_nil)) (pe_callB call_len_seq (by rfl) ml PySem.boot_len (pa_cons (pv 1) pa_nil)) (nomark _)))))
            (pss_one (ps_ret pe_bl)) pss_nil)
          (pss_cons (ps_for PassesOwn.never rfl (pi_range1 rfl mr (pa_cons (pe_callB call_len_seq (by rfl) ml PySem.boot_len (pa_cons (pv 1) pa_nil)) pa_nil)) (pg_name (i := 2) scSo.nd rfl (.inl rfl))
            (pss_one (ps_if (pt_not (pt_val (pe_call G hr (by rfl) gF F.kp bF .nil pass0 (pa_cons (pe_ix ix_tup (pv 0) (pv 2) (fun _ _ => rfl)) (pa_cons (pe_ix ix_tup (pv 1) (pv 2) (fun _ _ => rfl)) pa_nil))))) (pss_one (ps_ret pe_bl)) pss_nil)))
          (pss_one (ps_ret pe_bl)))) pss_nil)
        (pss_cons (ps_if (PW.pt (pw_or (pt_val (pe_callB call_isi (by rfl) ms (by decide +kernel) (pa_cons (pv 1) (pa_cons (pe_bltn (v := .ty "bool") (by rfl) m2 (by decide +kernel) rfl) pa_nil))))
            (pw_or1 (pt_val (pe_callB call_isi (by rfl) ms (by decide +kernel) (pa_cons (pv 0) (pa_cons (pe_bltn (v := .ty "bool") (by rfl) m2 (by decide +kernel) rfl) pa_nil)))))))
          (pss_one (ps_ret (pe_and (pe_callB call_isi (by rfl) ms (by decide +kernel) (pa_cons (pv 1) (pa_cons (pe_bltn (v := .ty "bool") (by rfl) m2 (by decide +kernel) rfl) pa_nil)))
            (pe_and (pe_callB call_isi (by rfl) ms (by decide +kernel) (pa_cons (pv 0) (pa_cons (pe_bltn (v := .ty "bool") (by rfl) m2 (by decide +kernel) rfl) pa_nil))) (pe_one (pe_cmpR op_eq (pv 0) (pv 1) (nomark _))))))) pss_nil)
        (pss_cons (ps_if (pt_val (pe_callB call_isi (by rfl) ms (by decide +kernel) (pa_cons (pv 1) (pa_cons (pe_bltn (v := .ty "int") (by rfl) m3 (by decide +kernel) rfl) pa_nil))))
          (pss_one (ps_ret (pe_and (pe_callB call_isi (by rfl) ms (by decide +kernel) (pa_cons (pv 0) (pa_cons (pe_bltn (v := .ty "int") (by rfl) m3 (by decide +kernel) rfl) pa_nil))) (pe_one (pe_cmpR op_eq (pv 0) (pv 1) (nomark _)))))) pss_nil)
        (pss_one (ps_ret (pe_and (pe_callB call_isi (by rfl) ms (by decide +kernel) (pa_cons (pv 1) (pa_cons (pe_bltn (v := .ty "str") (by rfl) m4 (by decide +kernel) rfl) pa_nil)))
            (pe_and (pe_callB call_isi (by rfl) ms (by decide +kernel) (pa_cons (pv 0) (pa_cons (pe_bltn (v := .ty "str") (by rfl) m4 (by decide +kernel) rfl) pa_nil))) (pe_one (pe_cmpR op_eq (pv 0) (pv 1) (nomark _)))))))))), ?_⟩
      refine ⟨_, rfl, rfl, _, rfl, ?_⟩
      rw [dp_non hy]
      cases hy with
      | non =>
        refine iteT ⟨x, rfl, rfl, ?_⟩
        rw [dp_non hx]
        rw [so_none] at q
        exact q
      | bl b =>
        rw [so_bool] at q
        refine iteF (r_isi rfl (.bl b) (b := false) (by first | exact kb_tu _ | exact kb_bo _ | exact kb_in _ | exact kb_st _) (iteF (r_isi rfl (.bl b) (b := true) (by first | exact kb_tu _ | exact kb_bo _ | exact kb_in _ | exact kb_st _) (iteT (iteT ?_)))))
        refine v_isi rfl (.bl b) (b := true) (by first | exact kb_tu _ | exact kb_bo _ | exact kb_in _ | exact kb_st _) ⟨true, rfl, iteT ?_⟩
        cases hx with
        | bl c =>
          refine v_isi rfl (.bl c) (b := true) (by first | exact kb_tu _ | exact kb_bo _ | exact kb_in _ | exact kb_st _) ⟨true, rfl, iteT ⟨_, rfl, _, rfl, rfl, ?_⟩⟩
          rw [dec_bl]
          exact q
        | non => exact v_isi rfl (.non) (b := false) (by first | exact kb_tu _ | exact kb_bo _ | exact kb_in _ | exact kb_st _) ⟨false, rfl, iteF q⟩
        | int i => exact v_isi rfl (.int i) (b := false) (by first | exact kb_tu _ | exact kb_bo _ | exact kb_in _ | exact kb_st _) ⟨false, rfl, iteF q⟩
        | str s => exact v_isi rfl (.str s) (b := false) (by first | exact kb_tu _ | exact kb_bo _ | exact kb_in _ | exact kb_st _) ⟨false, rfl, iteF q⟩
        | lst h1 h2 => exact v_isi rfl (.lst h1 h2) (b := false) (by first | exact kb_tu _ | exact kb_bo _ | exact kb_in _ | exact kb_st _) ⟨false, rfl, iteF q⟩
        | tup h1 h2 => exact v_isi rfl (.tup h1 h2) (b := false) (by first | exact kb_tu _ | exact kb_bo _ | exact kb_in _ | exact kb_st _) ⟨false, rfl, iteF q⟩
      | int i =>
        rw [so_int] at q
        refine iteF (r_isi rfl (.int i) (b := false) (by first | exact kb_tu _ | exact kb_bo _ | exact kb_in _ | exact kb_st _) (iteF (r_isi rfl (.int i) (b := false) (by first | exact kb_tu _ | exact kb_bo _ | exact kb_in _ | exact kb_st _) (iteF ?_))))
        cases hx with
        | bl c => exact r_isi rfl (.bl c) (b := true) (by first | exact kb_tu _ | exact kb_bo _ | exact kb_in _ | exact kb_st _) (iteT (v_isi rfl (.int i) (b := false) (by first | exact kb_tu _ | exact kb_bo _ | exact kb_in _ | exact kb_st _) ⟨false, rfl, iteF q⟩))
        | int j =>
          refine r_isi rfl (.int j) (b := false) (by first | exact kb_tu _ | exact kb_bo _ | exact kb_in _ | exact kb_st _) (iteF (r_isi rfl (.int i) (b := true) (by first | exact kb_tu _ | exact kb_bo _ | exact kb_in _ | exact kb_st _) (iteT (v_isi rfl (.int j) (b := true) (by first | exact kb_tu _ | exact kb_bo _ | exact kb_in _ | exact kb_st _) ⟨true, rfl, iteT ⟨_, rfl, _, rfl, rfl, ?_⟩⟩))))
          rw [dec_int]
          exact q
        | non => exact r_isi rfl (.non) (b := false) (by first | exact kb_tu _ | exact kb_bo _ | exact kb_in _ | exact kb_st _) (iteF (r_isi rfl (.int i) (b := true) (by first | exact kb_tu _ | exact kb_bo _ | exact kb_in _ | exact kb_st _) (iteT (v_isi rfl (.non) (b := false) (by first | exact kb_tu _ | exact kb_bo _ | exact kb_in _ | exact kb_st _) ⟨false, rfl, iteF q⟩))))
        | str s => exact r_isi rfl (.str s) (b := false) (by first | exact kb_tu _ | exact kb_bo _ | exact kb_in _ | exact kb_st _) (iteF (r_isi rfl (.int i) (b := true) (by first | exact kb_tu _ | exact kb_bo _ | exact kb_in _ | exact kb_st _) (iteT (v_isi rfl (.str s) (b := false) (by first | exact kb_tu _ | exact kb_bo _ | exact kb_in _ | exact kb_st _) ⟨false, rfl, iteF q⟩))))
        | lst h1 h2 => exact r_isi rfl (.lst h1 h2) (b := false) (by first | exact kb_tu _ | exact kb_bo _ | exact kb_in _ | exact kb_st _) (iteF (r_isi rfl (.int i) (b := true) (by first | exact kb_tu _ | exact kb_bo _ | exact kb_in _ | exact kb_st _) (iteT (v_isi rfl (.lst h1 h2) (b := false) (by first | exact kb_tu _ | exact kb_bo _ | exact kb_in _ | exact kb_st _) ⟨false, rfl, iteF q⟩))))
        | tup h1 h2 => exact r_isi rfl (.tup h1 h2) (b := false) (by first | exact kb_tu _ | exact kb_bo _ | exact kb_in _ | exact kb_st _) (iteF (r_isi rfl (.int i) (b := true) (by first | exact kb_tu _ | exact kb_bo _ | exact kb_in _ | exact kb_st _) (iteT (v_isi rfl (.tup h1 h2) (b := false) (by first | exact kb_tu _ | exact kb_bo _ | exact kb_in _ | exact kb_st _) ⟨false, rfl, iteF q⟩))))
      | str z =>
        rw [so_str] at q
        refine iteF (r_isi rfl (.str z) (b := false) (by first | exact kb_tu _ | exact kb_bo _ | exact kb_in _ | exact kb_st _) (iteF (r_isi rfl (.str z) (b := false) (by first | exact kb_tu _ | exact kb_bo _ | exact kb_in _ | exact kb_st _) (iteF ?_))))
        cases hx with
        | bl c => exact r_isi rfl (.bl c) (b := true) (by first | exact kb_tu _ | exact kb_bo _ | exact kb_in _ | exact kb_st _) (iteT (v_isi rfl (.str z) (b := false) (by first | exact kb_tu _ | exact kb_bo _ | exact kb_in _ | exact kb_st _) ⟨false, rfl, iteF q⟩))
        | str j =>
          refine r_isi rfl (.str j) (b := false) (by first | exact kb_tu _ | exact kb_bo _ | exact kb_in _ | exact kb_st _) (iteF (r_isi rfl (.str z) (b := false) (by first | exact kb_tu _ | exact kb_bo _ | exact kb_in _ | exact kb_st _) (iteF (v_isi rfl (.str z) (b := true) (by first | exact kb_tu _ | exact kb_bo _ | exact kb_in _ | exact kb_st _) ⟨true, rfl, iteT (v_isi rfl (.str j) (b := true) (by first | exact kb_tu _ | exact kb_bo _ | exact kb_in _ | exact kb_st _) ⟨true, rfl, iteT ⟨_, rfl, _, rfl, rfl, ?_⟩⟩)⟩))))
          rw [show decide (V.str j = V.str z) = (j == z) by rw [dec_str]]
          exact q
        | non => exact r_isi rfl (.non) (b := false) (by first | exact kb_tu _ | exact kb_bo _ | exact kb_in _ | exact kb_st _) (iteF (r_isi rfl (.str z) (b := false) (by first | exact kb_tu _ | exact kb_bo _ | exact kb_in _ | exact kb_st _) (iteF (v_isi rfl (.str z) (b := true) (by first | exact kb_tu _ | exact kb_bo _ | exact kb_in _ | exact kb_st _) ⟨true, rfl, iteT (v_isi rfl (.non) (b := false) (by first | exact kb_tu _ | exact kb_bo _ | exact kb_in _ | exact kb_st _) ⟨false, rfl, iteF q⟩)⟩))))
        | int s => exact r_isi rfl (.int s) (b := false) (by first | exact kb_tu _ | exact kb_bo _ | exact kb_in _ | exact kb_st _) (iteF (r_isi rfl (.str z) (b := false) (by first | exact kb_tu _ | exact kb_bo _ | exact kb_in _ | exact kb_st _) (iteF (v_isi rfl (.str z) (b := true) (by first | exact kb_tu _ | exact kb_bo _ | exact kb_in _ | exact kb_st _) ⟨true, rfl, iteT (v_isi rfl (.int s) (b := false) (by first | exact kb_tu _ | exact kb_bo _ | exact kb_in _ | exact kb_st _) ⟨false, rfl, iteF q⟩)⟩))))
        | lst h1 h2 => exact r_isi rfl (.lst h1 h2) (b := false) (by first | exact kb_tu _ | exact kb_bo _ | exact kb_in _ | exact kb_st _) (iteF (r_isi rfl (.str z) (b := false) (by first | exact kb_tu _ | exact kb_bo _ | exact kb_in _ | exact kb_st _) (iteF (v_isi rfl (.str z) (b := true) (by first | exact kb_tu _ | exact kb_bo _ | exact kb_in _ | exact kb_st _) ⟨true, rfl, iteT (v_isi rfl (.lst h1 h2) (b := false) (by first | exact kb_tu _ | exact kb_bo _ | exact kb_in _ | exact kb_st _) ⟨false, rfl, iteF q⟩)⟩))))
        | tup h1 h2 => exact r_isi rfl (.tup h1 h2) (b := false) (by first | exact kb_tu _ | exact kb_bo _ | exact kb_in _ | exact kb_st _) (iteF (r_isi rfl (.str z) (b := false) (by first | exact kb_tu _ | exact kb_bo _ | exact kb_in _ | exact kb_st _) (iteF (v_isi rfl (.str z) (b := true) (by first | exact kb_tu _ | exact kb_bo _ | exact kb_in _ | exact kb_st _) ⟨true, rfl, iteT (v_isi rfl (.tup h1 h2) (b := false) (by first | exact kb_tu _ | exact kb_bo _ | exact kb_in _ | exact kb_st _) ⟨false, rfl, iteF q⟩)⟩))))
      | @lst la lx ld h1 h2 =>
        rw [so_list] at q
        refine iteF (r_isi rfl (.lst h1 h2) (b := false) (by first | exact kb_tu _ | exact kb_bo _ | exact kb_in _ | exact kb_st _) (iteF (r_isi rfl (.lst h1 h2) (b := false) (by first | exact kb_tu _ | exact kb_bo _ | exact kb_in _ | exact kb_st _) (iteF ?_))))
        have other : ∀ c, c = (match f with | .bool _ => true | _ => false) → kitB (tyName f) "bool" = some c := fun c e => by subst e; cases hx <;> exact kb_bo _
        refine r_isi rfl hx (other _ rfl) ?_
        cases hx with
        | bl c => exact iteT (v_isi rfl (.lst h1 h2) (b := false) (by first | exact kb_tu _ | exact kb_bo _ | exact kb_in _ | exact kb_st _) ⟨false, rfl, iteF q⟩)
        | non => exact iteF (r_isi rfl (.lst h1 h2) (b := false) (by first | exact kb_tu _ | exact kb_bo _ | exact kb_in _ | exact kb_st _) (iteF (v_isi rfl (.lst h1 h2) (b := false) (by first | exact kb_tu _ | exact kb_bo _ | exact kb_in _ | exact kb_st _) ⟨false, rfl, iteF q⟩)))
        | int s => exact iteF (r_isi rfl (.lst h1 h2) (b := false) (by first | exact kb_tu _ | exact kb_bo _ | exact kb_in _ | exact kb_st _) (iteF (v_isi rfl (.lst h1 h2) (b := false) (by first | exact kb_tu _ | exact kb_bo _ | exact kb_in _ | exact kb_st _) ⟨false, rfl, iteF q⟩)))
        | str s => exact iteF (r_isi rfl (.lst h1 h2) (b := false) (by first | exact kb_tu _ | exact kb_bo _ | exact kb_in _ | exact kb_st _) (iteF (v_isi rfl (.lst h1 h2) (b := false) (by first | exact kb_tu _ | exact kb_bo _ | exact kb_in _ | exact kb_st _) ⟨false, rfl, iteF q⟩)))
        | lst g1 g2 => exact iteF (r_isi rfl (.lst h1 h2) (b := false) (by first | exact kb_tu _ | exact kb_bo _ | exact kb_in _ | exact kb_st _) (iteF (v_isi rfl (.lst h1 h2) (b := false) (by first | exact kb_tu _ | exact kb_bo _ | exact kb_in _ | exact kb_st _) ⟨false, rfl, iteF q⟩)))
        | tup g1 g2 => exact iteF (r_isi rfl (.lst h1 h2) (b := false) (by first | exact kb_tu _ | exact kb_bo _ | exact kb_in _ | exact kb_st _) (iteF (v_isi rfl (.lst h1 h2) (b := false) (by first | exact kb_tu _ | exact kb_bo _ | exact kb_in _ | exact kb_st _) ⟨false, rfl, iteF q⟩)))
      | @tup ta tx td h1 h2 =>
        refine iteF (r_isi rfl (.tup h1 h2) (b := true) (by first | exact kb_tu _ | exact kb_bo _ | exact kb_in _ | exact kb_st _) (iteT ?_))
        cases n with
        | zero => exact hf.elim
        | succ n =>
          obtain ⟨hlen, hall⟩ := hf
          obtain ⟨l2, g2⟩ := dp_get h2
          cases hx with
          | bl c => exact r_isi rfl (.bl c) (b := false) (by first | exact kb_tu _ | exact kb_bo _ | exact kb_in _ | exact kb_st _) (iteT (iteT q))
          | non => exact r_isi rfl (.non) (b := false) (by first | exact kb_tu _ | exact kb_bo _ | exact kb_in _ | exact kb_st _) (iteT (iteT q))
          | int s => exact r_isi rfl (.int s) (b := false) (by first | exact kb_tu _ | exact kb_bo _ | exact kb_in _ | exact kb_st _) (iteT (iteT q))
          | str s => exact r_isi rfl (.str s) (b := false) (by first | exact kb_tu _ | exact kb_bo _ | exact kb_in _ | exact kb_st _) (iteT (iteT q))
          | lst g1 g2 => exact r_isi rfl (.lst g1 g2) (b := false) (by first | exact kb_tu _ | exact kb_bo _ | exact kb_in _ | exact kb_st _) (iteT (iteT q))
          | @tup fa fx fd' k1 k2 =>
            obtain ⟨l1, g1⟩ := dp_get k2
            refine r_isi rfl (.tup k1 k2) (b := true) (by first | exact kb_tu _ | exact kb_bo _ | exact kb_in _ | exact kb_st _) (iteF ⟨_, rfl, fa, fx, rfl, .inr k1, _, rfl, ta, tx, rfl, .inr h1, rfl, _, rfl, ?_⟩)
            have en : (!decide (V.int (fx.length : Int) = V.int (tx.length : Int))) = !(fd'.length == td.length) := by
              rw [dec_int, l1, l2]
              congr 1
              rw [Bool.eq_iff_iff, beq_iff_eq, beq_iff_eq]
              omega
            rw [en]
            change Q (.bl (fd'.length == td.length && (List.range td.length).all (fun i => so n (fd'.getD i .none) (td.getD i .none)))) H at q
            by_cases el : fd'.length = td.length
            · have e1 : (fd'.length == td.length) = true := beq_iff_eq.mpr el
              rw [e1] at q ⊢
              refine iteF ⟨_, rfl, ta, tx, rfl, .inr h1, _, rfl, by rw [l2]; omega, by rw [l2]; omega, ?_⟩
              have et : ((tx.length : Int)).toNat = td.length := by rw [l2]; exact Int.toNat_natCast _
              rw [et]
              refine for_range (lo := 0) (n := td.length) (fun i σ H' => H' = H ∧ (∃ c, σ = [some (.ref fa), some (.ref ta), c]) ∧ ∀ j, j < i → so n (fd'.getD j .none) (td.getD j .none) = true)
                ⟨rfl, ⟨none, rfl⟩, fun j hj => absurd hj (Nat.not_lt_zero j)⟩ ?_ ?_
              · rintro i σ H' hi ⟨rfl, ⟨c, rfl⟩, ih⟩
                have e0 : (0 : Int) + (i : Int) = (i : Int) := Int.zero_add _
                rw [e0]
                obtain ⟨vf, a1, a2⟩ := g1 i fd'[i] (List.getElem?_eq_getElem (by omega))
                obtain ⟨vm, b1, b2⟩ := g2 i td[i] (List.getElem?_eq_getElem hi)
                have z1 : fd'.getD i .none = fd'[i] := by rw [List.getD_eq_getElem?_getD, List.getElem?_eq_getElem (by omega)]; rfl
                have z2 : td.getD i .none = td[i] := by rw [List.getD_eq_getElem?_getD, List.getElem?_eq_getElem hi]; rfl
                refine ⟨_, rfl, _, rfl, fa, fx, _, vf, rfl, rfl, k1, atI_nat a1, _, rfl, _, rfl, ta, tx, _, vm, rfl, rfl, h1, atI_nat b1, vf, vm, fd'[i], td[i], rfl, a2, b2, hall _ (List.getElem_mem hi), _, rfl, ?_⟩
                rw [← z1, ← z2]
                cases eb : so n (fd'.getD i .none) (td.getD i .none) with
                | true =>
                  refine iteF ⟨rfl, ⟨_, rfl⟩, fun j hj => ?_⟩
                  by_cases ej : j = i
                  · subst ej; exact eb
                  · exact ih j (by omega)
                | false =>
                  refine iteT ?_
                  have ef : ((List.range td.length).all (fun i => so n (fd'.getD i .none) (td.getD i .none))) = false := by
                    rw [Bool.eq_false_iff]
                    intro z
                    have := List.all_eq_true.mp z i (List.mem_range.mpr hi)
                    rw [eb] at this
                    cases this
                  rw [ef] at q
                  exact q
              · rintro σ H' ⟨rfl, ⟨c, rfl⟩, ih⟩
                have ef : ((List.range td.length).all (fun i => so n (fd'.getD i .none) (td.getD i .none))) = true := List.all_eq_true.mpr fun j hj => ih j (List.mem_range.mp hj)
                rw [ef] at q
                exact q
            · have e1 : (fd'.length == td.length) = false := beq_false_of_ne el
              rw [e1] at q ⊢
              exact iteT q
end
end Cw

set_option Elab.async false
set_option linter.all false
set_option maxRecDepth 100000
set_option maxHeartbeats 4000000
namespace Cw
open PySem PySem.Spec PyProof.Rows L2 PySem.CwEx
/-! ### the classes' `__init__` -/
def spI1 (K : PySem.W.Frag) (fl : Str) : Sp := fun vs H Q _ => ∃ (a C CE : Addr) (v : V), vs = [.ref a, v] ∧ CexC K C CE ∧ PySem.W.findIn K (.ref C) fl = some none ∧ H a = some (exo a C none) ∧
  ∀ dx, H dx = none → dx ≠ a → Q .non (upd (upd H dx (exd dx [(fl, v)])) a (exo a C (some dx)))
def spI2 (K : PySem.W.Frag) (f1 f2 : Str) : Sp := fun vs H Q _ => ∃ (a C CE : Addr) (v1 v2 : V), vs = [.ref a, v1, v2] ∧ CexC K C CE ∧ PySem.W.findIn K (.ref C) f1 = some none ∧ PySem.W.findIn K (.ref C) f2 = some none ∧ H a = some (exo a C none) ∧
  ∀ dx, H dx = none → dx ≠ a → Q .non (upd (upd (upd H dx (exd dx [(f1, v1)])) a (exo a C (some dx))) dx (exd dx [(f2, v2), (f1, v1)]))
/-- what the top has written of such a class -/
structure EC (K : PySem.W.Frag) (mg : Str → Option Value) (x qual : Str) (st : Stmt) (fls : List Str) (CE C f : Addr) (fd : FuncData) : Prop where
  cx : CexC K C CE
  gC : mg x = some (.ref C)
  iC : PySem.W.findIn K (.ref C) "__init__" = some (some (.ref f))
  tI : PySem.W.typeIn K (.ref f) = some (.type "function")
  F : Fun K "__init__" qual st f fd
  no : ∀ fl, fl ∈ fls → PySem.W.findIn K (.ref C) fl = some none
section
variable {P : Program} {w : World} {K : PySem.W.Frag} {mg : Str → Option Value} {base : Heap}
abbrev sI2 : Stmt := inClass (topS 2) 0
theorem scI2 : FnScope ["self", "at"] ["self", "at"] (defScope sI2) := ⟨rfl, rfl, rfl, by decide +kernel, rfl, by decide +kernel, by decide +kernel⟩
theorem okI2 {f : Addr} {fd : FuncData} {k : Nat} (F : Fun K "__init__" "BadValue.__init__" sI2 f fd) : FnOk P w K mg base CX0 (k + 1) f fd ["self", "at"] (spI1 K "at") := by
  refine F.ok scI2 (fun vs H Q E h => ?_) (fun cdv A outer s H vs Q E hr h => ?_)
  · obtain ⟨_, _, _, _, rfl, _⟩ := h
    rfl
  · obtain ⟨a, C, CE, v, rfl, T, no, ha, q⟩ := h
    exact ⟨_, pss_one (ps_x1 (pv 0) (pv 1)), v, rfl, _, rfl, a, C, CE, rfl, T, no, .inl ⟨ha, q⟩⟩
theorem bI2 {f : Addr} {fd : FuncData} (F : Fun K "__init__" "BadValue.__init__" sI2 f fd) : Binds K fd ["self", "at"] [] := F.binds (ps := ["self", "at"]) fun _ _ _ _ _ _ us hl => match us, hl with | [_, _], _ => rfl
theorem kI2 {f : Addr} {fd : FuncData} (F : Fun K "__init__" "BadValue.__init__" sI2 f fd) (s : Shared) (a : Addr) (ws : List Value) (hl : (([.ref a] : List Value) ++ ws).length = (["self", "at"] : List Str).length) :
    BindsTo s fd ⟨[.ref a], (["at"] : List Str).zip ws⟩ ((["self", "at"] : List Str).zip ([.ref a] ++ ws)) := by
  obtain ⟨oc, od, kV, doc, pm, an, cdv, ct, osl, rfl, lk, hcd⟩ := F.ex
  match ws, hl with
  | [v], _ => exact .of_eq rfl
abbrev sI3 : Stmt := inClass (topS 3) 0
theorem scI3 : FnScope ["self", "at"] ["self", "at"] (defScope sI3) := ⟨rfl, rfl, rfl, by decide +kernel, rfl, by decide +kernel, by decide +kernel⟩
theorem okI3 {f : Addr} {fd : FuncData} {k : Nat} (F : Fun K "__init__" "BadText.__init__" sI3 f fd) : FnOk P w K mg base CX0 (k + 1) f fd ["self", "at"] (spI1 K "at") := by
  refine F.ok scI3 (fun vs H Q E h => ?_) (fun cdv A outer s H vs Q E hr h => ?_)
  · obtain ⟨_, _, _, _, rfl, _⟩ := h
    rfl
  · obtain ⟨a, C, CE, v, rfl, T, no, ha, q⟩ := h
    exact ⟨_, pss_one (ps_x1 (pv 0) (pv 1)), v, rfl, _, rfl, a, C, CE, rfl, T, no, .inl ⟨ha, q⟩⟩
theorem bI3 {f : Addr} {fd : FuncData} (F : Fun K "__init__" "BadText.__init__" sI3 f fd) : Binds K fd ["self", "at"] [] := F.binds (ps := ["self", "at"]) fun _ _ _ _ _ _ us hl => match us, hl with | [_, _], _ => rfl
theorem kI3 {f : Addr} {fd : FuncData} (F : Fun K "__init__" "BadText.__init__" sI3 f fd) (s : Shared) (a : Addr) (ws : List Value) (hl : (([.ref a] : List Value) ++ ws).length = (["self", "at"] : List Str).length) :
    BindsTo s fd ⟨[.ref a], (["at"] : List Str).zip ws⟩ ((["self", "at"] : List Str).zip ([.ref a] ++ ws)) := by
  obtain ⟨oc, od, kV, doc, pm, an, cdv, ct, osl, rfl, lk, hcd⟩ := F.ex
  match ws, hl with
  | [v], _ => exact .of_eq rfl
abbrev sI4 : Stmt := inClass (topS 4) 0
theorem scI4 : FnScope ["self", "at"] ["self", "at"] (defScope sI4) := ⟨rfl, rfl, rfl, by decide +kernel, rfl, by decide +kernel, by decide +kernel⟩
theorem okI4 {f : Addr} {fd : FuncData} {k : Nat} (F : Fun K "__init__" "BadTree.__init__" sI4 f fd) : FnOk P w K mg base CX0 (k + 1) f fd ["self", "at"] (spI1 K "at") := by
  refine F.ok scI4 (fun vs H Q E h => ?_) (fun cdv A outer s H vs Q E hr h => ?_)
  · obtain ⟨_, _, _, _, rfl, _⟩ := h
    rfl
  · obtain ⟨a, C, CE, v, rfl, T, no, ha, q⟩ := h
    exact ⟨_, pss_one (ps_x1 (pv 0) (pv 1)), v, rfl, _, rfl, a, C, CE, rfl, T, no, .inl ⟨ha, q⟩⟩
theorem bI4 {f : Addr} {fd : FuncData} (F : Fun K "__init__" "BadTree.__init__" sI4 f fd) : Binds K fd ["self", "at"] [] := F.binds (ps := ["self", "at"]) fun _ _ _ _ _ _ us hl => match us, hl with | [_, _], _ => rfl
theorem kI4 {f : Addr} {fd : FuncData} (F : Fun K "__init__" "BadTree.__init__" sI4 f fd) (s : Shared) (a : Addr) (ws : List Value) (hl : (([.ref a] : List Value) ++ ws).length = (["self", "at"] : List Str).length) :
    BindsTo s fd ⟨[.ref a], (["at"] : List Str).zip ws⟩ ((["self", "at"] : List Str).zip ([.ref a] ++ ws)) := by
  obtain ⟨oc, od, kV, doc, pm, an, cdv, ct, osl, rfl, lk, hcd⟩ := F.ex
  match ws, hl with
  | [v], _ => exact .of_eq rfl
abbrev sI5 : Stmt := inClass (topS 5) 0
theorem scI5 : FnScope ["self", "word"] ["self", "word"] (defScope sI5) := ⟨rfl, rfl, rfl, by decide +kernel, rfl, by decide +kernel, by decide +kernel⟩
theorem okI5 {f : Addr} {fd : FuncData} {k : Nat} (F : Fun K "__init__" "NoBest.__init__" sI5 f fd) : FnOk P w K mg base CX0 (k + 1) f fd ["self", "word"] (spI1 K "word") := by
  refine F.ok scI5 (fun vs H Q E h => ?_) (fun cdv A outer s H vs Q E hr h => ?_)
  · obtain ⟨_, _, _, _, rfl, _⟩ := h
    rfl
  · obtain ⟨a, C, CE, v, rfl, T, no, ha, q⟩ := h
    exact ⟨_, pss_one (ps_x1 (pv 0) (pv 1)), v, rfl, _, rfl, a, C, CE, rfl, T, no, .inl ⟨ha, q⟩⟩
theorem bI5 {f : Addr} {fd : FuncData} (F : Fun K "__init__" "NoBest.__init__" sI5 f fd) : Binds K fd ["self", "word"] [] := F.binds (ps := ["self", "word"]) fun _ _ _ _ _ _ us hl => match us, hl with | [_, _], _ => rfl
theorem kI5 {f : Addr} {fd : FuncData} (F : Fun K "__init__" "NoBest.__init__" sI5 f fd) (s : Shared) (a : Addr) (ws : List Value) (hl : (([.ref a] : List Value) ++ ws).length = (["self", "word"] : List Str).length) :
    BindsTo s fd ⟨[.ref a], (["word"] : List Str).zip ws⟩ ((["self", "word"] : List Str).zip ([.ref a] ++ ws)) := by
  obtain ⟨oc, od, kV, doc, pm, an, cdv, ct, osl, rfl, lk, hcd⟩ := F.ex
  match ws, hl with
  | [v], _ => exact .of_eq rfl
abbrev sI6 : Stmt := inClass (topS 6) 0
theorem scI6 : FnScope ["self", "word"] ["self", "word"] (defScope sI6) := ⟨rfl, rfl, rfl, by decide +kernel, rfl, by decide +kernel, by decide +kernel⟩
theorem okI6 {f : Addr} {fd : FuncData} {k : Nat} (F : Fun K "__init__" "Stuck.__init__" sI6 f fd) : FnOk P w K mg base CX0 (k + 1) f fd ["self", "word"] (spI1 K "word") := by
  refine F.ok scI6 (fun vs H Q E h => ?_) (fun cdv A outer s H vs Q E hr h => ?_)
  · obtain ⟨_, _, _, _, rfl, _⟩ := h
    rfl
  · obtain ⟨a, C, CE, v, rfl, T, no, ha, q⟩ := h
    exact ⟨_, pss_one (ps_x1 (pv 0) (pv 1)), v, rfl, _, rfl, a, C, CE, rfl, T, no, .inl ⟨ha, q⟩⟩
theorem bI6 {f : Addr} {fd : FuncData} (F : Fun K "__init__" "Stuck.__init__" sI6 f fd) : Binds K fd ["self", "word"] [] := F.binds (ps := ["self", "word"]) fun _ _ _ _ _ _ us hl => match us, hl with | [_, _], _ => rfl
theorem kI6 {f : Addr} {fd : FuncData} (F : Fun K "__init__" "Stuck.__init__" sI6 f fd) (s : Shared) (a : Addr) (ws : List Value) (hl : (([.ref a] : List Value) ++ ws).length = (["self", "word"] : List Str).length) :
    BindsTo s fd ⟨[.ref a], (["word"] : List Str).zip ws⟩ ((["self", "word"] : List Str).zip ([.ref a] ++ ws)) := by
  obtain ⟨oc, od, kV, doc, pm, an, cdv, ct, osl, rfl, lk, hcd⟩ := F.ex
  match ws, hl with
  | [v], _ => exact .of_eq rfl
abbrev sI7 : Stmt := inClass (topS 7) 0
theorem scI7 : FnScope ["self", "word"] ["self", "word"] (defScope sI7) := ⟨rfl, rfl, rfl, by decide +kernel, rfl, by decide +kernel, by decide +kernel⟩
theorem okI7 {f : Addr} {fd : FuncData} {k : Nat} (F : Fun K "__init__" "Spent.__init__" sI7 f fd) : FnOk P w K mg base CX0 (k + 1) f fd ["self", "word"] (spI1 K "word") := by
  refine F.ok scI7 (fun vs H Q E h => ?_) (fun cdv A outer s H vs Q E hr h => ?_)
  · obtain ⟨_, _, _, _, rfl, _⟩ := h
    rfl
  · obtain ⟨a, C, CE, v, rfl, T, no, ha, q⟩ := h
    exact ⟨_, pss_one (ps_x1 (pv 0) (pv 1)), v, rfl, _, rfl, a, C, CE, rfl, T, no, .inl ⟨ha, q⟩⟩
theorem bI7 {f : Addr} {fd : FuncData} (F : Fun K "__init__" "Spent.__init__" sI7 f fd) : Binds K fd ["self", "word"] [] := F.binds (ps := ["self", "word"]) fun _ _ _ _ _ _ us hl => match us, hl with | [_, _], _ => rfl
theorem kI7 {f : Addr} {fd : FuncData} (F : Fun K "__init__" "Spent.__init__" sI7 f fd) (s : Shared) (a : Addr) (ws : List Value) (hl : (([.ref a] : List Value) ++ ws).length = (["self", "word"] : List Str).length) :
    BindsTo s fd ⟨[.ref a], (["word"] : List Str).zip ws⟩ ((["self", "word"] : List Str).zip ([.ref a] ++ ws)) := by
  obtain ⟨oc, od, kV, doc, pm, an, cdv, ct, osl, rfl, lk, hcd⟩ := F.ex
  match ws, hl with
  | [v], _ => exact .of_eq rfl
abbrev sI8 : Stmt := inClass (topS 8) 0
theorem scI8 : FnScope ["self", "name"] ["self", "name"] (defScope sI8) := ⟨rfl, rfl, rfl, by decide +kernel, rfl, by decide +kernel, by decide +kernel⟩
theorem okI8 {f : Addr} {fd : FuncData} {k : Nat} (F : Fun K "__init__" "NoModule.__init__" sI8 f fd) : FnOk P w K mg base CX0 (k + 1) f fd ["self", "name"] (spI1 K "name") := by
  refine F.ok scI8 (fun vs H Q E h => ?_) (fun cdv A outer s H vs Q E hr h => ?_)
  · obtain ⟨_, _, _, _, rfl, _⟩ := h
    rfl
  · obtain ⟨a, C, CE, v, rfl, T, no, ha, q⟩ := h
    exact ⟨_, pss_one (ps_x1 (pv 0) (pv 1)), v, rfl, _, rfl, a, C, CE, rfl, T, no, .inl ⟨ha, q⟩⟩
theorem bI8 {f : Addr} {fd : FuncData} (F : Fun K "__init__" "NoModule.__init__" sI8 f fd) : Binds K fd ["self", "name"] [] := F.binds (ps := ["self", "name"]) fun _ _ _ _ _ _ us hl => match us, hl with | [_, _], _ => rfl
theorem kI8 {f : Addr} {fd : FuncData} (F : Fun K "__init__" "NoModule.__init__" sI8 f fd) (s : Shared) (a : Addr) (ws : List Value) (hl : (([.ref a] : List Value) ++ ws).length = (["self", "name"] : List Str).length) :
    BindsTo s fd ⟨[.ref a], (["name"] : List Str).zip ws⟩ ((["self", "name"] : List Str).zip ([.ref a] ++ ws)) := by
  obtain ⟨oc, od, kV, doc, pm, an, cdv, ct, osl, rfl, lk, hcd⟩ := F.ex
  match ws, hl with
  | [v], _ => exact .of_eq rfl
abbrev sI9 : Stmt := inClass (topS 9) 0
theorem scI9 : FnScope ["self", "name"] ["self", "name"] (defScope sI9) := ⟨rfl, rfl, rfl, by decide +kernel, rfl, by decide +kernel, by decide +kernel⟩
theorem okI9 {f : Addr} {fd : FuncData} {k : Nat} (F : Fun K "__init__" "TakenName.__init__" sI9 f fd) : FnOk P w K mg base CX0 (k + 1) f fd ["self", "name"] (spI1 K "name") := by
  refine F.ok scI9 (fun vs H Q E h => ?_) (fun cdv A outer s H vs Q E hr h => ?_)
  · obtain ⟨_, _, _, _, rfl, _⟩ := h
    rfl
  · obtain ⟨a, C, CE, v, rfl, T, no, ha, q⟩ := h
    exact ⟨_, pss_one (ps_x1 (pv 0) (pv 1)), v, rfl, _, rfl, a, C, CE, rfl, T, no, .inl ⟨ha, q⟩⟩
theorem bI9 {f : Addr} {fd : FuncData} (F : Fun K "__init__" "TakenName.__init__" sI9 f fd) : Binds K fd ["self", "name"] [] := F.binds (ps := ["self", "name"]) fun _ _ _ _ _ _ us hl => match us, hl with | [_, _], _ => rfl
theorem kI9 {f : Addr} {fd : FuncData} (F : Fun K "__init__" "TakenName.__init__" sI9 f fd) (s : Shared) (a : Addr) (ws : List Value) (hl : (([.ref a] : List Value) ++ ws).length = (["self", "name"] : List Str).length) :
    BindsTo s fd ⟨[.ref a], (["name"] : List Str).zip ws⟩ ((["self", "name"] : List Str).zip ([.ref a] ++ ws)) := by
  obtain ⟨oc, od, kV, doc, pm, an, cdv, ct, osl, rfl, lk, hcd⟩ := F.ex
  match ws, hl with
  | [v], _ => exact .of_eq rfl
abbrev sI10 : Stmt := inClass (topS 10) 0
theorem scI10 : FnScope ["self", "name"] ["self", "name"] (defScope sI10) := ⟨rfl, rfl, rfl, by decide +kernel, rfl, by decide +kernel, by decide +kernel⟩
theorem okI10 {f : Addr} {fd : FuncData} {k : Nat} (F : Fun K "__init__" "MissingUse.__init__" sI10 f fd) : FnOk P w K mg base CX0 (k + 1) f fd ["self", "name"] (spI1 K "name") := by
  refine F.ok scI10 (fun vs H Q E h => ?_) (fun cdv A outer s H vs Q E hr h => ?_)
  · obtain ⟨_, _, _, _, rfl, _⟩ := h
    rfl
  · obtain ⟨a, C, CE, v, rfl, T, no, ha, q⟩ := h
    exact ⟨_, pss_one (ps_x1 (pv 0) (pv 1)), v, rfl, _, rfl, a, C, CE, rfl, T, no, .inl ⟨ha, q⟩⟩
theorem bI10 {f : Addr} {fd : FuncData} (F : Fun K "__init__" "MissingUse.__init__" sI10 f fd) : Binds K fd ["self", "name"] [] := F.binds (ps := ["self", "name"]) fun _ _ _ _ _ _ us hl => match us, hl with | [_, _], _ => rfl
theorem kI10 {f : Addr} {fd : FuncData} (F : Fun K "__init__" "MissingUse.__init__" sI10 f fd) (s : Shared) (a : Addr) (ws : List Value) (hl : (([.ref a] : List Value) ++ ws).length = (["self", "name"] : List Str).length) :
    BindsTo s fd ⟨[.ref a], (["name"] : List Str).zip ws⟩ ((["self", "name"] : List Str).zip ([.ref a] ++ ws)) := by
  obtain ⟨oc, od, kV, doc, pm, an, cdv, ct, osl, rfl, lk, hcd⟩ := F.ex
  match ws, hl with
  | [v], _ => exact .of_eq rfl
abbrev sI11 : Stmt := inClass (topS 11) 0
theorem scI11 : FnScope ["self", "name"] ["self", "name"] (defScope sI11) := ⟨rfl, rfl, rfl, by decide +kernel, rfl, by decide +kernel, by decide +kernel⟩
theorem okI11 {f : Addr} {fd : FuncData} {k : Nat} (F : Fun K "__init__" "InUse.__init__" sI11 f fd) : FnOk P w K mg base CX0 (k + 1) f fd ["self", "name"] (spI1 K "name") := by
  refine F.ok scI11 (fun vs H Q E h => ?_) (fun cdv A outer s H vs Q E hr h => ?_)
  · obtain ⟨_, _, _, _, rfl, _⟩ := h
    rfl
  · obtain ⟨a, C, CE, v, rfl, T, no, ha, q⟩ := h
    exact ⟨_, pss_one (ps_x1 (pv 0) (pv 1)), v, rfl, _, rfl, a, C, CE, rfl, T, no, .inl ⟨ha, q⟩⟩
theorem bI11 {f : Addr} {fd : FuncData} (F : Fun K "__init__" "InUse.__init__" sI11 f fd) : Binds K fd ["self", "name"] [] := F.binds (ps := ["self", "name"]) fun _ _ _ _ _ _ us hl => match us, hl with | [_, _], _ => rfl
theorem kI11 {f : Addr} {fd : FuncData} (F : Fun K "__init__" "InUse.__init__" sI11 f fd) (s : Shared) (a : Addr) (ws : List Value) (hl : (([.ref a] : List Value) ++ ws).length = (["self", "name"] : List Str).length) :
    BindsTo s fd ⟨[.ref a], (["name"] : List Str).zip ws⟩ ((["self", "name"] : List Str).zip ([.ref a] ++ ws)) := by
  obtain ⟨oc, od, kV, doc, pm, an, cdv, ct, osl, rfl, lk, hcd⟩ := F.ex
  match ws, hl with
  | [v], _ => exact .of_eq rfl
abbrev sI12 : Stmt := inClass (topS 12) 0
theorem scI12 : FnScope ["self", "name"] ["self", "name"] (defScope sI12) := ⟨rfl, rfl, rfl, by decide +kernel, rfl, by decide +kernel, by decide +kernel⟩
theorem okI12 {f : Addr} {fd : FuncData} {k : Nat} (F : Fun K "__init__" "NotClosed.__init__" sI12 f fd) : FnOk P w K mg base CX0 (k + 1) f fd ["self", "name"] (spI1 K "name") := by
  refine F.ok scI12 (fun vs H Q E h => ?_) (fun cdv A outer s H vs Q E hr h => ?_)
  · obtain ⟨_, _, _, _, rfl, _⟩ := h
    rfl
  · obtain ⟨a, C, CE, v, rfl, T, no, ha, q⟩ := h
    exact ⟨_, pss_one (ps_x1 (pv 0) (pv 1)), v, rfl, _, rfl, a, C, CE, rfl, T, no, .inl ⟨ha, q⟩⟩
theorem bI12 {f : Addr} {fd : FuncData} (F : Fun K "__init__" "NotClosed.__init__" sI12 f fd) : Binds K fd ["self", "name"] [] := F.binds (ps := ["self", "name"]) fun _ _ _ _ _ _ us hl => match us, hl with | [_, _], _ => rfl
theorem kI12 {f : Addr} {fd : FuncData} (F : Fun K "__init__" "NotClosed.__init__" sI12 f fd) (s : Shared) (a : Addr) (ws : List Value) (hl : (([.ref a] : List Value) ++ ws).length = (["self", "name"] : List Str).length) :
    BindsTo s fd ⟨[.ref a], (["name"] : List Str).zip ws⟩ ((["self", "name"] : List Str).zip ([.ref a] ++ ws)) := by
  obtain ⟨oc, od, kV, doc, pm, an, cdv, ct, osl, rfl, lk, hcd⟩ := F.ex
  match ws, hl with
  | [v], _ => exact .of_eq rfl
abbrev sI13 : Stmt := inClass (topS 13) 0
theorem scI13 : FnScope ["self", "rule", "at"] ["self", "rule", "at"] (defScope sI13) := ⟨rfl, rfl, rfl, by decide +kernel, rfl, by decide +kernel, by decide +kernel⟩
theorem okI13 {f : Addr} {fd : FuncData} {k : Nat} (F : Fun K "__init__" "Unlawful.__init__" sI13 f fd) : FnOk P w K mg base CX0 (k + 1) f fd ["self", "rule", "at"] (spI2 K "rule" "at") := by
  refine F.ok scI13 (fun vs H Q E h => ?_) (fun cdv A outer s H vs Q E hr h => ?_)
  · obtain ⟨_, _, _, _, _, rfl, _⟩ := h
    rfl
  · obtain ⟨a, C, CE, v1, v2, rfl, T, no1, no2, ha, q⟩ := h
    exact ⟨_, pss_cons (ps_x1 (pv 0) (pv 1)) (pss_one (ps_x1 (pv 0) (pv 2))), v1, rfl, _, rfl, a, C, CE, rfl, T, no1, .inl ⟨ha, fun dx nd ne => ⟨v2, rfl, _, rfl, a, C, CE, rfl, T, no2, .inr ⟨dx, _, upd_same, by rw [upd_ne ne]; exact upd_same, Nat.le_of_ble_eq_true rfl, q dx nd ne⟩⟩⟩⟩
theorem bI13 {f : Addr} {fd : FuncData} (F : Fun K "__init__" "Unlawful.__init__" sI13 f fd) : Binds K fd ["self", "rule", "at"] [] := F.binds (ps := ["self", "rule", "at"]) fun _ _ _ _ _ _ us hl => match us, hl with | [_, _, _], _ => rfl
theorem kI13 {f : Addr} {fd : FuncData} (F : Fun K "__init__" "Unlawful.__init__" sI13 f fd) (s : Shared) (a : Addr) (ws : List Value) (hl : (([.ref a] : List Value) ++ ws).length = (["self", "rule", "at"] : List Str).length) :
    BindsTo s fd ⟨[.ref a], (["rule", "at"] : List Str).zip ws⟩ ((["self", "rule", "at"] : List Str).zip ([.ref a] ++ ws)) := by
  obtain ⟨oc, od, kV, doc, pm, an, cdv, ct, osl, rfl, lk, hcd⟩ := F.ex
  match ws, hl with
  | [v, u], _ => exact .of_eq rfl
theorem kJ13 {f : Addr} {fd : FuncData} (F : Fun K "__init__" "Unlawful.__init__" sI13 f fd) (s : Shared) (a : Addr) (ws : List Value) (hl : (([.ref a] : List Value) ++ ws.reverse).length = (["self", "rule", "at"] : List Str).length) :
    BindsTo s fd ⟨[.ref a], (["at", "rule"] : List Str).zip ws⟩ ((["self", "rule", "at"] : List Str).zip ([.ref a] ++ ws.reverse)) := by
  obtain ⟨oc, od, kV, doc, pm, an, cdv, ct, osl, rfl, lk, hcd⟩ := F.ex
  have hl2 : ws.length = 2 := by simpa using hl
  match ws, hl2 with
  | [v, u], _ => exact .of_eq rfl
end
/-! ### made exceptions, as values -/
def IsX (C : Addr) (fs : List (Str × V)) (x : V) (H : Hp) : Prop := ∃ a d, x = .ref a ∧ H a = some (exo a C (some d)) ∧ H d = some (exd d fs)
theorem IsX.keep {C : Addr} {fs : List (Str × V)} {x : V} {H H' : Hp} (s : Same H H') (h : IsX C fs x H) : IsX C fs x H' := by
  obtain ⟨a, d, e, h1, h2⟩ := h
  exact ⟨a, d, e, s _ _ h1, s _ _ h2⟩
def EvX (te : TE) (σ : L2.St) (H : Hp) (R : V → Hp → Prop) : Prop := ∀ H1, Same H H1 → ∀ Q : VK, (∀ x H2, Same H1 H2 → R x H2 → Q x H2) → te σ H1 Q
def EvXs (ta : TA) (σ : L2.St) (H : Hp) (R : List V → Hp → Prop) : Prop := ∀ H1, Same H H1 → ∀ Q : List V → Hp → Prop, (∀ xs H2, Same H1 H2 → R xs H2 → Q xs H2) → ta σ H1 Q
def Stays {α : Type} (R : α → Hp → Prop) : Prop := ∀ x H H', Same H H' → R x H → R x H'
theorem xs_nil {σ : L2.St} {H : Hp} : EvXs tNil σ H (fun xs _ => xs = []) := fun H1 _ Q q => q [] H1 (Same.refl _) rfl
theorem xs_cons {te : TE} {ta : TA} {σ : L2.St} {H : Hp} {R : V → Hp → Prop} {Rs : List V → Hp → Prop} (h : EvX te σ H R) (st : Stays R) (hs : EvXs ta σ H Rs) : EvXs (tCons te ta) σ H (fun xs H' => ∃ x r, xs = x :: r ∧ R x H' ∧ Rs r H') := fun H1 e Q q =>
  h H1 e _ fun x H2 e2 r2 => hs H2 (e.trans e2) _ fun xs H3 e3 r3 => q (x :: xs) H3 (e2.trans e3) ⟨x, xs, rfl, st x _ _ e3 r2, r3⟩
/-- one value, the heap as it is -/
def EvV (te : TE) (σ : L2.St) (v : V) : Prop := ∀ (H : Hp) (Q : VK), Q v H → te σ H Q
theorem vv_var {σ : L2.St} {i : Nat} {v : V} (h : σ[i]? = some (some v)) : EvV (tVar i) σ v := fun _ _ q => ⟨v, h, q⟩
theorem x_mk1 {K : PySem.W.Frag} {C CE : Addr} {fl : Str} {te : TE} {σ : L2.St} {H : Hp} {v : V} (T : CexC K C CE) (no : PySem.W.findIn K (.ref C) fl = some none) (hv : EvV te σ v) : EvX (tMkX C (spI1 K fl) (tCons te tNil)) σ H (IsX C [(fl, v)]) := fun H1 e Q q =>
  hv H1 _ ⟨Nat.le_of_ble_eq_true rfl, fun a na => ⟨a, C, CE, v, rfl, T, no, upd_same, fun dx nd ne => ⟨rfl, q _ _ (fun b o hb => by
    have ba : b ≠ a := ne_of_none hb na
    rw [upd_ne ne] at nd
    rw [upd_ne ba, upd_ne (ne_of_none hb nd), upd_ne ba]
    exact hb) ⟨a, dx, rfl, upd_same, by rw [upd_ne ne]; exact upd_same⟩⟩⟩⟩
theorem x_mkk1 {K : PySem.W.Frag} {C CE : Addr} {fl : Str} {te : TE} {σ : L2.St} {H : Hp} {v : V} (T : CexC K C CE) (no : PySem.W.findIn K (.ref C) fl = some none) (hv : EvV te σ v) : EvX (tMkXk C (spI1 K fl) (fun l zs => l ++ zs) (tCons te tNil)) σ H (IsX C [(fl, v)]) := fun H1 e Q q =>
  hv H1 _ (fun a na => ⟨a, C, CE, v, rfl, T, no, upd_same, fun dx nd ne => ⟨rfl, q _ _ (fun b o hb => by
    have ba : b ≠ a := ne_of_none hb na
    rw [upd_ne ne] at nd
    rw [upd_ne ba, upd_ne (ne_of_none hb nd), upd_ne ba]
    exact hb) ⟨a, dx, rfl, upd_same, by rw [upd_ne ne]; exact upd_same⟩⟩⟩)
theorem made2 {H1 : Hp} {a dx C : Addr} {f1 f2 : Str} {v1 v2 : V} (na : H1 a = none) (nd : (upd H1 a (exo a C none)) dx = none) (ne : dx ≠ a) :
    Same H1 (upd (upd (upd (upd H1 a (exo a C none)) dx (exd dx [(f1, v1)])) a (exo a C (some dx))) dx (exd dx [(f2, v2), (f1, v1)])) ∧
      IsX C [(f2, v2), (f1, v1)] (.ref a) (upd (upd (upd (upd H1 a (exo a C none)) dx (exd dx [(f1, v1)])) a (exo a C (some dx))) dx (exd dx [(f2, v2), (f1, v1)])) := by
  rw [upd_ne ne] at nd
  refine ⟨fun b o hb => ?_, a, dx, rfl, by rw [upd_ne (Ne.symm ne)]; exact upd_same, upd_same⟩
  have ba : b ≠ a := ne_of_none hb na
  have bd : b ≠ dx := ne_of_none hb nd
  rw [upd_ne bd, upd_ne ba, upd_ne bd, upd_ne ba]
  exact hb
theorem x_mk2 {K : PySem.W.Frag} {C CE : Addr} {f1 f2 : Str} {t1 t2 : TE} {σ : L2.St} {H : Hp} {v1 v2 : V} (T : CexC K C CE) (no1 : PySem.W.findIn K (.ref C) f1 = some none) (no2 : PySem.W.findIn K (.ref C) f2 = some none) (h1 : EvV t1 σ v1) (h2 : EvV t2 σ v2) :
    EvX (tMkX C (spI2 K f1 f2) (tCons t1 (tCons t2 tNil))) σ H (IsX C [(f2, v2), (f1, v1)]) := fun H1 e Q q =>
  h1 H1 _ (h2 H1 _ ⟨Nat.le_of_ble_eq_true rfl, fun a na => ⟨a, C, CE, v1, v2, rfl, T, no1, no2, upd_same, fun dx nd ne => ⟨rfl, q _ _ (made2 na nd ne).1 (made2 na nd ne).2⟩⟩⟩)
theorem x_mkk2 {K : PySem.W.Frag} {C CE : Addr} {f1 f2 : Str} {t1 t2 : TE} {σ : L2.St} {H : Hp} {v1 v2 : V} (T : CexC K C CE) (no1 : PySem.W.findIn K (.ref C) f1 = some none) (no2 : PySem.W.findIn K (.ref C) f2 = some none) (h1 : EvV t1 σ v1) (h2 : EvV t2 σ v2) :
    EvX (tMkXk C (spI2 K f1 f2) (fun l zs => l ++ zs) (tCons t1 (tCons t2 tNil))) σ H (IsX C [(f2, v2), (f1, v1)]) := fun H1 e Q q =>
  h1 H1 _ (h2 H1 _ (fun a na => ⟨a, C, CE, v1, v2, rfl, T, no1, no2, upd_same, fun dx nd ne => ⟨rfl, q _ _ (made2 na nd ne).1 (made2 na nd ne).2⟩⟩))
theorem x_mkr2 {K : PySem.W.Frag} {C CE : Addr} {f1 f2 : Str} {t1 t2 : TE} {σ : L2.St} {H : Hp} {v1 v2 : V} (T : CexC K C CE) (no1 : PySem.W.findIn K (.ref C) f1 = some none) (no2 : PySem.W.findIn K (.ref C) f2 = some none) (h1 : EvV t1 σ v1) (h2 : EvV t2 σ v2) :
    EvX (tMkXk C (spI2 K f1 f2) (fun l zs => l ++ zs.reverse) (tCons t2 (tCons t1 tNil))) σ H (IsX C [(f2, v2), (f1, v1)]) := fun H1 e Q q =>
  h2 H1 _ (h1 H1 _ (fun a na => ⟨a, C, CE, v1, v2, rfl, T, no1, no2, upd_same, fun dx nd ne => ⟨rfl, q _ _ (made2 na nd ne).1 (made2 na nd ne).2⟩⟩))
end Cw

set_option Elab.async false
set_option linter.all false
set_option maxRecDepth 100000
set_option maxHeartbeats 4000000
namespace Cw
open PySem PySem.Spec PyProof.Rows L2 PySem.CwEx
/-! ### what the top has written -/
structure Cla where
  c : List Addr
  CE : Addr
structure Txt (K : PySem.W.Frag) (mg : Str → Option Value) (CE C2 C3 C4 C5 C6 C7 C8 C9 C10 C11 C12 C13 f2 f3 f4 f5 f6 f7 f8 f9 f10 f11 f12 f13 : Addr) (d2 d3 d4 d5 d6 d7 d8 d9 d10 d11 d12 d13 : FuncData) : Prop where
  e2 : EC K mg "BadValue" "BadValue.__init__" sI2 ["at"] CE C2 f2 d2
  e3 : EC K mg "BadText" "BadText.__init__" sI3 ["at"] CE C3 f3 d3
  e4 : EC K mg "BadTree" "BadTree.__init__" sI4 ["at"] CE C4 f4 d4
  e5 : EC K mg "NoBest" "NoBest.__init__" sI5 ["word"] CE C5 f5 d5
  e6 : EC K mg "Stuck" "Stuck.__init__" sI6 ["word"] CE C6 f6 d6
  e7 : EC K mg "Spent" "Spent.__init__" sI7 ["word"] CE C7 f7 d7
  e8 : EC K mg "NoModule" "NoModule.__init__" sI8 ["name"] CE C8 f8 d8
  e9 : EC K mg "TakenName" "TakenName.__init__" sI9 ["name"] CE C9 f9 d9
  e10 : EC K mg "MissingUse" "MissingUse.__init__" sI10 ["name"] CE C10 f10 d10
  e11 : EC K mg "InUse" "InUse.__init__" sI11 ["name"] CE C11 f11 d11
  e12 : EC K mg "NotClosed" "NotClosed.__init__" sI12 ["name"] CE C12 f12 d12
  e13 : EC K mg "Unlawful" "Unlawful.__init__" sI13 ["rule", "at"] CE C13 f13 d13
  gCE : mg "CallError" = some (.ref CE)
  tab : ∀ (i j : Nat) (Ci Cj : Addr), [C2, C3, C4, C5, C6, C7, C8, C9, C10, C11, C12, C13][i]? = some Ci → [C2, C3, C4, C5, C6, C7, C8, C9, C10, C11, C12, C13][j]? = some Cj → PySem.W.kitOne K (.ref Ci) (.ref Cj) = some (decide (i = j))
  far : ∀ C, C ∈ [C2, C3, C4, C5, C6, C7, C8, C9, C10, C11, C12, C13] → PySem.W.kitOne K (.ref C) (.type "ValueError") = some false ∧ PySem.W.kitOne K (.ref C) (.type "LookupError") = some false ∧ PySem.W.kitOne K (.ref C) (.type "ArithmeticError") = some false ∧
    PySem.W.kitOne K (.ref C) (.type "Exception") = some true ∧ PySem.W.kitOne K (.ref C) (.ref CE) = some true
  x6 : PySem.W.exmOne K (.ref C6) (.ref CE) = some true
  x8 : PySem.W.exmOne K (.ref C8) (.ref CE) = some true
abbrev sOf : Stmt := topS 19
abbrev sFor : Stmt := topS 20
abbrev sCau : Stmt := topS 21
theorem scOf : FnScope ["value", "made"] ["value"] (defScope sOf) := ⟨rfl, rfl, rfl, by decide +kernel, rfl, by decide +kernel, by decide +kernel⟩
theorem scFor : FnScope ["value"] ["value"] (defScope sFor) := ⟨rfl, rfl, rfl, by decide +kernel, rfl, by decide +kernel, by decide +kernel⟩
theorem scCau : FnScope ["name", "wrong"] ["name"] (defScope sCau) := ⟨rfl, rfl, rfl, by decide +kernel, rfl, by decide +kernel, by decide +kernel⟩
/-- the i-th of the classes cs -/
def spOf (K : PySem.W.Frag) (cs : List Addr) : Sp := fun vs H Q _ => ∃ (x : V) (i : Nat) (C CE : Addr) (fs : List (Str × V)), vs = [x] ∧ cs[i]? = some C ∧ CexC K C CE ∧ IsX C fs x H ∧
  ∀ p H', H p = none → Same H H' → H' p = some (.lst ((List.range 12).map fun j => V.bl (decide (i = j)))) → Q (.ref p) H'
def spFor (K : PySem.W.Frag) (cs : List Addr) : Sp := fun vs H Q _ => ∃ (x : V) (C CE : Addr) (fs : List (Str × V)), vs = [x] ∧ C ∈ cs ∧ CexC K C CE ∧ IsX C fs x H ∧ Q (.bl false) H
def spCau : Sp := fun vs H Q _ => ∃ (z : Str), vs = [.str z] ∧ ∀ H', Same H H' → Q (.bl (!decide (z = ""))) H'
theorem r_isx {K : PySem.W.Frag} {σ : L2.St} {H : Hp} {x : V} {C CE : Addr} {fs : List (Str × V)} {c : V} {u : Value} {b : Bool} {i : Nat} {Q : VK} (e : σ[i]? = some (some x)) (h : IsX C fs x H) (T : CexC K C CE) (hc : ClsV c u) (kb : PySem.W.kitOne K (.ref C) u = some b) (q : Q (.bl b) H) :
    tCB (rIsX K) (tCons (tVar i) (tCons (tC c) tNil)) σ H Q := by
  obtain ⟨a, d, rfl, h1, h2⟩ := h
  exact ⟨.ref a, e, a, C, CE, d, c, u, b, rfl, hc, T, h1, ⟨fs, h2⟩, kb, q⟩
section
variable {P : Program} {w : World} {K : PySem.W.Frag} {mg : Str → Option Value} {base : Heap} {CE C2 C3 C4 C5 C6 C7 C8 C9 C10 C11 C12 C13 f2 f3 f4 f5 f6 f7 f8 f9 f10 f11 f12 f13 : Addr} {d2 d3 d4 d5 d6 d7 d8 d9 d10 d11 d12 d13 : FuncData}
theorem ok_of (T : Txt K mg CE C2 C3 C4 C5 C6 C7 C8 C9 C10 C11 C12 C13 f2 f3 f4 f5 f6 f7 f8 f9 f10 f11 f12 f13 d2 d3 d4 d5 d6 d7 d8 d9 d10 d11 d12 d13) {f : Addr} {fd : FuncData} {k : Nat} (F : Fun K "_law_of" "_law_of" sOf f fd) (ms : mg "isinstance" = none) :
    FnOk P w K mg base CX0 (k + 1) f fd ["value"] (spOf K [C2, C3, C4, C5, C6, C7, C8, C9, C10, C11, C12, C13]) := by
  refine F.ok scOf (fun vs H Q E h => ?_) (fun cdv A outer s H vs Q E hr h => ?_)
  · obtain ⟨_, _, _, _, _, rfl, _⟩ := h
    rfl
  · obtain ⟨x, i, C, CE', fs, rfl, hi, hC, hx, q⟩ := h
    refine ⟨_, pss_cons (ps_set (i := 1) scOf.nd rfl (.inl rfl) (pe_lst (pa_cons (pe_callB call_isX (by rfl) ms (by decide +kernel) (pa_cons (pv 0) (pa_cons (pe_glob (v := .ref C2) rfl T.e2.gC rfl) pa_nil)))
        (pa_cons (pe_callB call_isX (by rfl) ms (by decide +kernel) (pa_cons (pv 0) (pa_cons (pe_glob (v := .ref C3) rfl T.e3.gC rfl) pa_nil)))
        (pa_cons (pe_callB call_isX (by rfl) ms (by decide +kernel) (pa_cons (pv 0) (pa_cons (pe_glob (v := .ref C4) rfl T.e4.gC rfl) pa_nil)))
        (pa_cons (pe_callB call_isX (by rfl) ms (by decide +kernel) (pa_cons (pv 0) (pa_cons (pe_glob (v := .ref C5) rfl T.e5.gC rfl) pa_nil))) pa_nil))))))
      (pss_cons (ps_set (i := 1) scOf.nd rfl (.inl rfl) (pe_op op_cat (pv 1) (pe_lst (pa_cons (pe_callB call_isX (by rfl) ms (by decide +kernel) (pa_cons (pv 0) (pa_cons (pe_glob (v := .ref C6) rfl T.e6.gC rfl) pa_nil)))
        (pa_cons (pe_callB call_isX (by rfl) ms (by decide +kernel) (pa_cons (pv 0) (pa_cons (pe_glob (v := .ref C7) rfl T.e7.gC rfl) pa_nil)))
        (pa_cons (pe_callB call_isX (by rfl) ms (by decide +kernel) (pa_cons (pv 0) (pa_cons (pe_glob (v := .ref C8) rfl T.e8.gC rfl) pa_nil)))
        (pa_cons (pe_callB call_isX (by rfl) ms (by decide +kernel) (pa_cons (pv 0) (pa_cons (pe_glob (v := .ref C9) rfl T.e9.gC rfl) pa_nil))) pa_nil)))))))
      (pss_one (ps_ret (pe_op op_cat (pv 1) (pe_lst (pa_cons (pe_callB call_isX (by rfl) ms (by decide +kernel) (pa_cons (pv 0) (pa_cons (pe_glob (v := .ref C10) rfl T.e10.gC rfl) pa_nil)))
        (pa_cons (pe_callB call_isX (by rfl) ms (by decide +kernel) (pa_cons (pv 0) (pa_cons (pe_glob (v := .ref C11) rfl T.e11.gC rfl) pa_nil)))
        (pa_cons (pe_callB call_isX (by rfl) ms (by decide +kernel) (pa_cons (pv 0) (pa_cons (pe_glob (v := .ref C12) rfl T.e12.gC rfl) pa_nil)))
        (pa_cons (pe_callB call_isX (by rfl) ms (by decide +kernel) (pa_cons (pv 0) (pa_cons (pe_glob (v := .ref C13) rfl T.e13.gC rfl) pa_nil))) pa_nil))))))))), ?_⟩
    have kt : ∀ (j : Nat) (Cj : Addr), [C2, C3, C4, C5, C6, C7, C8, C9, C10, C11, C12, C13][j]? = some Cj → PySem.W.kitOne K (.ref C) (.ref Cj) = some (decide (i = j)) := fun j Cj hj => T.tab i j C Cj hi hj
    refine r_isx rfl hx hC (.own _) (kt 0 _ rfl) (r_isx rfl hx hC (.own _) (kt 1 _ rfl) (r_isx rfl hx hC (.own _) (kt 2 _ rfl) (r_isx rfl hx hC (.own _) (kt 3 _ rfl) ⟨by show 4 ≤ sizeLine; decide, fun p np => ?_⟩)))
    have s1 := same_upd (o := .lst [V.bl (decide (i = 0)), V.bl (decide (i = 1)), V.bl (decide (i = 2)), V.bl (decide (i = 3))]) np
    have hx1 := hx.keep s1
    refine ⟨.ref p, rfl, r_isx rfl hx1 hC (.own _) (kt 4 _ rfl) (r_isx rfl hx1 hC (.own _) (kt 5 _ rfl) (r_isx rfl hx1 hC (.own _) (kt 6 _ rfl) (r_isx rfl hx1 hC (.own _) (kt 7 _ rfl) ⟨by show 4 ≤ sizeLine; decide, fun p2 np2 => ?_⟩)))⟩
    have s2 := same_upd (o := .lst [V.bl (decide (i = 4)), V.bl (decide (i = 5)), V.bl (decide (i = 6)), V.bl (decide (i = 7))]) np2
    refine ⟨p, p2, _, _, rfl, rfl, s2 _ _ upd_same, upd_same, by show 8 ≤ sizeLine; decide, fun p3 np3 => ?_⟩
    have s3 := same_upd (o := .lst ([V.bl (decide (i = 0)), V.bl (decide (i = 1)), V.bl (decide (i = 2)), V.bl (decide (i = 3))] ++ [V.bl (decide (i = 4)), V.bl (decide (i = 5)), V.bl (decide (i = 6)), V.bl (decide (i = 7))])) np3
    have hx3 := (hx1.keep s2).keep s3
    refine ⟨.ref p3, rfl, r_isx rfl hx3 hC (.own _) (kt 8 _ rfl) (r_isx rfl hx3 hC (.own _) (kt 9 _ rfl) (r_isx rfl hx3 hC (.own _) (kt 10 _ rfl) (r_isx rfl hx3 hC (.own _) (kt 11 _ rfl) ⟨by show 4 ≤ sizeLine; decide, fun p4 np4 => ?_⟩)))⟩
    have s4 := same_upd (o := .lst [V.bl (decide (i = 8)), V.bl (decide (i = 9)), V.bl (decide (i = 10)), V.bl (decide (i = 11))]) np4
    refine ⟨p3, p4, _, _, rfl, rfl, s4 _ _ upd_same, upd_same, by show 12 ≤ sizeLine; decide, fun p5 np5 => ?_⟩
    have s5 := same_upd (o := .lst (([V.bl (decide (i = 0)), V.bl (decide (i = 1)), V.bl (decide (i = 2)), V.bl (decide (i = 3))] ++ [V.bl (decide (i = 4)), V.bl (decide (i = 5)), V.bl (decide (i = 6)), V.bl (decide (i = 7))]) ++ [V.bl (decide (i = 8)), V.bl (decide (i = 9)), V.bl (decide (i = 10)), V.bl (decide (i = 11))])) np5
    have all := (((s1.trans s2).trans s3).trans s4)
    exact q p5 _ (all.free np5) (all.trans s5) upd_same
theorem ok_for (T : Txt K mg CE C2 C3 C4 C5 C6 C7 C8 C9 C10 C11 C12 C13 f2 f3 f4 f5 f6 f7 f8 f9 f10 f11 f12 f13 d2 d3 d4 d5 d6 d7 d8 d9 d10 d11 d12 d13) {f : Addr} {fd : FuncData} {k : Nat} (F : Fun K "_law_foreign" "_law_foreign" sFor f fd) (ms : mg "isinstance" = none)
    (m1 : mg "ValueError" = none) (m2 : mg "LookupError" = none) (m3 : mg "ArithmeticError" = none) (m4 : mg "Exception" = none) :
    FnOk P w K mg base CX0 (k + 1) f fd ["value"] (spFor K [C2, C3, C4, C5, C6, C7, C8, C9, C10, C11, C12, C13]) := by
  refine F.ok scFor (fun vs H Q E h => ?_) (fun cdv A outer s H vs Q E hr h => ?_)
  · obtain ⟨_, _, _, _, rfl, _⟩ := h
    rfl
  · obtain ⟨x, C, CE', fs, rfl, hC, hE, hx, q⟩ := h
    obtain ⟨t1, t2, t3, t4, _⟩ := T.far C hC
    refine ⟨_, pss_cons (ps_if (PW.pt (pw_or (pt_val (pe_callB call_isX (by rfl) ms (by decide +kernel) (pa_cons (pv 0) (pa_cons (pe_bltn (v := .ty "ValueError") (by rfl) m1 (by decide +kernel) rfl) pa_nil))))
          (pw_or1 (pt_val (pe_callB call_isX (by rfl) ms (by decide +kernel) (pa_cons (pv 0) (pa_cons (pe_bltn (v := .ty "LookupError") (by rfl) m2 (by decide +kernel) rfl) pa_nil))))))) (pss_one (ps_ret pe_bl)) pss_nil)
      (pss_one (ps_ret (pe_or (pe_callB call_isX (by rfl) ms (by decide +kernel) (pa_cons (pv 0) (pa_cons (pe_bltn (v := .ty "ArithmeticError") (by rfl) m3 (by decide +kernel) rfl) pa_nil)))
          (pe_one (pe_not (pe_callB call_isX (by rfl) ms (by decide +kernel) (pa_cons (pv 0) (pa_cons (pe_bltn (v := .ty "Exception") (by rfl) m4 (by decide +kernel) rfl) pa_nil)))))))), ?_⟩
    refine r_isx rfl hx hE (.ty _) t1 ⟨false, rfl, iteF (r_isx rfl hx hE (.ty _) t2 ⟨false, rfl, iteF ?_⟩)⟩
    exact r_isx rfl hx hE (.ty _) t3 ⟨false, rfl, iteF (r_isx rfl hx hE (.ty _) t4 ⟨true, rfl, q⟩)⟩
theorem ok_cau (T : Txt K mg CE C2 C3 C4 C5 C6 C7 C8 C9 C10 C11 C12 C13 f2 f3 f4 f5 f6 f7 f8 f9 f10 f11 f12 f13 d2 d3 d4 d5 d6 d7 d8 d9 d10 d11 d12 d13) {f : Addr} {fd : FuncData} {k : Nat} (F : Fun K "_law_caught" "_law_caught" sCau f fd) (ms : mg "isinstance" = none) :
    FnOk P w K mg base CX0 (k + 4) f fd ["name"] spCau := by
  have G6 : FnOk P w K mg base CX0 1 f6 d6 ["self", "word"] (spI1 K "word") := okI6 T.e6.F
  have G8 : FnOk P w K mg base CX0 1 f8 d8 ["self", "name"] (spI1 K "name") := okI8 T.e8.F
  refine F.ok scCau (fun vs H Q E h => ?_) (fun cdv A outer s H vs Q E hr h => ?_)
  · obtain ⟨_, rfl, _⟩ := h
    rfl
  · obtain ⟨z, rfl, q⟩ := h
    have hr1 : Room 2 _ := hr.mono (by omega)
    refine ⟨_, pss_one (ps_try_as (i := 1) (Wout := fun _ _ _ _ => False) rfl rfl scCau.nd rfl rfl ⟨rfl, by decide, Or.inl T.gCE⟩ takes0
      (fun W pn xe tk _ => pss_cons (ps_if (pt_cmpR op_eq (pv 0) pe_str (nomark _)) (pss_one (ps_raise rfl tk (by exact (pmk_cx T.e6.cx T.e6.iC T.e6.tI G6 hr1 (bI6 T.e6.F) pass0 rfl T.e6.gC (pa_cons pe_str pa_nil))))) pss_nil)
        (pss_one (ps_raise rfl tk (by exact (pmk_cx T.e8.cx T.e8.iC T.e8.tI G8 hr1 (bI8 T.e8.F) pass0 rfl T.e8.gC (pa_cons (pv 0) pa_nil))))))
      (fun a oe cls d pn hz hf => pss_one (ps_ret (pe_callB (by exact (call_isH hz hf)) (by rfl) ms (by decide +kernel) (pa_cons (pv 1) (pa_cons (pe_glob (v := .ref C8) rfl T.e8.gC rfl) pa_nil)))))), ?_⟩
    have keepAll : ∀ (a C dx : Addr) (fl : Str) (v : V), H a = none → (upd H a (exo a C none)) dx = none → dx ≠ a →
        Same H (upd (del (upd (upd (upd H a (exo a C none)) dx (exd dx [(fl, v)])) a (exo a C (some dx))) a) dx (.xd [(fl, v)])) := fun a C dx fl v na nd ne b o hb => by
      have ba : b ≠ a := ne_of_none hb na
      rw [upd_ne ne] at nd
      have bd : b ≠ dx := ne_of_none hb nd
      rw [upd_ne bd, del_ne ba, upd_ne ba, upd_ne bd, upd_ne ba]
      exact hb
    refine ⟨.str z, rfl, rfl, _, rfl, ite2 (fun e => ?_) (fun e => ?_)⟩
    · have ez : z = "" := V.str.inj (of_decide_eq_true e)
      refine ⟨Nat.le_of_ble_eq_true rfl, fun a na => ⟨a, C6, CE, .str "none", rfl, T.e6.cx, T.e6.no _ List.mem_cons_self, upd_same, fun dx nd ne => ⟨rfl, dx, _, upd_same, by rw [upd_ne ne]; exact upd_same, by rw [upd_ne ne] at nd; exact nd, ?_⟩⟩⟩
      refine ⟨true, T.x6, fun _ a0 n0 => ?_, fun z => nomatch z⟩
      refine ⟨.ref a0, rfl, .ref C8, .ref C8, C6, CE, dx, _, rfl, .own C8, rfl, T.e6.cx, rfl, ⟨_, upd_same⟩, T.tab 4 6 C6 C8 rfl rfl, ?_⟩
      have z1 := q _ (keepAll a C6 dx "word" (.str "none") na nd ne)
      rw [ez] at z1
      exact z1
    · have ez : ¬ z = "" := fun z1 => e (decide_eq_true (congrArg V.str z1))
      refine ⟨.str z, rfl, Nat.le_of_ble_eq_true rfl, fun a na => ⟨a, C8, CE, .str z, rfl, T.e8.cx, T.e8.no _ List.mem_cons_self, upd_same, fun dx nd ne => ⟨rfl, dx, _, upd_same, by rw [upd_ne ne]; exact upd_same, by rw [upd_ne ne] at nd; exact nd, ?_⟩⟩⟩
      refine ⟨true, T.x8, fun _ a0 n0 => ?_, fun z => nomatch z⟩
      refine ⟨.ref a0, rfl, .ref C8, .ref C8, C8, CE, dx, _, rfl, .own C8, rfl, T.e8.cx, rfl, ⟨_, upd_same⟩, T.tab 6 6 C8 C8 rfl rfl, ?_⟩
      have z1 := q _ (keepAll a C8 dx "name" (.str z) na nd ne)
      rw [decide_eq_false ez] at z1
      exact z1
end
end Cw

set_option Elab.async false
set_option linter.all false
set_option maxRecDepth 100000
set_option maxHeartbeats 16000000
namespace Cw
open PySem PySem.Spec PyProof.Rows L2 PySem.CwEx
abbrev sLaw : Stmt := topS 22
theorem scL : FnScope ["script", "row", "spot", "at", "word", "other", "made", "named", "every", "k", "one"] ["script"] (defScope sLaw) := ⟨rfl, rfl, rfl, by decide +kernel, rfl, by decide +kernel, by decide +kernel⟩
theorem vals_rev : ∀ {vs : List V} {us : List Value}, Vals vs us → Vals vs.reverse us.reverse
  | _, _, .nil => .nil
  | _, _, .cons h t => by
    rw [List.reverse_cons, List.reverse_cons]
    exact (vals_rev t).append (.cons h .nil)
def spLaw (K : PySem.W.Frag) : Sp := fun vs H Q _ => ∃ (a : Addr) (ns : List Int), vs = [.ref a] ∧ SqL K H a (ns.map V.int) ∧ ns.length ≤ 63 ∧ ∀ H', Q (.bl true) H'
/-! ### the loops over made exceptions -/
theorem sqt_same {K : PySem.W.Frag} {H H' : Hp} {a : Addr} {xs : List V} (s : Same H H') (h : SqT K H a xs) : SqT K H' a xs := by
  rcases h with (h | ⟨o, h⟩) | h
  · exact .inl (.inl (s _ _ h))
  · exact .inl (.inr ⟨o, s _ _ h⟩)
  · exact .inr h
mutual
theorem dp_same {K : PySem.W.Frag} {H H' : Hp} (s : Same H H') : ∀ {x : V} {d : PyData}, Dp K H x d → Dp K H' x d
  | _, _, .non => .non
  | _, _, .bl b => .bl b
  | _, _, .int i => .int i
  | _, _, .str z => .str z
  | _, _, .lst h t => .lst (s.seq h) (dps_same s t)
  | _, _, .tup h t => .tup (sqt_same s h) (dps_same s t)
theorem dps_same {K : PySem.W.Frag} {H H' : Hp} (s : Same H H') : ∀ {xs : List V} {ds : List PyData}, DpAll K H xs ds → DpAll K H' xs ds
  | _, _, .nil => .nil
  | _, _, .cons h t => .cons (dp_same s h) (dps_same s t)
end
def Good (K : PySem.W.Frag) (fl : Str) (y : V) (x : V) (H : Hp) : Prop := ∃ C CE fs, CexC K C CE ∧ PySem.W.findIn K (.ref C) fl = some none ∧ fs.lookup fl = some y ∧ IsX C fs x H
theorem Good.keep {K : PySem.W.Frag} {fl : Str} {y x : V} {H H' : Hp} (s : Same H H') (h : Good K fl y x H) : Good K fl y x H' := by
  obtain ⟨C, CE, fs, a, b, c, d⟩ := h
  exact ⟨C, CE, fs, a, b, c, d.keep s⟩
theorem lk1 {f : Str} {v : V} {r : List (Str × V)} : List.lookup f ((f, v) :: r) = some v := by simp [List.lookup]
/-- the classes cs, one a value -/
def AllC : List (Addr × List (Str × V)) → List V → Hp → Prop
  | [], xs, _ => xs = []
  | p :: ps, xs, H => ∃ x r, xs = x :: r ∧ IsX p.1 p.2 x H ∧ AllC ps r H
theorem AllC.keep {H H' : Hp} (s : Same H H') : ∀ {ps : List (Addr × List (Str × V))} {xs : List V}, AllC ps xs H → AllC ps xs H'
  | [], _, h => h
  | _ :: _, _, h => by
    obtain ⟨x, r, e, h1, h2⟩ := h
    exact ⟨x, r, e, h1.keep s, AllC.keep s h2⟩
theorem AllC.len {H : Hp} : ∀ {ps : List (Addr × List (Str × V))} {xs : List V}, AllC ps xs H → xs.length = ps.length
  | [], _, h => by rw [show _ = [] from h]; rfl
  | _ :: _, _, h => by
    obtain ⟨x, r, rfl, _, h2⟩ := h
    exact congrArg Nat.succ (AllC.len h2)
theorem AllC.get {H : Hp} : ∀ {ps : List (Addr × List (Str × V))} {xs : List V}, AllC ps xs H → ∀ (i : Nat) (p : Addr × List (Str × V)), ps[i]? = some p → ∃ x, xs[i]? = some x ∧ IsX p.1 p.2 x H
  | [], _, _, i, p, e => by simp at e
  | q :: ps, _, h, i, p, e => by
    obtain ⟨x, r, rfl, h1, h2⟩ := h
    cases i with
    | zero => cases (Option.some.inj e); exact ⟨x, rfl, h1⟩
    | succ j => exact AllC.get h2 j p e
theorem AllC.mem {H : Hp} : ∀ {ps : List (Addr × List (Str × V))} {xs : List V}, AllC ps xs H → ∀ x, x ∈ xs → ∃ p, p ∈ ps ∧ IsX p.1 p.2 x H
  | [], _, h, x, m => by rw [show _ = [] from h] at m; cases m
  | q :: ps, _, h, x, m => by
    obtain ⟨y, r, rfl, h1, h2⟩ := h
    rcases List.mem_cons.mp m with e | m
    · subst e; exact ⟨q, List.mem_cons_self, h1⟩
    · obtain ⟨p, hp, hx⟩ := AllC.mem h2 x m
      exact ⟨p, List.mem_cons_of_mem _ hp, hx⟩
theorem AllC.app {H : Hp} : ∀ {ps qs : List (Addr × List (Str × V))} {xs ys : List V}, AllC ps xs H → AllC qs ys H → AllC (ps ++ qs) (xs ++ ys) H
  | [], _, _, _, h, g => by rw [show _ = [] from h]; exact g
  | _ :: _, _, _, _, h, g => by
    obtain ⟨x, r, rfl, h1, h2⟩ := h
    exact ⟨x, r ++ _, rfl, h1, AllC.app h2 g⟩
theorem xc_nil {σ : L2.St} {H : Hp} : EvXs tNil σ H (AllC []) := fun H1 _ Q q => q [] H1 (Same.refl _) rfl
theorem xc_cons {te : TE} {ta : TA} {σ : L2.St} {H : Hp} {C : Addr} {fs : List (Str × V)} {ps : List (Addr × List (Str × V))} (h : EvX te σ H (IsX C fs)) (hs : EvXs ta σ H (AllC ps)) : EvXs (tCons te ta) σ H (AllC ((C, fs) :: ps)) := fun H1 e Q q =>
  h H1 e _ fun x H2 e2 r2 => hs H2 (e.trans e2) _ fun xs H3 e3 r3 => q (x :: xs) H3 (e2.trans e3) ⟨x, xs, rfl, r2.keep e3, r3⟩
def LstC (ps : List (Addr × List (Str × V))) (x : V) (H : Hp) : Prop := ∃ p xs, x = .ref p ∧ H p = some (.lst xs) ∧ AllC ps xs H
theorem LstC.keep {ps : List (Addr × List (Str × V))} {x : V} {H H' : Hp} (s : Same H H') (h : LstC ps x H) : LstC ps x H' := by
  obtain ⟨p, xs, e, h1, h2⟩ := h
  exact ⟨p, xs, e, s _ _ h1, h2.keep s⟩
theorem x_lst {ta : TA} {σ : L2.St} {H : Hp} {ps : List (Addr × List (Str × V))} (h : EvXs ta σ H (AllC ps)) (few : ps.length ≤ 1000) : EvX (tLst ta) σ H (LstC ps) := fun H1 e Q q =>
  h H1 e _ fun xs H2 e2 r => ⟨Nat.le_of_lt (small1000 (by rw [r.len]; exact few)), fun p np => q (.ref p) _ (e2.trans (same_upd np)) ⟨p, xs, rfl, upd_same, r.keep (same_upd np)⟩⟩
theorem x_cat {t1 t2 : TE} {σ : L2.St} {H : Hp} {ps qs : List (Addr × List (Str × V))} (h1 : EvX t1 σ H (LstC ps)) (h2 : EvX t2 σ H (LstC qs)) (few : ps.length + qs.length ≤ 1000) : EvX (tOp rCat t1 t2) σ H (LstC (ps ++ qs)) := fun H1 e Q q =>
  h1 H1 e _ fun x H2 e2 r1 => h2 H2 (e.trans e2) _ fun y H3 e3 r2 => by
    obtain ⟨p, xs, rfl, a1, a2⟩ := r1.keep e3
    obtain ⟨p2, ys, rfl, b1, b2⟩ := r2
    exact ⟨p, p2, xs, ys, rfl, rfl, a1, b1, Nat.le_of_lt (small1000 (by rw [a2.len, b2.len]; exact few)), fun p3 np => q (.ref p3) _ ((e2.trans e3).trans (same_upd np)) ⟨p3, _, rfl, upd_same, (a2.keep (same_upd np)).app (b2.keep (same_upd np))⟩⟩
theorem x_var {σ : L2.St} {H : Hp} {i : Nat} {x : V} {ps : List (Addr × List (Str × V))} (e : σ[i]? = some (some x)) (h : LstC ps x H) : EvX (tVar i) σ H (LstC ps) := fun H1 s Q q => ⟨x, e, q x H1 (Same.refl _) (h.keep s)⟩
theorem loop_so {K : PySem.W.Frag} {σ : L2.St} {H : Hp} {te : TE} {i n : Nat} {fl : Str} {y : V} {m : PyData} {D : Ends} {ps : List (Addr × List (Str × V))} (hx : EvX te σ H (LstC ps)) (hg : ∀ p, p ∈ ps → ∃ CE, CexC K p.1 CE ∧ PySem.W.findIn K (.ref p.1) fl = some none ∧ p.2.lookup fl = some y)
    (hy : ∀ c, (σ.set 6 c)[i]? = some (some y)) (h6 : 6 < σ.length) (h0 : ∃ c, σ = σ.set 6 c) (hd : Dp K H y m) (hf : fits n m) (hs : so n m m = true) (k : ∀ c H', Same H H' → D.nx (σ.set 6 c) H') :
    tFor (iList K te) (gName 6) (tIfS (tNot (tB (tCall (spSo K (n + 1)) [] E0 (tCons (tXf2 K (tVar 6) fl) (tCons (tVar i) tNil))))) (tRet (tC (.bl false))) tNext) D σ H :=
  hx H (Same.refl _) _ fun x H1 e1 r => by
    obtain ⟨p, xs, rfl, hp, hc⟩ := r
    refine ⟨p, rfl, ⟨xs, SqL.of hp⟩, for_list (xs := xs) (fun _ σ' H' => (∃ c, σ' = σ.set 6 c) ∧ Same H1 H') ⟨h0, Same.refl _⟩ (fun _ _ H' _ g => SqL.of (g.2 _ _ hp)) ?_ ?_⟩
    · rintro j x σ' H' hj ⟨⟨c, rfl⟩, s⟩
      obtain ⟨q, hq, a, d, rfl, a1, a2⟩ := hc.mem x (List.mem_of_getElem? hj)
      obtain ⟨CE, T, no, lk⟩ := hg q hq
      have e6 : (σ.set 6 c).set 6 (some (.ref a)) = σ.set 6 (some (.ref a)) := List.set_set ..
      show tIfS _ _ _ _ ((σ.set 6 c).set 6 (some (.ref a))) H'
      rw [e6]
      have hd' := dp_same (e1.trans s) hd
      refine ⟨.ref a, List.getElem?_set_self h6, a, q.1, CE, d, q.2, y, rfl, T, no, s _ _ a1, s _ _ a2, lk, y, hy _, y, y, m, m, rfl, hd', hd', hf, _, rfl, ?_⟩
      rw [hs]
      exact iteF ⟨⟨_, rfl⟩, s⟩
    · rintro σ' H' ⟨⟨c, rfl⟩, s⟩
      exact k c H' (e1.trans s)
theorem q_asgX {te : TE} {σ : L2.St} {H : Hp} {R : V → Hp → Prop} {D : Ends} {i : Nat} {tz : TS} (h : EvX te σ H R) (k : ∀ x H', Same H H' → R x H' → tz D (σ.set i (some x)) H') : tSeq (tAsg te (gName i)) tz D σ H := h H (Same.refl _) _ fun x H' e r => k x H' e r
theorem so_refl_int (n : Nat) (i : Int) : so n (.int i) (.int i) = true := by rw [so_int]; exact beq_self_eq_true i
theorem so_refl_str (n : Nat) (z : Str) : so n (.str z) (.str z) = true := by rw [so_str]; exact beq_self_eq_true z
theorem so_refl_two (i : Int) (z : Str) : so 2 (.tuple [.str z, .int i]) (.tuple [.str z, .int i]) = true := by
  have h1 := so_refl_str 1 z
  have h2 := so_refl_int 1 i
  show (true && (so 1 (.str z) (.str z) && (so 1 (.int i) (.int i) && true))) = true
  rw [h1, h2]
  rfl
theorem so_refl_one (i : Int) : so 2 (.tuple [.int i]) (.tuple [.int i]) = true := by
  have h2 := so_refl_int 1 i
  show (true && (so 1 (.int i) (.int i) && true)) = true
  rw [h2]
  rfl
theorem below4 {z : Int} (h0 : 0 ≤ z) (h : z < 4) : z = 0 ∨ z = 1 ∨ z = 2 ∨ z = 3 := by omega
theorem below5 {z : Int} (h0 : 0 ≤ z) (h : z < 5) : z = 0 ∨ z = 1 ∨ z = 2 ∨ z = 3 ∨ z = 4 := by omega
theorem loop_un {K : PySem.W.Frag} {σ : L2.St} {H : Hp} {te : TE} {z : Str} {v : Int} {D : Ends} {ps : List (Addr × List (Str × V))} (hx : EvX te σ H (LstC ps))
    (hg : ∀ p, p ∈ ps → ∃ CE, CexC K p.1 CE ∧ PySem.W.findIn K (.ref p.1) "rule" = some none ∧ PySem.W.findIn K (.ref p.1) "at" = some none ∧ List.lookup ("rule" : Str) p.2 = some (V.str z) ∧ List.lookup ("at" : Str) p.2 = some (V.int v))
    (hy4 : ∀ c, (σ.set 6 c)[4]? = some (some (.str z))) (hy3 : ∀ c, (σ.set 6 c)[3]? = some (some (.int v))) (h6 : 6 < σ.length) (h0 : ∃ c, σ = σ.set 6 c) (k : ∀ c H', Same H H' → D.nx (σ.set 6 c) H') :
    tFor (iList K te) (gName 6) (tIfS (tNot (tB (tCall (spSo K 3) [] E0 (tCons (tTup (tCons (tXf2 K (tVar 6) "rule") (tCons (tXf2 K (tVar 6) "at") tNil))) (tCons (tTup (tCons (tVar 4) (tCons (tVar 3) tNil))) tNil))))) (tRet (tC (.bl false))) tNext) D σ H :=
  hx H (Same.refl _) _ fun x H1 e1 r => by
    obtain ⟨p, xs, rfl, hp, hc⟩ := r
    refine ⟨p, rfl, ⟨xs, SqL.of hp⟩, for_list (xs := xs) (fun _ σ' H' => (∃ c, σ' = σ.set 6 c) ∧ Same H1 H') ⟨h0, Same.refl _⟩ (fun _ _ H' _ g => SqL.of (g.2 _ _ hp)) ?_ ?_⟩
    · rintro j x σ' H' hj ⟨⟨c, rfl⟩, s⟩
      obtain ⟨q, hq, a, d, rfl, a1, a2⟩ := hc.mem x (List.mem_of_getElem? hj)
      obtain ⟨CE, T, no1, no2, l1, l2⟩ := hg q hq
      have e6 : (σ.set 6 c).set 6 (some (.ref a)) = σ.set 6 (some (.ref a)) := List.set_set ..
      show tIfS _ _ _ _ ((σ.set 6 c).set 6 (some (.ref a))) H'
      rw [e6]
      refine ⟨.ref a, List.getElem?_set_self h6, a, q.1, CE, d, q.2, _, rfl, T, no1, s _ _ a1, s _ _ a2, l1, .ref a, List.getElem?_set_self h6, a, q.1, CE, d, q.2, _, rfl, T, no2, s _ _ a1, s _ _ a2, l2, by show 2 ≤ sizeLine; decide, fun t1 n1 => ?_⟩
      refine ⟨_, hy4 _, _, hy3 _, by show 2 ≤ sizeLine; decide, fun t2 n2 => ?_⟩
      refine ⟨.ref t1, .ref t2, .tuple [.str z, .int v], .tuple [.str z, .int v], rfl, Dp.tup (xs := [.str z, .int v]) (.inl (.inl (same_upd n2 _ _ upd_same))) (DpAll.cons (Dp.str _) (DpAll.cons (Dp.int _) DpAll.nil)), Dp.tup (xs := [.str z, .int v]) (.inl (.inl upd_same)) (DpAll.cons (Dp.str _) (DpAll.cons (Dp.int _) DpAll.nil)), ⟨by show 2 ≤ 1000; decide, fun d hd => ?_⟩, _, rfl, ?_⟩
      · rcases List.mem_cons.mp hd with e | hd
        · subst e; exact True.intro
        · cases (List.mem_singleton.mp hd); exact True.intro
      · rw [so_refl_two]
        exact iteF ⟨⟨_, rfl⟩, s.trans ((same_upd n1).trans (same_upd n2))⟩
    · rintro σ' H' ⟨⟨c, rfl⟩, s⟩
      exact k c H' (e1.trans s)
/-- what isinstance tells of the i-th, what the law counts: one list -/
theorem same12 (i : Nat) : ((List.range 12).map fun (j : Nat) => PyData.bool (decide (i = j))) = ((List.range 12).map fun (j : Nat) => PyData.bool (decide (V.int ((0 : Int) + (j : Int)) = V.int ((0 : Int) + (i : Int))))) := by
  refine List.map_congr_left fun j _ => congrArg PyData.bool ?_
  rw [Bool.eq_iff_iff, decide_eq_true_iff, decide_eq_true_iff]
  exact ⟨fun e => by rw [e], fun e => by have := V.int.inj e; omega⟩
theorem dp_map {K : PySem.W.Frag} {H : Hp} (f : Nat → Bool) : ∀ l : List Nat, DpAll K H (l.map fun j => V.bl (f j)) (l.map fun j => PyData.bool (f j))
  | [] => .nil
  | j :: r => .cons (.bl _) (dp_map f r)
theorem dp_bools {K : PySem.W.Frag} {H : Hp} : ∀ (bs : List Bool), DpAll K H (bs.map V.bl) (bs.map PyData.bool)
  | [] => .nil
  | b :: r => .cons (.bl b) (dp_bools r)

section
variable {P : Program} {w : World} {K : PySem.W.Frag} {mg : Str → Option Value} {base : Heap} {CE C2 C3 C4 C5 C6 C7 C8 C9 C10 C11 C12 C13 f2 f3 f4 f5 f6 f7 f8 f9 f10 f11 f12 f13 : Addr} {d2 d3 d4 d5 d6 d7 d8 d9 d10 d11 d12 d13 : FuncData}
theorem ok_law (T : Txt K mg CE C2 C3 C4 C5 C6 C7 C8 C9 C10 C11 C12 C13 f2 f3 f4 f5 f6 f7 f8 f9 f10 f11 f12 f13 d2 d3 d4 d5 d6 d7 d8 d9 d10 d11 d12 d13) {f fN fT fS fO fF fC : Addr} {fd fdN fdT fdS fdO fdF fdC : FuncData} (F : Fun K "law" "law" sLaw f fd)
    (FN : Fun K "_law_numbers" "_law_numbers" sNum fN fdN) (bN : Binds K fdN ["script"] []) (gN : mg "_law_numbers" = some (.ref fN)) (GN : FnOk P w K mg base CX0 1 fN fdN ["script"] (spNum K))
    (FT : Fun K "_law_take" "_law_take" sTake fT fdT) (bT : Binds K fdT ["row", "spot", "limit"] []) (gT : mg "_law_take" = some (.ref fT)) (GT : FnOk P w K mg base CX0 2 fT fdT ["row", "spot", "limit"] (spTake K))
    (FS : Fun K "_law_so" "_law_so" sSo fS fdS) (bS : Binds K fdS ["found", "meant"] []) (gS : mg "_law_so" = some (.ref fS)) (GS : ∀ n, FnOk P w K mg base CX0 (0 + n) fS fdS ["found", "meant"] (spSo K n))
    (FO : Fun K "_law_of" "_law_of" sOf fO fdO) (bO : Binds K fdO ["value"] []) (gO : mg "_law_of" = some (.ref fO))
    (FF : Fun K "_law_foreign" "_law_foreign" sFor fF fdF) (bF : Binds K fdF ["value"] []) (gF : mg "_law_foreign" = some (.ref fF))
    (FC : Fun K "_law_caught" "_law_caught" sCau fC fdC) (bC : Binds K fdC ["name"] []) (gC : mg "_law_caught" = some (.ref fC))
    (ms : mg "isinstance" = none) (ml : mg "len" = none) (mr : mg "range" = none) (m1 : mg "ValueError" = none) (m2 : mg "LookupError" = none) (m3 : mg "ArithmeticError" = none) (m4 : mg "Exception" = none) :
    FnOk P w K mg base CX0 8 f fd ["script"] (spLaw K) := by
  have G2 : FnOk P w K mg base CX0 1 f2 d2 ["self", "at"] (spI1 K "at") := okI2 T.e2.F
  have G3 : FnOk P w K mg base CX0 1 f3 d3 ["self", "at"] (spI1 K "at") := okI3 T.e3.F
  have G4 : FnOk P w K mg base CX0 1 f4 d4 ["self", "at"] (spI1 K "at") := okI4 T.e4.F
  have G5 : FnOk P w K mg base CX0 1 f5 d5 ["self", "word"] (spI1 K "word") := okI5 T.e5.F
  have G6 : FnOk P w K mg base CX0 1 f6 d6 ["self", "word"] (spI1 K "word") := okI6 T.e6.F
  have G7 : FnOk P w K mg base CX0 1 f7 d7 ["self", "word"] (spI1 K "word") := okI7 T.e7.F
  have G8 : FnOk P w K mg base CX0 1 f8 d8 ["self", "name"] (spI1 K "name") := okI8 T.e8.F
  have G9 : FnOk P w K mg base CX0 1 f9 d9 ["self", "name"] (spI1 K "name") := okI9 T.e9.F
  have G10 : FnOk P w K mg base CX0 1 f10 d10 ["self", "name"] (spI1 K "name") := okI10 T.e10.F
  have G11 : FnOk P w K mg base CX0 1 f11 d11 ["self", "name"] (spI1 K "name") := okI11 T.e11.F
  have G12 : FnOk P w K mg base CX0 1 f12 d12 ["self", "name"] (spI1 K "name") := okI12 T.e12.F
  have G13 : FnOk P w K mg base CX0 1 f13 d13 ["self", "rule", "at"] (spI2 K "rule" "at") := okI13 T.e13.F
  have GS2 : FnOk P w K mg base CX0 3 fS fdS ["found", "meant"] (spSo K 3) := (GS 3).mono (by decide)
  have GS3 : FnOk P w K mg base CX0 3 fS fdS ["found", "meant"] (spSo K 3) := (GS 3).mono (by decide)
  have GO : FnOk P w K mg base CX0 1 fO fdO ["value"] (spOf K [C2, C3, C4, C5, C6, C7, C8, C9, C10, C11, C12, C13]) := ok_of T FO ms
  have GF : FnOk P w K mg base CX0 1 fF fdF ["value"] (spFor K [C2, C3, C4, C5, C6, C7, C8, C9, C10, C11, C12, C13]) := ok_for T FF ms m1 m2 m3 m4
  have GC : FnOk P w K mg base CX0 4 fC fdC ["name"] spCau := ok_cau T FC ms
  refine F.ok scL (fun vs H Q E h => ?_) (fun cdv A outer s H vs Q E hr h => ?_)
  · obtain ⟨_, _, rfl, _⟩ := h
    rfl
  · obtain ⟨a, ns, rfl, hS, hlen, q⟩ := h
    have hrN : Room 1 _ := hr.mono (by decide)
    have hrT : Room 2 _ := hr.mono (by decide)
    have hr2 : Room 2 _ := hr.mono (by decide)
    have hrS2 : Room 3 _ := hr.mono (by decide)
    have hrS3 : Room 3 _ := hr.mono (by decide)
    have hrO : Room 1 _ := hr.mono (by decide)
    have hrC : Room 4 _ := hr.mono (by decide)
    refine ⟨_, (pss_cons (ps_set (i := 1) scL.nd rfl (.inl rfl) (pe_call GN hrN (by rfl) gN FN.kp bN .nil pass0 (pa_cons (pv 0) pa_nil)))
      (pss_cons (ps_set (i := 2) scL.nd rfl (.inl rfl) (pe_lst (pa_cons pe_int pa_nil)))
      (pss_cons (ps_set (i := 3) scL.nd rfl (.inl rfl) (pe_op op_sub (pe_call GT hrT (by rfl) gT FT.kp bT .nil pass0 (pa_cons (pv 1) (pa_cons (pv 2) (pa_cons pe_int pa_nil)))) pe_int))
      (pss_cons (ps_set (i := 4) scL.nd rfl (.inl rfl) (pe_ix ix_list (pe_lst (pa_cons pe_str (pa_cons pe_str (pa_cons pe_str (pa_cons pe_str pa_nil))))) (pe_call GT hrT (by rfl) gT FT.kp bT .nil pass0 (pa_cons (pv 1) (pa_cons (pv 2) (pa_cons pe_int pa_nil)))) (fun _ _ => rfl)))
      (pss_cons (ps_set (i := 5) scL.nd rfl (.inl rfl) (pe_ix ix_list (pe_lst (pa_cons pe_non (pa_cons (pe_un un_neg (pv 3)) (pa_cons (pv 4) (pa_cons (pe_tup (pa_cons (pv 3) pa_nil)) (pa_cons pe_bl pa_nil)))))) (pe_call GT hrT (by rfl) gT FT.kp bT .nil pass0 (pa_cons (pv 1) (pa_cons (pv 2) (pa_cons pe_int pa_nil)))) (fun _ _ => rfl)))
      (pss_cons (ps_for PassesOwn.never rfl (pi_list (pe_lst (pa_cons (pe_mkX T.e2.cx T.e2.iC T.e2.tI G2 hr2 (bI2 T.e2.F) pass0 rfl T.e2.gC (pa_cons (pv 3) pa_nil)) (pa_cons (pe_mkX T.e3.cx T.e3.iC T.e3.tI G3 hr2 (bI3 T.e3.F) pass0 rfl T.e3.gC (pa_cons (pv 3) pa_nil)) (pa_cons (pe_mkX T.e4.cx T.e4.iC T.e4.tI G4 hr2 (bI4 T.e4.F) pass0 rfl T.e4.gC (pa_cons (pv 3) pa_nil)) (pa_cons (pe_mkXk (g := fun l ws => l ++ ws) (gV := fun l zs => l ++ zs) T.e2.cx T.e2.iC T.e2.tI G2 hr2 (fun s a ws _ hl => kI2 T.e2.F s a ws hl) (fun _ _ => rfl) (fun _ _ _ => rfl) (fun r1 r2 => Vals.append r1 r2) pass0 rfl T.e2.gC (pk_cons (pv 3) pk_nil)) (pa_cons (pe_mkXk (g := fun l ws => l ++ ws) (gV := fun l zs => l ++ zs) T.e3.cx T.e3.iC T.e3.tI G3 hr2 (fun s a ws _ hl => kI3 T.e3.F s a ws hl) (fun _ _ => rfl) (fun _ _ _ => rfl) (fun r1 r2 => Vals.append r1 r2) pass0 rfl T.e3.gC (pk_cons (pv 3) pk_nil)) (pa_cons (pe_mkXk (g := fun l ws => l ++ ws) (gV := fun l zs => l ++ zs) T.e4.cx T.e4.iC T.e4.tI G4 hr2 (fun s a ws _ hl => kI4 T.e4.F s a ws hl) (fun _ _ => rfl) (fun _ _ _ => rfl) (fun r1 r2 => Vals.append r1 r2) pass0 rfl T.e4.gC (pk_cons (pv 3) pk_nil)) pa_nil)))))))) (pg_name (i := 6) scL.nd rfl (.inl rfl)) (pss_one (ps_if (pt_not (pt_val (pe_call GS2 hrS2 (by rfl) gS FS.kp bS .nil pass0 (pa_cons (pe_xf2 (pv 6)) (pa_cons (pv 3) pa_nil))))) (pss_one (ps_ret pe_bl)) pss_nil)))
      (pss_cons (ps_for PassesOwn.never rfl (pi_list (pe_lst (pa_cons (pe_mkX T.e5.cx T.e5.iC T.e5.tI G5 hr2 (bI5 T.e5.F) pass0 rfl T.e5.gC (pa_cons (pv 4) pa_nil)) (pa_cons (pe_mkX T.e6.cx T.e6.iC T.e6.tI G6 hr2 (bI6 T.e6.F) pass0 rfl T.e6.gC (pa_cons (pv 4) pa_nil)) (pa_cons (pe_mkX T.e7.cx T.e7.iC T.e7.tI G7 hr2 (bI7 T.e7.F) pass0 rfl T.e7.gC (pa_cons (pv 4) pa_nil)) (pa_cons (pe_mkXk (g := fun l ws => l ++ ws) (gV := fun l zs => l ++ zs) T.e5.cx T.e5.iC T.e5.tI G5 hr2 (fun s a ws _ hl => kI5 T.e5.F s a ws hl) (fun _ _ => rfl) (fun _ _ _ => rfl) (fun r1 r2 => Vals.append r1 r2) pass0 rfl T.e5.gC (pk_cons (pv 4) pk_nil)) (pa_cons (pe_mkXk (g := fun l ws => l ++ ws) (gV := fun l zs => l ++ zs) T.e6.cx T.e6.iC T.e6.tI G6 hr2 (fun s a ws _ hl => kI6 T.e6.F s a ws hl) (fun _ _ => rfl) (fun _ _ _ => rfl) (fun r1 r2 => Vals.append r1 r2) pass0 rfl T.e6.gC (pk_cons (pv 4) pk_nil)) (pa_cons (pe_mkXk (g := fun l ws => l ++ ws) (gV := fun l zs => l ++ zs) T.e7.cx T.e7.iC T.e7.tI G7 hr2 (fun s a ws _ hl => kI7 T.e7.F s a ws hl) (fun _ _ => rfl) (fun _ _ _ => rfl) (fun r1 r2 => Vals.append r1 r2) pass0 rfl T.e7.gC (pk_cons (pv 4) pk_nil)) pa_nil)))))))) (pg_name (i := 6) scL.nd rfl (.inl rfl)) (pss_one (ps_if (pt_not (pt_val (pe_call GS2 hrS2 (by rfl) gS FS.kp bS .nil pass0 (pa_cons (pe_xf2 (pv 6)) (pa_cons (pv 4) pa_nil))))) (pss_one (ps_ret pe_bl)) pss_nil)))
      (pss_cons (ps_for PassesOwn.never rfl (pi_list (pe_lst (pa_cons (pe_mkX T.e8.cx T.e8.iC T.e8.tI G8 hr2 (bI8 T.e8.F) pass0 rfl T.e8.gC (pa_cons (pv 5) pa_nil)) (pa_cons (pe_mkXk (g := fun l ws => l ++ ws) (gV := fun l zs => l ++ zs) T.e8.cx T.e8.iC T.e8.tI G8 hr2 (fun s a ws _ hl => kI8 T.e8.F s a ws hl) (fun _ _ => rfl) (fun _ _ _ => rfl) (fun r1 r2 => Vals.append r1 r2) pass0 rfl T.e8.gC (pk_cons (pv 5) pk_nil)) pa_nil)))) (pg_name (i := 6) scL.nd rfl (.inl rfl)) (pss_one (ps_if (pt_not (pt_val (pe_call GS2 hrS2 (by rfl) gS FS.kp bS .nil pass0 (pa_cons (pe_xf2 (pv 6)) (pa_cons (pv 5) pa_nil))))) (pss_one (ps_ret pe_bl)) pss_nil)))
      (pss_cons (ps_set (i := 7) scL.nd rfl (.inl rfl) (pe_lst (pa_cons (pe_mkX T.e9.cx T.e9.iC T.e9.tI G9 hr2 (bI9 T.e9.F) pass0 rfl T.e9.gC (pa_cons (pv 4) pa_nil)) (pa_cons (pe_mkX T.e10.cx T.e10.iC T.e10.tI G10 hr2 (bI10 T.e10.F) pass0 rfl T.e10.gC (pa_cons (pv 4) pa_nil)) (pa_cons (pe_mkX T.e11.cx T.e11.iC T.e11.tI G11 hr2 (bI11 T.e11.F) pass0 rfl T.e11.gC (pa_cons (pv 4) pa_nil)) (pa_cons (pe_mkX T.e12.cx T.e12.iC T.e12.tI G12 hr2 (bI12 T.e12.F) pass0 rfl T.e12.gC (pa_cons (pv 4) pa_nil)) pa_nil))))))
      (pss_cons (ps_for PassesOwn.never rfl (pi_list (pe_op op_cat (pv 7) (pe_lst (pa_cons (pe_mkXk (g := fun l ws => l ++ ws) (gV := fun l zs => l ++ zs) T.e9.cx T.e9.iC T.e9.tI G9 hr2 (fun s a ws _ hl => kI9 T.e9.F s a ws hl) (fun _ _ => rfl) (fun _ _ _ => rfl) (fun r1 r2 => Vals.append r1 r2) pass0 rfl T.e9.gC (pk_cons (pv 4) pk_nil)) (pa_cons (pe_mkXk (g := fun l ws => l ++ ws) (gV := fun l zs => l ++ zs) T.e10.cx T.e10.iC T.e10.tI G10 hr2 (fun s a ws _ hl => kI10 T.e10.F s a ws hl) (fun _ _ => rfl) (fun _ _ _ => rfl) (fun r1 r2 => Vals.append r1 r2) pass0 rfl T.e10.gC (pk_cons (pv 4) pk_nil)) (pa_cons (pe_mkXk (g := fun l ws => l ++ ws) (gV := fun l zs => l ++ zs) T.e11.cx T.e11.iC T.e11.tI G11 hr2 (fun s a ws _ hl => kI11 T.e11.F s a ws hl) (fun _ _ => rfl) (fun _ _ _ => rfl) (fun r1 r2 => Vals.append r1 r2) pass0 rfl T.e11.gC (pk_cons (pv 4) pk_nil)) (pa_cons (pe_mkXk (g := fun l ws => l ++ ws) (gV := fun l zs => l ++ zs) T.e12.cx T.e12.iC T.e12.tI G12 hr2 (fun s a ws _ hl => kI12 T.e12.F s a ws hl) (fun _ _ => rfl) (fun _ _ _ => rfl) (fun r1 r2 => Vals.append r1 r2) pass0 rfl T.e12.gC (pk_cons (pv 4) pk_nil)) pa_nil))))))) (pg_name (i := 6) scL.nd rfl (.inl rfl)) (pss_one (ps_if (pt_not (pt_val (pe_call GS2 hrS2 (by rfl) gS FS.kp bS .nil pass0 (pa_cons (pe_xf2 (pv 6)) (pa_cons (pv 4) pa_nil))))) (pss_one (ps_ret pe_bl)) pss_nil)))
      (pss_cons (ps_for PassesOwn.never rfl (pi_list (pe_lst (pa_cons (pe_mkX T.e13.cx T.e13.iC T.e13.tI G13 hr2 (bI13 T.e13.F) pass0 rfl T.e13.gC (pa_cons (pv 4) (pa_cons (pv 3) pa_nil))) (pa_cons (pe_mkXk (g := fun l ws => l ++ ws) (gV := fun l zs => l ++ zs) T.e13.cx T.e13.iC T.e13.tI G13 hr2 (fun s a ws _ hl => kI13 T.e13.F s a ws hl) (fun _ _ => rfl) (fun _ _ _ => rfl) (fun r1 r2 => Vals.append r1 r2) pass0 rfl T.e13.gC (pk_cons (pv 4) (pk_cons (pv 3) pk_nil))) (pa_cons (pe_mkXk (g := fun l ws => l ++ ws.reverse) (gV := fun l zs => l ++ zs.reverse) T.e13.cx T.e13.iC T.e13.tI G13 hr2 (fun s a ws _ hl => kJ13 T.e13.F s a ws hl) (fun _ _ => rfl) (fun _ _ _ => rfl) (fun r1 r2 => Vals.append r1 (vals_rev r2)) pass0 rfl T.e13.gC (pk_cons (pv 3) (pk_cons (pv 4) pk_nil))) pa_nil))))) (pg_name (i := 6) scL.nd rfl (.inl rfl)) (pss_one (ps_if (pt_not (pt_val (pe_call GS3 hrS3 (by rfl) gS FS.kp bS .nil pass0 (pa_cons (pe_tup (pa_cons (pe_xf2 (pv 6)) (pa_cons (pe_xf2 (pv 6)) pa_nil))) (pa_cons (pe_tup (pa_cons (pv 4) (pa_cons (pv 3) pa_nil))) pa_nil))))) (pss_one (ps_ret pe_bl)) pss_nil)))
      (pss_cons (ps_set (i := 8) scL.nd rfl (.inl rfl) (pe_op op_cat (pe_op op_cat (pe_lst (pa_cons (pe_mkX T.e2.cx T.e2.iC T.e2.tI G2 hr2 (bI2 T.e2.F) pass0 rfl T.e2.gC (pa_cons (pv 3) pa_nil)) (pa_cons (pe_mkX T.e3.cx T.e3.iC T.e3.tI G3 hr2 (bI3 T.e3.F) pass0 rfl T.e3.gC (pa_cons (pv 3) pa_nil)) (pa_cons (pe_mkX T.e4.cx T.e4.iC T.e4.tI G4 hr2 (bI4 T.e4.F) pass0 rfl T.e4.gC (pa_cons (pv 3) pa_nil)) (pa_cons (pe_mkX T.e5.cx T.e5.iC T.e5.tI G5 hr2 (bI5 T.e5.F) pass0 rfl T.e5.gC (pa_cons (pv 4) pa_nil)) (pa_cons (pe_mkX T.e6.cx T.e6.iC T.e6.tI G6 hr2 (bI6 T.e6.F) pass0 rfl T.e6.gC (pa_cons (pv 4) pa_nil)) (pa_cons (pe_mkX T.e7.cx T.e7.iC T.e7.tI G7 hr2 (bI7 T.e7.F) pass0 rfl T.e7.gC (pa_cons (pv 4) pa_nil)) (pa_cons (pe_mkX T.e8.cx T.e8.iC T.e8.tI G8 hr2 (bI8 T.e8.F) pass0 rfl T.e8.gC (pa_cons (pv 5) pa_nil)) pa_nil)))))))) (pv 7)) (pe_lst (pa_cons (pe_mkX T.e13.cx T.e13.iC T.e13.tI G13 hr2 (bI13 T.e13.F) pass0 rfl T.e13.gC (pa_cons (pv 4) (pa_cons (pv 3) pa_nil))) pa_nil))))
      (pss_cons (ps_for PassesOwn.never rfl (pi_range1 rfl mr (pa_cons (pe_callB call_len_seq (by rfl) ml PySem.boot_len (pa_cons (pv 8) pa_nil)) pa_nil)) (pg_name (i := 9) scL.nd rfl (.inr rfl)) (pss_one (ps_if (PW.pt (pw_or (pt_cmpR (op_neD hr.units) (pe_call GO hrO (by rfl) gO FO.kp bO .nil pass0 (pa_cons (pe_ix ix_list (pv 8) (pv 9) (fun _ _ => rfl)) pa_nil)) (pe_lc (own := [("one", 10)]) (g := gName 10) (tt := tYes) rfl scL.nd (pi_range1 rfl mr (pa_cons pe_int pa_nil)) (blkOk_by (N := ["script", "row", "spot", "at", "word", "other", "made", "named", "every", "k", "one"]) (sc := defScope sLaw) (by decide +kernel)) (fun _ _ _ _ _ => pg_name (i := 10) scL.nd rfl (.inl rfl)) (fun _ _ _ _ _ => pts_nil) (fun _ _ _ _ _ => pe_cmpR op_eq (pv 10) (pv 9) (nomark _))) (nomark _)) (pw_or (pt_val (pe_call GF hrO (by rfl) gF FF.kp bF .nil pass0 (pa_cons (pe_ix ix_list (pv 8) (pv 9) (fun _ _ => rfl)) pa_nil))) (pw_or1 (pt_not (pt_val (pe_callB call_isX (by rfl) ms (by decide +kernel) (pa_cons (pe_ix ix_list (pv 8) (pv 9) (fun _ _ => rfl)) (pa_cons (pe_glob (v := .ref CE) rfl T.gCE rfl) pa_nil))))))))) (pss_one (ps_ret pe_bl)) pss_nil)))
      (pss_one (ps_ret (pe_and (pe_call GC hrC (by rfl) gC FC.kp bC .nil pass0 (pa_cons pe_str pa_nil)) (pe_one (pe_not (pe_call GC hrC (by rfl) gC FC.kp bC .nil pass0 (pa_cons pe_str pa_nil)))))))))))))))))))), ?_⟩
    -- row, spot
    refine ⟨.ref a, rfl, a, ns, rfl, hS, hlen, fun H1 p row s1 np hp hne hlr => ?_⟩
    refine ⟨by show 1 ≤ sizeLine; decide, fun sp nsp => ?_⟩
    have psp : p ≠ sp := fun z => by rw [← z, hp] at nsp; cases nsp
    have hp2 : (upd H1 sp (.lst [.int 0])) p = some (.lst (row.map V.int)) := by rw [upd_ne psp]; exact hp
    -- at
    refine ⟨.ref p, rfl, .ref sp, rfl, p, sp, row, 0, 997, rfl, hp2, hne, psp, upd_same, by decide, fun z _ _ => ⟨z, 9, rfl, rfl, ?_⟩⟩
    -- word
    refine ⟨by show 4 ≤ sizeLine; decide, fun l nl => ?_⟩
    have lp : p ≠ l := fun e => by
      rw [← e, upd_ne psp, hp2] at nl
      cases nl
    have lsp : sp ≠ l := fun e => by
      rw [← e, upd_same] at nl
      cases nl
    refine ⟨.ref p, rfl, .ref sp, rfl, p, sp, row, 1, 4, rfl, by rw [upd_ne lp, upd_ne psp]; exact hp2, hne, psp, by rw [upd_ne lsp]; exact upd_same, by decide, fun z2 z20 z21 => ?_⟩
    have pick : ∃ wd : Str, atI [V.str "none", V.str "many", V.str "steps", V.str ""] z2 = some (.str wd) := by
      rcases below4 z20 z21 with rfl | rfl | rfl | rfl
      · exact ⟨"none", rfl⟩
      · exact ⟨"many", rfl⟩
      · exact ⟨"steps", rfl⟩
      · exact ⟨"", rfl⟩
    obtain ⟨wd, hwd⟩ := pick
    refine ⟨l, _, z2, _, rfl, rfl, SqL.of (by rw [upd_ne (Ne.symm lsp)]; exact upd_same), hwd, ?_⟩
    -- other
    refine ⟨.int (z - 9), rfl, (z - 9), rfl, .str wd, rfl, .int (z - 9), rfl, by show 1 ≤ sizeLine; decide, fun tp ntp => ⟨by show 5 ≤ sizeLine; decide, fun l2 nl2 => ?_⟩⟩
    have keepP : ∀ {G : Hp} {b : Addr} {o : HO} {u : HO}, G b = none → ∀ {c : Addr}, G c = some u → (upd G b o) c = some u := fun n c hc => same_upd n _ _ hc
    have hp3 : (upd (upd (upd (upd H1 sp (.lst [.int 0])) sp (.lst [.int ((0 + 1 : Nat) : Int)])) l (.lst [.str "none", .str "many", .str "steps", .str ""])) sp (.lst [.int ((1 + 1 : Nat) : Int)])) p = some (.lst (row.map V.int)) := by
      rw [upd_ne psp, upd_ne lp, upd_ne psp]; exact hp2
    have tpl : tp ≠ l2 := fun e => by rw [← e, upd_same] at nl2; cases nl2
    have sptp : sp ≠ tp := fun e => by rw [← e, upd_same] at ntp; cases ntp
    have spl2 : sp ≠ l2 := fun e => by rw [← e, upd_ne sptp, upd_same] at nl2; cases nl2
    refine ⟨.ref p, rfl, .ref sp, rfl, p, sp, row, 2, 5, rfl, keepP nl2 (keepP ntp hp3), hne, psp, keepP nl2 (keepP ntp upd_same), by decide, fun z3 z30 z31 => ?_⟩
    have pick : ∃ (o : V) (m : PyData), atI [V.non, V.int (-(z - 9)), V.str wd, V.ref tp, V.bl true] z3 = some o ∧ Dp K (upd (upd (upd (upd (upd (upd (upd H1 sp (.lst [.int 0])) sp (.lst [.int ((0 + 1 : Nat) : Int)])) l (.lst [.str "none", .str "many", .str "steps", .str ""])) sp (.lst [.int ((1 + 1 : Nat) : Int)])) tp (.tup [.int (z - 9)])) l2 (.lst [.non, .int (-(z - 9)), .str wd, .ref tp, .bl true])) sp (.lst [.int ((2 + 1 : Nat) : Int)])) o m ∧ fits 2 m ∧ so 2 m m = true := by
      rcases below5 z30 z31 with rfl | rfl | rfl | rfl | rfl
      · exact ⟨_, .none, rfl, .non, True.intro, rfl⟩
      · exact ⟨_, .int _, rfl, .int _, True.intro, so_refl_int 2 _⟩
      · exact ⟨_, .str _, rfl, .str _, True.intro, so_refl_str 2 _⟩
      · refine ⟨_, .tuple [.int (z - 9)], rfl, .tup (xs := [.int (z - 9)]) (.inl (.inl ?_)) (.cons (.int _) .nil), ⟨by show 1 ≤ 1000; decide, fun d hd => ?_⟩, so_refl_one (z - 9)⟩
        · rw [upd_ne (Ne.symm sptp), upd_ne tpl]; exact upd_same
        · cases (List.mem_singleton.mp hd); exact True.intro
      · exact ⟨_, .bool true, rfl, .bl true, True.intro, rfl⟩
    obtain ⟨o, m, hat5, hdp, hfit, hso⟩ := pick
    refine ⟨l2, _, z3, o, rfl, rfl, SqL.of (by rw [upd_ne (Ne.symm spl2)]; exact upd_same), hat5, ?_⟩
    generalize (upd (upd (upd (upd (upd (upd (upd H1 sp (.lst [.int 0])) sp (.lst [.int ((0 + 1 : Nat) : Int)])) l (.lst [.str "none", .str "many", .str "steps", .str ""])) sp (.lst [.int ((1 + 1 : Nat) : Int)])) tp (.tup [.int (z - 9)])) l2 (.lst [.non, .int (-(z - 9)), .str wd, .ref tp, .bl true])) sp (.lst [.int ((2 + 1 : Nat) : Int)])) = G0 at hdp ⊢
    -- the loops
    refine loop_so (i := 3) (fl := "at") (y := .int (z - 9)) (m := .int (z - 9)) (n := 2) (x_lst (xc_cons (x_mk1 T.e2.cx (T.e2.no _ List.mem_cons_self) (vv_var rfl)) (xc_cons (x_mk1 T.e3.cx (T.e3.no _ List.mem_cons_self) (vv_var rfl)) (xc_cons (x_mk1 T.e4.cx (T.e4.no _ List.mem_cons_self) (vv_var rfl))
      (xc_cons (x_mkk1 T.e2.cx (T.e2.no _ List.mem_cons_self) (vv_var rfl)) (xc_cons (x_mkk1 T.e3.cx (T.e3.no _ List.mem_cons_self) (vv_var rfl)) (xc_cons (x_mkk1 T.e4.cx (T.e4.no _ List.mem_cons_self) (vv_var rfl)) xc_nil)))))) (Nat.le_of_ble_eq_true rfl)) ?g1 (fun _ => rfl) (Nat.le_of_ble_eq_true rfl) ⟨_, rfl⟩ (.int _) True.intro (so_refl_int 2 _) (fun c1 G1 e1 => ?_)
    case g1 =>
      intro q hq
      rcases List.mem_cons.mp hq with rfl | hq
      · exact ⟨CE, T.e2.cx, T.e2.no _ List.mem_cons_self, lk1⟩
      rcases List.mem_cons.mp hq with rfl | hq
      · exact ⟨CE, T.e3.cx, T.e3.no _ List.mem_cons_self, lk1⟩
      rcases List.mem_cons.mp hq with rfl | hq
      · exact ⟨CE, T.e4.cx, T.e4.no _ List.mem_cons_self, lk1⟩
      rcases List.mem_cons.mp hq with rfl | hq
      · exact ⟨CE, T.e2.cx, T.e2.no _ List.mem_cons_self, lk1⟩
      rcases List.mem_cons.mp hq with rfl | hq
      · exact ⟨CE, T.e3.cx, T.e3.no _ List.mem_cons_self, lk1⟩
      rcases List.mem_cons.mp hq with rfl | hq
      · exact ⟨CE, T.e4.cx, T.e4.no _ List.mem_cons_self, lk1⟩
      cases hq
    refine loop_so (i := 4) (fl := "word") (y := .str wd) (m := .str wd) (n := 2) (x_lst (xc_cons (x_mk1 T.e5.cx (T.e5.no _ List.mem_cons_self) (vv_var rfl)) (xc_cons (x_mk1 T.e6.cx (T.e6.no _ List.mem_cons_self) (vv_var rfl)) (xc_cons (x_mk1 T.e7.cx (T.e7.no _ List.mem_cons_self) (vv_var rfl))
      (xc_cons (x_mkk1 T.e5.cx (T.e5.no _ List.mem_cons_self) (vv_var rfl)) (xc_cons (x_mkk1 T.e6.cx (T.e6.no _ List.mem_cons_self) (vv_var rfl)) (xc_cons (x_mkk1 T.e7.cx (T.e7.no _ List.mem_cons_self) (vv_var rfl)) xc_nil)))))) (Nat.le_of_ble_eq_true rfl)) ?g2 (fun _ => rfl) (Nat.le_of_ble_eq_true rfl) ⟨_, rfl⟩ (.str _) True.intro (so_refl_str 2 _) (fun c2 G2 e2 => ?_)
    case g2 =>
      intro q hq
      rcases List.mem_cons.mp hq with rfl | hq
      · exact ⟨CE, T.e5.cx, T.e5.no _ List.mem_cons_self, lk1⟩
      rcases List.mem_cons.mp hq with rfl | hq
      · exact ⟨CE, T.e6.cx, T.e6.no _ List.mem_cons_self, lk1⟩
      rcases List.mem_cons.mp hq with rfl | hq
      · exact ⟨CE, T.e7.cx, T.e7.no _ List.mem_cons_self, lk1⟩
      rcases List.mem_cons.mp hq with rfl | hq
      · exact ⟨CE, T.e5.cx, T.e5.no _ List.mem_cons_self, lk1⟩
      rcases List.mem_cons.mp hq with rfl | hq
      · exact ⟨CE, T.e6.cx, T.e6.no _ List.mem_cons_self, lk1⟩
      rcases List.mem_cons.mp hq with rfl | hq
      · exact ⟨CE, T.e7.cx, T.e7.no _ List.mem_cons_self, lk1⟩
      cases hq
    refine loop_so (i := 5) (fl := "name") (y := o) (m := m) (n := 2) (x_lst (xc_cons (x_mk1 T.e8.cx (T.e8.no _ List.mem_cons_self) (vv_var rfl)) (xc_cons (x_mkk1 T.e8.cx (T.e8.no _ List.mem_cons_self) (vv_var rfl)) xc_nil)) (Nat.le_of_ble_eq_true rfl)) ?g3 (fun _ => rfl) (Nat.le_of_ble_eq_true rfl) ⟨_, rfl⟩
      (dp_same (e1.trans e2) hdp) hfit hso (fun c3 G3 e3 => ?_)
    case g3 =>
      intro q hq
      rcases List.mem_cons.mp hq with rfl | hq
      · exact ⟨CE, T.e8.cx, T.e8.no _ List.mem_cons_self, lk1⟩
      rcases List.mem_cons.mp hq with rfl | hq
      · exact ⟨CE, T.e8.cx, T.e8.no _ List.mem_cons_self, lk1⟩
      cases hq
    -- named
    refine q_asgX (x_lst (xc_cons (x_mk1 T.e9.cx (T.e9.no _ List.mem_cons_self) (vv_var rfl)) (xc_cons (x_mk1 T.e10.cx (T.e10.no _ List.mem_cons_self) (vv_var rfl)) (xc_cons (x_mk1 T.e11.cx (T.e11.no _ List.mem_cons_self) (vv_var rfl)) (xc_cons (x_mk1 T.e12.cx (T.e12.no _ List.mem_cons_self) (vv_var rfl)) xc_nil)))) (Nat.le_of_ble_eq_true rfl)) fun xn G4 e4 rn => ?_
    refine loop_so (i := 4) (fl := "name") (y := .str wd) (m := .str wd) (n := 2) (x_cat (x_var rfl rn) (x_lst (xc_cons (x_mkk1 T.e9.cx (T.e9.no _ List.mem_cons_self) (vv_var rfl)) (xc_cons (x_mkk1 T.e10.cx (T.e10.no _ List.mem_cons_self) (vv_var rfl)) (xc_cons (x_mkk1 T.e11.cx (T.e11.no _ List.mem_cons_self) (vv_var rfl)) (xc_cons (x_mkk1 T.e12.cx (T.e12.no _ List.mem_cons_self) (vv_var rfl)) xc_nil)))) (Nat.le_of_ble_eq_true rfl)) (Nat.le_of_ble_eq_true rfl))
      ?g4 (fun _ => rfl) (Nat.le_of_ble_eq_true rfl) ⟨_, rfl⟩ (.str _) True.intro (so_refl_str 2 _) (fun c5 G5 e5 => ?_)
    case g4 =>
      intro q hq
      rcases List.mem_cons.mp hq with rfl | hq
      · exact ⟨CE, T.e9.cx, T.e9.no _ List.mem_cons_self, lk1⟩
      rcases List.mem_cons.mp hq with rfl | hq
      · exact ⟨CE, T.e10.cx, T.e10.no _ List.mem_cons_self, lk1⟩
      rcases List.mem_cons.mp hq with rfl | hq
      · exact ⟨CE, T.e11.cx, T.e11.no _ List.mem_cons_self, lk1⟩
      rcases List.mem_cons.mp hq with rfl | hq
      · exact ⟨CE, T.e12.cx, T.e12.no _ List.mem_cons_self, lk1⟩
      rcases List.mem_cons.mp hq with rfl | hq
      · exact ⟨CE, T.e9.cx, T.e9.no _ List.mem_cons_self, lk1⟩
      rcases List.mem_cons.mp hq with rfl | hq
      · exact ⟨CE, T.e10.cx, T.e10.no _ List.mem_cons_self, lk1⟩
      rcases List.mem_cons.mp hq with rfl | hq
      · exact ⟨CE, T.e11.cx, T.e11.no _ List.mem_cons_self, lk1⟩
      rcases List.mem_cons.mp hq with rfl | hq
      · exact ⟨CE, T.e12.cx, T.e12.no _ List.mem_cons_self, lk1⟩
      cases hq
    refine loop_un (z := wd) (v := (z - 9)) (x_lst (xc_cons (x_mk2 T.e13.cx (T.e13.no _ List.mem_cons_self) (T.e13.no _ (List.mem_cons_of_mem _ List.mem_cons_self)) (vv_var rfl) (vv_var rfl)) (xc_cons (x_mkk2 T.e13.cx (T.e13.no _ List.mem_cons_self) (T.e13.no _ (List.mem_cons_of_mem _ List.mem_cons_self)) (vv_var rfl) (vv_var rfl))
      (xc_cons (x_mkr2 T.e13.cx (T.e13.no _ List.mem_cons_self) (T.e13.no _ (List.mem_cons_of_mem _ List.mem_cons_self)) (vv_var rfl) (vv_var rfl)) xc_nil))) (Nat.le_of_ble_eq_true rfl)) ?g5 (fun _ => rfl) (fun _ => rfl) (Nat.le_of_ble_eq_true rfl) ⟨_, rfl⟩ (fun c6 G6 e6 => ?_)
    case g5 =>
      have two : ∀ (y1 y2 : V), List.lookup ("rule" : Str) [(("at" : Str), y1), ("rule", y2)] = some y2 := fun y1 y2 => by
        have q1 : (("rule" : Str) == ("at" : Str)) = false := by decide
        simp [List.lookup, q1]
      intro q hq
      rcases List.mem_cons.mp hq with rfl | hq
      · exact ⟨CE, T.e13.cx, T.e13.no _ List.mem_cons_self, T.e13.no _ (List.mem_cons_of_mem _ List.mem_cons_self), two _ _, lk1⟩
      rcases List.mem_cons.mp hq with rfl | hq
      · exact ⟨CE, T.e13.cx, T.e13.no _ List.mem_cons_self, T.e13.no _ (List.mem_cons_of_mem _ List.mem_cons_self), two _ _, lk1⟩
      rcases List.mem_cons.mp hq with rfl | hq
      · exact ⟨CE, T.e13.cx, T.e13.no _ List.mem_cons_self, T.e13.no _ (List.mem_cons_of_mem _ List.mem_cons_self), two _ _, lk1⟩
      cases hq
    -- every
    refine q_asgX (x_cat (x_cat (x_lst (xc_cons (x_mk1 T.e2.cx (T.e2.no _ List.mem_cons_self) (vv_var rfl)) (xc_cons (x_mk1 T.e3.cx (T.e3.no _ List.mem_cons_self) (vv_var rfl)) (xc_cons (x_mk1 T.e4.cx (T.e4.no _ List.mem_cons_self) (vv_var rfl)) (xc_cons (x_mk1 T.e5.cx (T.e5.no _ List.mem_cons_self) (vv_var rfl))
      (xc_cons (x_mk1 T.e6.cx (T.e6.no _ List.mem_cons_self) (vv_var rfl)) (xc_cons (x_mk1 T.e7.cx (T.e7.no _ List.mem_cons_self) (vv_var rfl)) (xc_cons (x_mk1 T.e8.cx (T.e8.no _ List.mem_cons_self) (vv_var rfl)) xc_nil))))))) (Nat.le_of_ble_eq_true rfl)) (x_var rfl (rn.keep (e5.trans e6))) (Nat.le_of_ble_eq_true rfl))
      (x_lst (xc_cons (x_mk2 T.e13.cx (T.e13.no _ List.mem_cons_self) (T.e13.no _ (List.mem_cons_of_mem _ List.mem_cons_self)) (vv_var rfl) (vv_var rfl)) xc_nil) (Nat.le_of_ble_eq_true rfl)) (Nat.le_of_ble_eq_true rfl)) fun xe G7 e7 re => ?_
    obtain ⟨pe, xs, rfl, hpe, hall⟩ := re
    have hxl : xs.length = 12 := hall.len
    -- each of the twelve
    refine ⟨.ref pe, rfl, pe, xs, rfl, .inl (SqL.of hpe), (xs.length : Int), rfl, by rw [hxl]; decide, by rw [hxl]; decide, ?_⟩
    rw [hxl]
    have allCex : ∀ C, C ∈ [C2, C3, C4, C5, C6, C7, C8, C9, C10, C11, C12, C13] → CexC K C CE := fun C hC => by
      repeat (rcases List.mem_cons.mp hC with rfl | hC; (first | exact T.e2.cx | exact T.e3.cx | exact T.e4.cx | exact T.e5.cx | exact T.e6.cx | exact T.e7.cx | exact T.e8.cx | exact T.e9.cx | exact T.e10.cx | exact T.e11.cx | exact T.e12.cx | exact T.e13.cx))
      cases hC
    refine for_range (lo := 0) (n := 12) (fun _ σ' H' => (∃ c9 c10, σ' = [some (.ref a), some (.ref p), some (.ref sp), some (.int (z - 9)), some (.str wd), some o, c6, some xn, some (.ref pe), c9, c10]) ∧ Same G7 H') ⟨⟨_, _, rfl⟩, Same.refl _⟩ ?_ ?_
    · rintro i σ' H' hi ⟨⟨c9, c10, rfl⟩, s7⟩
      obtain ⟨q1, hq1⟩ : ∃ q1, ([(C2, [(("at" : Str), V.int (z - 9))]), (C3, [("at", V.int (z - 9))]), (C4, [("at", V.int (z - 9))]), (C5, [("word", V.str wd)]), (C6, [("word", V.str wd)]), (C7, [("word", V.str wd)]), (C8, [("name", o)]), (C9, [("name", V.str wd)]), (C10, [("name", V.str wd)]), (C11, [("name", V.str wd)]), (C12, [("name", V.str wd)]), (C13, [("at", V.int (z - 9)), ("rule", V.str wd)])] : List (Addr × List (Str × V)))[i]? = some q1 := ⟨_, List.getElem?_eq_getElem hi⟩
      have hCi : [C2, C3, C4, C5, C6, C7, C8, C9, C10, C11, C12, C13][i]? = some q1.1 := by
        have e := congrArg (Option.map Prod.fst) hq1
        rw [← List.getElem?_map] at e
        exact e
      obtain ⟨x, hxi, hisx⟩ := hall.get i q1 hq1
      have hmem := List.mem_of_getElem? hCi
      have hcex := allCex q1.1 hmem
      have hx7 := hisx.keep s7
      have hpe7 := s7 _ _ hpe
      obtain ⟨t1, t2, t3, t4, t5⟩ := T.far q1.1 hmem
      have at8 : atI xs ((0 : Int) + (i : Int)) = some x := by rw [Int.zero_add]; exact atI_nat hxi
      refine ⟨.ref pe, rfl, .int ((0 : Int) + (i : Int)), rfl, pe, xs, _, x, rfl, rfl, SqL.of hpe7, at8, x, i, q1.1, CE, q1.2, rfl, hCi, hcex, hx7, fun p1 H1 np1 s8 hp1 => ?_⟩
      refine ⟨12, rfl, by decide, by decide, fun D hD => lc_range (lo := 0) (n := 12)
        (fun j H'' => Same H1 H'' ∧ H'' D = some (.lst ((List.range j).map fun (m : Nat) => V.bl (decide (V.int ((0 : Int) + (m : Int)) = V.int ((0 : Int) + (i : Int))))))) ⟨same_upd hD, upd_same⟩ ?_ ?_⟩
      · rintro j H'' hj ⟨s9, hDj⟩
        refine ⟨rfl, .int ((0 : Int) + (j : Int)), rfl, .int ((0 : Int) + (i : Int)), rfl, rfl, _, hDj, ?_, same_mut s9 hD, ?_⟩
        · rw [List.length_map, List.length_range]
          exact Nat.lt_of_lt_of_le hj (by decide)
        · rw [upd_same, List.range_succ, List.map_append]
          rfl
      · rintro H'' ⟨s9, hD12⟩
        have dl1 : Dp K H'' (.ref p1) (.list ((List.range 12).map fun j => PyData.bool (decide (i = j)))) := .lst (SqL.of (s9 _ _ hp1)) (dp_map (fun j => decide (i = j)) (List.range 12))
        have dl2 : Dp K H'' (.ref D) (.list ((List.range 12).map fun j => PyData.bool (decide (i = j)))) := by
          rw [same12 i]
          exact .lst (SqL.of hD12) (dp_map (fun j => decide (V.int ((0 : Int) + (j : Int)) = V.int ((0 : Int) + (i : Int)))) (List.range 12))
        refine ⟨_, _, dl1, dl2, rfl, rfl, _, rfl, ?_⟩
        have eq1 : PyData.eqv (.list ((List.range 12).map fun j => PyData.bool (decide (i = j)))) (.list ((List.range 12).map fun j => PyData.bool (decide (i = j)))) = true := by
          simp [PyData.eqv, PyData.eqvAll, List.range, List.range.loop]
        rw [eq1]
        have s10 := s8.trans s9
        refine iteF ⟨.ref pe, rfl, .int ((0 : Int) + (i : Int)), rfl, pe, xs, _, x, rfl, rfl, SqL.of (s10 _ _ hpe7), at8, x, q1.1, CE, q1.2, rfl, hmem, hcex, hx7.keep s10, false, rfl, iteF ?_⟩
        obtain ⟨ax, dx, rfl, h1, h2⟩ := hx7.keep s10
        refine ⟨.ref pe, rfl, .int ((0 : Int) + (i : Int)), rfl, pe, xs, _, .ref ax, rfl, rfl, SqL.of (s10 _ _ hpe7), at8, ax, q1.1, CE, dx, .ref CE, .ref CE, true, rfl, .own CE, hcex, h1, ⟨_, h2⟩, t5, true, rfl, iteF ⟨⟨_, _, rfl⟩, s7.trans s10⟩⟩
    · rintro σ' H' ⟨⟨c9, c10, rfl⟩, s7⟩
      refine ⟨"a", rfl, fun H8 s8 => ⟨true, rfl, iteT ⟨"", rfl, fun H9 s9 => ⟨false, rfl, q _⟩⟩⟩⟩

end
end Cw

set_option Elab.async false
set_option linter.all false
set_option maxRecDepth 100000
set_option maxHeartbeats 0
namespace Cw
open PySem PySem.Spec PyProof.Rows L2 PySem.CwEx
/-! ### what the top has written, read at once -/
def clB (K : PySem.W.Frag) (C f : Addr) (fls : List Str) : Bool :=
  decide (PySem.W.findIn K (.ref C) "__setattr__" = some (some (.builtin "object.__setattr__"))) && (decide (PySem.W.findIn K (.ref C) "__getattribute__" = some (some (.builtin "BaseException.__getattribute__"))) && (decide (PySem.W.findIn K (.ref C) "__getattr__" = some none) &&
  (decide (PySem.W.findIn K (.ref C) "__class__" = some (some (.builtin "object.__class__"))) && (decide (PySem.W.mroIn K C (.type "object") = some true) && (decide (PySem.W.subIn K (.ref C) (.type "BaseException") = some true) && (decide (PySem.W.typeIn K (.ref C) = some (.type "type")) &&
  (PySem.W.hasDictIn K C && (PySem.W.keepIn K (.ref C) && (decide (PySem.W.typeIn K (.ref f) = some (.type "function")) && (PySem.W.keepIn K (.ref f) && fls.all fun fl => decide (PySem.W.findIn K (.ref C) fl = some none)))))))))))
def tabB (K : PySem.W.Frag) (cs : List Addr) : Bool := (List.range cs.length).all fun i => (List.range cs.length).all fun j => decide (PySem.W.kitOne K (.ref (cs.getD i 0)) (.ref (cs.getD j 0)) = some (decide (i = j)))
def farB (K : PySem.W.Frag) (CE : Addr) (cs : List Addr) : Bool := cs.all fun C => decide (PySem.W.kitOne K (.ref C) (.type "ValueError") = some false) && (decide (PySem.W.kitOne K (.ref C) (.type "LookupError") = some false) && (decide (PySem.W.kitOne K (.ref C) (.type "ArithmeticError") = some false) &&
  (decide (PySem.W.kitOne K (.ref C) (.type "Exception") = some true) && decide (PySem.W.kitOne K (.ref C) (.ref CE) = some true))))
theorem tab_of {K : PySem.W.Frag} {cs : List Addr} (h : tabB K cs = true) (i j : Nat) (Ci Cj : Addr) (hi : cs[i]? = some Ci) (hj : cs[j]? = some Cj) : PySem.W.kitOne K (.ref Ci) (.ref Cj) = some (decide (i = j)) := by
  have li := (List.getElem?_eq_some_iff.mp hi).1
  have lj := (List.getElem?_eq_some_iff.mp hj).1
  have h1 := List.all_eq_true.mp (List.all_eq_true.mp h i (List.mem_range.mpr li)) j (List.mem_range.mpr lj)
  have h2 := of_decide_eq_true h1
  rw [List.getD_eq_getElem?_getD, List.getD_eq_getElem?_getD, hi, hj] at h2
  exact h2
theorem far_of {K : PySem.W.Frag} {CE : Addr} {cs : List Addr} (h : farB K CE cs = true) (C : Addr) (hC : C ∈ cs) : PySem.W.kitOne K (.ref C) (.type "ValueError") = some false ∧ PySem.W.kitOne K (.ref C) (.type "LookupError") = some false ∧ PySem.W.kitOne K (.ref C) (.type "ArithmeticError") = some false ∧
    PySem.W.kitOne K (.ref C) (.type "Exception") = some true ∧ PySem.W.kitOne K (.ref C) (.ref CE) = some true := by
  have h1 := List.all_eq_true.mp h C hC
  obtain ⟨a1, h2⟩ := Bool.and_eq_true_iff.mp h1
  obtain ⟨a2, h3⟩ := Bool.and_eq_true_iff.mp h2
  obtain ⟨a3, h4⟩ := Bool.and_eq_true_iff.mp h3
  obtain ⟨a4, a5⟩ := Bool.and_eq_true_iff.mp h4
  exact ⟨of_decide_eq_true a1, of_decide_eq_true a2, of_decide_eq_true a3, of_decide_eq_true a4, of_decide_eq_true a5⟩
theorem ec_of {K : PySem.W.Frag} {h : Heap} {mg : Str → Option Value} {x qual : Str} {st : Stmt} {fls : List Str} {CE C f : Addr} (X : K.In h) (G : h.Ns mainGlobals mg)
    {nm q : Str} {N : Addr} {bs : List Value} {sn : List Str} {sub : List Value} {ab : Bool} {col : Option Bool} {dd : Option Addr} {k0 k1 k2 k3 k5 : Option Value}
    (a : PySem.W.nsIn K mainGlobals x = some (some (.ref C))) (l : K.lookup C = some (excClassObj nm q C N bs (.ref CE :: tl3) true sn sub ab col dd k0 k1 k2 k3 k5 "Exception.__new__")) (i : PySem.W.findIn K (.ref C) "__init__" = some (some (.ref f)))
    {oc : Value} {od an : Option Addr} {sl : Array (Option Value)} {kV doc pm cd ct : Value}
    (lf : K.lookup f = some ⟨oc, od, .func (PySem.W.fnOf "__init__" qual (defArgs st) (defBody st) (defScope st) .none kV doc pm an cd ct), sl⟩) (cf : PySem.W.codeIn K cd qual = true) (b : clB K C f fls = true)
    (sg : PySem.W.specialIn K (.builtin "object.__class__") "__get__" = some (some (.builtin "getset_descriptor.__get__"))) (tk : PySem.W.takesIn K (.builtin "object.__class__") = some true) :
    EC K mg x qual st fls CE C f (PySem.W.fnOf "__init__" qual (defArgs st) (defBody st) (defScope st) .none kV doc pm an cd ct) := by
  obtain ⟨b1, b⟩ := Bool.and_eq_true_iff.mp b
  obtain ⟨b2, b⟩ := Bool.and_eq_true_iff.mp b
  obtain ⟨b3, b⟩ := Bool.and_eq_true_iff.mp b
  obtain ⟨b4, b⟩ := Bool.and_eq_true_iff.mp b
  obtain ⟨b5, b⟩ := Bool.and_eq_true_iff.mp b
  obtain ⟨b6, b⟩ := Bool.and_eq_true_iff.mp b
  obtain ⟨b7, b⟩ := Bool.and_eq_true_iff.mp b
  obtain ⟨b8, b⟩ := Bool.and_eq_true_iff.mp b
  obtain ⟨b9, b⟩ := Bool.and_eq_true_iff.mp b
  obtain ⟨b10, b⟩ := Bool.and_eq_true_iff.mp b
  obtain ⟨b11, b⟩ := Bool.and_eq_true_iff.mp b
  exact ⟨⟨⟨_, _, _, _, _, _, _, _, _, _, _, _, _, _, l⟩, of_decide_eq_true b1, of_decide_eq_true b2, of_decide_eq_true b3, of_decide_eq_true b4, sg, tk, of_decide_eq_true b5, of_decide_eq_true b6, of_decide_eq_true b7, b8, b9⟩,
    PySem.W.mg_of X G a, i, of_decide_eq_true b10, fun_mk lf cf b11, fun fl hfl => of_decide_eq_true (List.all_eq_true.mp b fl hfl)⟩
def exB (K : PySem.W.Frag) (CE C : Addr) : Bool := decide (PySem.W.subIn K (.ref CE) (.type "BaseException") = some true) && (PySem.W.hasDictIn K CE && (decide (PySem.W.typeIn K (.ref CE) = some (.type "type")) && decide (PySem.W.subIn K (.ref C) (.ref CE) = some true)))
theorem ex_of {K : PySem.W.Frag} {CE C : Addr} (b : exB K CE C = true) : PySem.W.exmOne K (.ref C) (.ref CE) = some true := by
  obtain ⟨b1, b⟩ := Bool.and_eq_true_iff.mp b
  obtain ⟨b2, b⟩ := Bool.and_eq_true_iff.mp b
  obtain ⟨b3, b4⟩ := Bool.and_eq_true_iff.mp b
  exact PySem.W.exm_ref (of_decide_eq_true b1) b2 (of_decide_eq_true b3) (of_decide_eq_true b4)
theorem all_mk {l : PySem.W.OpenLaw} {w : World} {K : PySem.W.Frag} {h : Heap} {mg : Str → Option Value} {fa CE C2 C3 C4 C5 C6 C7 C8 C9 C10 C11 C12 C13 f2 f3 f4 f5 f6 f7 f8 f9 f10 f11 f12 f13 g1 g2 g3 g4 g5 g6 g7 g8 : Addr} (X : K.In h) (G : h.Ns mainGlobals mg) (hfa : mg "law" = some (.ref fa))
    {nm2 q2 : Str} {N2 : Addr} {bs2 : List Value} {sn2 : List Str} {sub2 : List Value} {ab2 : Bool} {col2 : Option Bool} {dd2 : Option Addr} {ka2 kb2 kc2 kd2 ke2 : Option Value} {oc2 : Value} {od2 an2 : Option Addr} {sl2 : Array (Option Value)} {kV2 doc2 pm2 cd2 ct2 : Value}
    (a2 : PySem.W.nsIn K mainGlobals "BadValue" = some (some (.ref C2))) (l2 : K.lookup C2 = some (excClassObj nm2 q2 C2 N2 bs2 (.ref CE :: tl3) true sn2 sub2 ab2 col2 dd2 ka2 kb2 kc2 kd2 ke2 "Exception.__new__")) (i2 : PySem.W.findIn K (.ref C2) "__init__" = some (some (.ref f2)))
    (lf2 : K.lookup f2 = some ⟨oc2, od2, .func (PySem.W.fnOf "__init__" "BadValue.__init__" (defArgs sI2) (defBody sI2) (defScope sI2) .none kV2 doc2 pm2 an2 cd2 ct2), sl2⟩) (cf2 : PySem.W.codeIn K cd2 "BadValue.__init__" = true) (b2 : clB K C2 f2 ["at"] = true)
    {nm3 q3 : Str} {N3 : Addr} {bs3 : List Value} {sn3 : List Str} {sub3 : List Value} {ab3 : Bool} {col3 : Option Bool} {dd3 : Option Addr} {ka3 kb3 kc3 kd3 ke3 : Option Value} {oc3 : Value} {od3 an3 : Option Addr} {sl3 : Array (Option Value)} {kV3 doc3 pm3 cd3 ct3 : Value}
    (a3 : PySem.W.nsIn K mainGlobals "BadText" = some (some (.ref C3))) (l3 : K.lookup C3 = some (excClassObj nm3 q3 C3 N3 bs3 (.ref CE :: tl3) true sn3 sub3 ab3 col3 dd3 ka3 kb3 kc3 kd3 ke3 "Exception.__new__")) (i3 : PySem.W.findIn K (.ref C3) "__init__" = some (some (.ref f3)))
    (lf3 : K.lookup f3 = some ⟨oc3, od3, .func (PySem.W.fnOf "__init__" "BadText.__init__" (defArgs sI3) (defBody sI3) (defScope sI3) .none kV3 doc3 pm3 an3 cd3 ct3), sl3⟩) (cf3 : PySem.W.codeIn K cd3 "BadText.__init__" = true) (b3 : clB K C3 f3 ["at"] = true)
    {nm4 q4 : Str} {N4 : Addr} {bs4 : List Value} {sn4 : List Str} {sub4 : List Value} {ab4 : Bool} {col4 : Option Bool} {dd4 : Option Addr} {ka4 kb4 kc4 kd4 ke4 : Option Value} {oc4 : Value} {od4 an4 : Option Addr} {sl4 : Array (Option Value)} {kV4 doc4 pm4 cd4 ct4 : Value}
    (a4 : PySem.W.nsIn K mainGlobals "BadTree" = some (some (.ref C4))) (l4 : K.lookup C4 = some (excClassObj nm4 q4 C4 N4 bs4 (.ref CE :: tl3) true sn4 sub4 ab4 col4 dd4 ka4 kb4 kc4 kd4 ke4 "Exception.__new__")) (i4 : PySem.W.findIn K (.ref C4) "__init__" = some (some (.ref f4)))
    (lf4 : K.lookup f4 = some ⟨oc4, od4, .func (PySem.W.fnOf "__init__" "BadTree.__init__" (defArgs sI4) (defBody sI4) (defScope sI4) .none kV4 doc4 pm4 an4 cd4 ct4), sl4⟩) (cf4 : PySem.W.codeIn K cd4 "BadTree.__init__" = true) (b4 : clB K C4 f4 ["at"] = true)
    {nm5 q5 : Str} {N5 : Addr} {bs5 : List Value} {sn5 : List Str} {sub5 : List Value} {ab5 : Bool} {col5 : Option Bool} {dd5 : Option Addr} {ka5 kb5 kc5 kd5 ke5 : Option Value} {oc5 : Value} {od5 an5 : Option Addr} {sl5 : Array (Option Value)} {kV5 doc5 pm5 cd5 ct5 : Value}
    (a5 : PySem.W.nsIn K mainGlobals "NoBest" = some (some (.ref C5))) (l5 : K.lookup C5 = some (excClassObj nm5 q5 C5 N5 bs5 (.ref CE :: tl3) true sn5 sub5 ab5 col5 dd5 ka5 kb5 kc5 kd5 ke5 "Exception.__new__")) (i5 : PySem.W.findIn K (.ref C5) "__init__" = some (some (.ref f5)))
    (lf5 : K.lookup f5 = some ⟨oc5, od5, .func (PySem.W.fnOf "__init__" "NoBest.__init__" (defArgs sI5) (defBody sI5) (defScope sI5) .none kV5 doc5 pm5 an5 cd5 ct5), sl5⟩) (cf5 : PySem.W.codeIn K cd5 "NoBest.__init__" = true) (b5 : clB K C5 f5 ["word"] = true)
    {nm6 q6 : Str} {N6 : Addr} {bs6 : List Value} {sn6 : List Str} {sub6 : List Value} {ab6 : Bool} {col6 : Option Bool} {dd6 : Option Addr} {ka6 kb6 kc6 kd6 ke6 : Option Value} {oc6 : Value} {od6 an6 : Option Addr} {sl6 : Array (Option Value)} {kV6 doc6 pm6 cd6 ct6 : Value}
    (a6 : PySem.W.nsIn K mainGlobals "Stuck" = some (some (.ref C6))) (l6 : K.lookup C6 = some (excClassObj nm6 q6 C6 N6 bs6 (.ref CE :: tl3) true sn6 sub6 ab6 col6 dd6 ka6 kb6 kc6 kd6 ke6 "Exception.__new__")) (i6 : PySem.W.findIn K (.ref C6) "__init__" = some (some (.ref f6)))
    (lf6 : K.lookup f6 = some ⟨oc6, od6, .func (PySem.W.fnOf "__init__" "Stuck.__init__" (defArgs sI6) (defBody sI6) (defScope sI6) .none kV6 doc6 pm6 an6 cd6 ct6), sl6⟩) (cf6 : PySem.W.codeIn K cd6 "Stuck.__init__" = true) (b6 : clB K C6 f6 ["word"] = true)
    {nm7 q7 : Str} {N7 : Addr} {bs7 : List Value} {sn7 : List Str} {sub7 : List Value} {ab7 : Bool} {col7 : Option Bool} {dd7 : Option Addr} {ka7 kb7 kc7 kd7 ke7 : Option Value} {oc7 : Value} {od7 an7 : Option Addr} {sl7 : Array (Option Value)} {kV7 doc7 pm7 cd7 ct7 : Value}
    (a7 : PySem.W.nsIn K mainGlobals "Spent" = some (some (.ref C7))) (l7 : K.lookup C7 = some (excClassObj nm7 q7 C7 N7 bs7 (.ref CE :: tl3) true sn7 sub7 ab7 col7 dd7 ka7 kb7 kc7 kd7 ke7 "Exception.__new__")) (i7 : PySem.W.findIn K (.ref C7) "__init__" = some (some (.ref f7)))
    (lf7 : K.lookup f7 = some ⟨oc7, od7, .func (PySem.W.fnOf "__init__" "Spent.__init__" (defArgs sI7) (defBody sI7) (defScope sI7) .none kV7 doc7 pm7 an7 cd7 ct7), sl7⟩) (cf7 : PySem.W.codeIn K cd7 "Spent.__init__" = true) (b7 : clB K C7 f7 ["word"] = true)
    {nm8 q8 : Str} {N8 : Addr} {bs8 : List Value} {sn8 : List Str} {sub8 : List Value} {ab8 : Bool} {col8 : Option Bool} {dd8 : Option Addr} {ka8 kb8 kc8 kd8 ke8 : Option Value} {oc8 : Value} {od8 an8 : Option Addr} {sl8 : Array (Option Value)} {kV8 doc8 pm8 cd8 ct8 : Value}
    (a8 : PySem.W.nsIn K mainGlobals "NoModule" = some (some (.ref C8))) (l8 : K.lookup C8 = some (excClassObj nm8 q8 C8 N8 bs8 (.ref CE :: tl3) true sn8 sub8 ab8 col8 dd8 ka8 kb8 kc8 kd8 ke8 "Exception.__new__")) (i8 : PySem.W.findIn K (.ref C8) "__init__" = some (some (.ref f8)))
    (lf8 : K.lookup f8 = some ⟨oc8, od8, .func (PySem.W.fnOf "__init__" "NoModule.__init__" (defArgs sI8) (defBody sI8) (defScope sI8) .none kV8 doc8 pm8 an8 cd8 ct8), sl8⟩) (cf8 : PySem.W.codeIn K cd8 "NoModule.__init__" = true) (b8 : clB K C8 f8 ["name"] = true)
    {nm9 q9 : Str} {N9 : Addr} {bs9 : List Value} {sn9 : List Str} {sub9 : List Value} {ab9 : Bool} {col9 : Option Bool} {dd9 : Option Addr} {ka9 kb9 kc9 kd9 ke9 : Option Value} {oc9 : Value} {od9 an9 : Option Addr} {sl9 : Array (Option Value)} {kV9 doc9 pm9 cd9 ct9 : Value}
    (a9 : PySem.W.nsIn K mainGlobals "TakenName" = some (some (.ref C9))) (l9 : K.lookup C9 = some (excClassObj nm9 q9 C9 N9 bs9 (.ref CE :: tl3) true sn9 sub9 ab9 col9 dd9 ka9 kb9 kc9 kd9 ke9 "Exception.__new__")) (i9 : PySem.W.findIn K (.ref C9) "__init__" = some (some (.ref f9)))
    (lf9 : K.lookup f9 = some ⟨oc9, od9, .func (PySem.W.fnOf "__init__" "TakenName.__init__" (defArgs sI9) (defBody sI9) (defScope sI9) .none kV9 doc9 pm9 an9 cd9 ct9), sl9⟩) (cf9 : PySem.W.codeIn K cd9 "TakenName.__init__" = true) (b9 : clB K C9 f9 ["name"] = true)
    {nm10 q10 : Str} {N10 : Addr} {bs10 : List Value} {sn10 : List Str} {sub10 : List Value} {ab10 : Bool} {col10 : Option Bool} {dd10 : Option Addr} {ka10 kb10 kc10 kd10 ke10 : Option Value} {oc10 : Value} {od10 an10 : Option Addr} {sl10 : Array (Option Value)} {kV10 doc10 pm10 cd10 ct10 : Value}
    (a10 : PySem.W.nsIn K mainGlobals "MissingUse" = some (some (.ref C10))) (l10 : K.lookup C10 = some (excClassObj nm10 q10 C10 N10 bs10 (.ref CE :: tl3) true sn10 sub10 ab10 col10 dd10 ka10 kb10 kc10 kd10 ke10 "Exception.__new__")) (i10 : PySem.W.findIn K (.ref C10) "__init__" = some (some (.ref f10)))
    (lf10 : K.lookup f10 = some ⟨oc10, od10, .func (PySem.W.fnOf "__init__" "MissingUse.__init__" (defArgs sI10) (defBody sI10) (defScope sI10) .none kV10 doc10 pm10 an10 cd10 ct10), sl10⟩) (cf10 : PySem.W.codeIn K cd10 "MissingUse.__init__" = true) (b10 : clB K C10 f10 ["name"] = true)
    {nm11 q11 : Str} {N11 : Addr} {bs11 : List Value} {sn11 : List Str} {sub11 : List Value} {ab11 : Bool} {col11 : Option Bool} {dd11 : Option Addr} {ka11 kb11 kc11 kd11 ke11 : Option Value} {oc11 : Value} {od11 an11 : Option Addr} {sl11 : Array (Option Value)} {kV11 doc11 pm11 cd11 ct11 : Value}
    (a11 : PySem.W.nsIn K mainGlobals "InUse" = some (some (.ref C11))) (l11 : K.lookup C11 = some (excClassObj nm11 q11 C11 N11 bs11 (.ref CE :: tl3) true sn11 sub11 ab11 col11 dd11 ka11 kb11 kc11 kd11 ke11 "Exception.__new__")) (i11 : PySem.W.findIn K (.ref C11) "__init__" = some (some (.ref f11)))
    (lf11 : K.lookup f11 = some ⟨oc11, od11, .func (PySem.W.fnOf "__init__" "InUse.__init__" (defArgs sI11) (defBody sI11) (defScope sI11) .none kV11 doc11 pm11 an11 cd11 ct11), sl11⟩) (cf11 : PySem.W.codeIn K cd11 "InUse.__init__" = true) (b11 : clB K C11 f11 ["name"] = true)
    {nm12 q12 : Str} {N12 : Addr} {bs12 : List Value} {sn12 : List Str} {sub12 : List Value} {ab12 : Bool} {col12 : Option Bool} {dd12 : Option Addr} {ka12 kb12 kc12 kd12 ke12 : Option Value} {oc12 : Value} {od12 an12 : Option Addr} {sl12 : Array (Option Value)} {kV12 doc12 pm12 cd12 ct12 : Value}
    (a12 : PySem.W.nsIn K mainGlobals "NotClosed" = some (some (.ref C12))) (l12 : K.lookup C12 = some (excClassObj nm12 q12 C12 N12 bs12 (.ref CE :: tl3) true sn12 sub12 ab12 col12 dd12 ka12 kb12 kc12 kd12 ke12 "Exception.__new__")) (i12 : PySem.W.findIn K (.ref C12) "__init__" = some (some (.ref f12)))
    (lf12 : K.lookup f12 = some ⟨oc12, od12, .func (PySem.W.fnOf "__init__" "NotClosed.__init__" (defArgs sI12) (defBody sI12) (defScope sI12) .none kV12 doc12 pm12 an12 cd12 ct12), sl12⟩) (cf12 : PySem.W.codeIn K cd12 "NotClosed.__init__" = true) (b12 : clB K C12 f12 ["name"] = true)
    {nm13 q13 : Str} {N13 : Addr} {bs13 : List Value} {sn13 : List Str} {sub13 : List Value} {ab13 : Bool} {col13 : Option Bool} {dd13 : Option Addr} {ka13 kb13 kc13 kd13 ke13 : Option Value} {oc13 : Value} {od13 an13 : Option Addr} {sl13 : Array (Option Value)} {kV13 doc13 pm13 cd13 ct13 : Value}
    (a13 : PySem.W.nsIn K mainGlobals "Unlawful" = some (some (.ref C13))) (l13 : K.lookup C13 = some (excClassObj nm13 q13 C13 N13 bs13 (.ref CE :: tl3) true sn13 sub13 ab13 col13 dd13 ka13 kb13 kc13 kd13 ke13 "Exception.__new__")) (i13 : PySem.W.findIn K (.ref C13) "__init__" = some (some (.ref f13)))
    (lf13 : K.lookup f13 = some ⟨oc13, od13, .func (PySem.W.fnOf "__init__" "Unlawful.__init__" (defArgs sI13) (defBody sI13) (defScope sI13) .none kV13 doc13 pm13 an13 cd13 ct13), sl13⟩) (cf13 : PySem.W.codeIn K cd13 "Unlawful.__init__" = true) (b13 : clB K C13 f13 ["rule", "at"] = true)
    (sg : PySem.W.specialIn K (.builtin "object.__class__") "__get__" = some (some (.builtin "getset_descriptor.__get__"))) (tk : PySem.W.takesIn K (.builtin "object.__class__") = some true) (aCE : PySem.W.nsIn K mainGlobals "CallError" = some (some (.ref CE)))
    (tb : tabB K [C2, C3, C4, C5, C6, C7, C8, C9, C10, C11, C12, C13] = true) (fb : farB K CE [C2, C3, C4, C5, C6, C7, C8, C9, C10, C11, C12, C13] = true) (e6 : exB K CE C6 = true) (e8 : exB K CE C8 = true)
    {xoc1 : Value} {xod1 xan1 : Option Addr} {xsl1 : Array (Option Value)} {xkV1 xdoc1 xpm1 xcd1 xct1 : Value} (da1 : PySem.W.nsIn K mainGlobals "_law_so" = some (some (.ref g1))) (dl1 : K.lookup g1 = some ⟨xoc1, xod1, .func (PySem.W.fnOf "_law_so" "_law_so" (defArgs sSo) (defBody sSo) (defScope sSo) .none xkV1 xdoc1 xpm1 xan1 xcd1 xct1), xsl1⟩) (dc1 : PySem.W.codeIn K xcd1 "_law_so" = true) (dk1 : PySem.W.keepIn K (.ref g1) = true)
    {xoc2 : Value} {xod2 xan2 : Option Addr} {xsl2 : Array (Option Value)} {xkV2 xdoc2 xpm2 xcd2 xct2 : Value} (da2 : PySem.W.nsIn K mainGlobals "_law_numbers" = some (some (.ref g2))) (dl2 : K.lookup g2 = some ⟨xoc2, xod2, .func (PySem.W.fnOf "_law_numbers" "_law_numbers" (defArgs sNum) (defBody sNum) (defScope sNum) .none xkV2 xdoc2 xpm2 xan2 xcd2 xct2), xsl2⟩) (dc2 : PySem.W.codeIn K xcd2 "_law_numbers" = true) (dk2 : PySem.W.keepIn K (.ref g2) = true)
    {xoc3 : Value} {xod3 xan3 : Option Addr} {xsl3 : Array (Option Value)} {xkV3 xdoc3 xpm3 xcd3 xct3 : Value} (da3 : PySem.W.nsIn K mainGlobals "_law_draw" = some (some (.ref g3))) (dl3 : K.lookup g3 = some ⟨xoc3, xod3, .func (PySem.W.fnOf "_law_draw" "_law_draw" (defArgs sDraw) (defBody sDraw) (defScope sDraw) .none xkV3 xdoc3 xpm3 xan3 xcd3 xct3), xsl3⟩) (dc3 : PySem.W.codeIn K xcd3 "_law_draw" = true) (dk3 : PySem.W.keepIn K (.ref g3) = true)
    {xoc4 : Value} {xod4 xan4 : Option Addr} {xsl4 : Array (Option Value)} {xkV4 xdoc4 xpm4 xcd4 xct4 : Value} (da4 : PySem.W.nsIn K mainGlobals "_law_take" = some (some (.ref g4))) (dl4 : K.lookup g4 = some ⟨xoc4, xod4, .func (PySem.W.fnOf "_law_take" "_law_take" (defArgs sTake) (defBody sTake) (defScope sTake) .none xkV4 xdoc4 xpm4 xan4 xcd4 xct4), xsl4⟩) (dc4 : PySem.W.codeIn K xcd4 "_law_take" = true) (dk4 : PySem.W.keepIn K (.ref g4) = true)
    {xoc5 : Value} {xod5 xan5 : Option Addr} {xsl5 : Array (Option Value)} {xkV5 xdoc5 xpm5 xcd5 xct5 : Value} (da5 : PySem.W.nsIn K mainGlobals "_law_of" = some (some (.ref g5))) (dl5 : K.lookup g5 = some ⟨xoc5, xod5, .func (PySem.W.fnOf "_law_of" "_law_of" (defArgs sOf) (defBody sOf) (defScope sOf) .none xkV5 xdoc5 xpm5 xan5 xcd5 xct5), xsl5⟩) (dc5 : PySem.W.codeIn K xcd5 "_law_of" = true) (dk5 : PySem.W.keepIn K (.ref g5) = true)
    {xoc6 : Value} {xod6 xan6 : Option Addr} {xsl6 : Array (Option Value)} {xkV6 xdoc6 xpm6 xcd6 xct6 : Value} (da6 : PySem.W.nsIn K mainGlobals "_law_foreign" = some (some (.ref g6))) (dl6 : K.lookup g6 = some ⟨xoc6, xod6, .func (PySem.W.fnOf "_law_foreign" "_law_foreign" (defArgs sFor) (defBody sFor) (defScope sFor) .none xkV6 xdoc6 xpm6 xan6 xcd6 xct6), xsl6⟩) (dc6 : PySem.W.codeIn K xcd6 "_law_foreign" = true) (dk6 : PySem.W.keepIn K (.ref g6) = true)
    {xoc7 : Value} {xod7 xan7 : Option Addr} {xsl7 : Array (Option Value)} {xkV7 xdoc7 xpm7 xcd7 xct7 : Value} (da7 : PySem.W.nsIn K mainGlobals "_law_caught" = some (some (.ref g7))) (dl7 : K.lookup g7 = some ⟨xoc7, xod7, .func (PySem.W.fnOf "_law_caught" "_law_caught" (defArgs sCau) (defBody sCau) (defScope sCau) .none xkV7 xdoc7 xpm7 xan7 xcd7 xct7), xsl7⟩) (dc7 : PySem.W.codeIn K xcd7 "_law_caught" = true) (dk7 : PySem.W.keepIn K (.ref g7) = true)
    {xoc8 : Value} {xod8 xan8 : Option Addr} {xsl8 : Array (Option Value)} {xkV8 xdoc8 xpm8 xcd8 xct8 : Value} (da8 : PySem.W.nsIn K mainGlobals "law" = some (some (.ref g8))) (dl8 : K.lookup g8 = some ⟨xoc8, xod8, .func (PySem.W.fnOf "law" "law" (defArgs sLaw) (defBody sLaw) (defScope sLaw) .none xkV8 xdoc8 xpm8 xan8 xcd8 xct8), xsl8⟩) (dc8 : PySem.W.codeIn K xcd8 "law" = true) (dk8 : PySem.W.keepIn K (.ref g8) = true)
    (z_isinstance : PySem.W.nsIn K mainGlobals "isinstance" = some none)
    (z_len : PySem.W.nsIn K mainGlobals "len" = some none)
    (z_range : PySem.W.nsIn K mainGlobals "range" = some none)
    (z_int : PySem.W.nsIn K mainGlobals "int" = some none)
    (z_tuple : PySem.W.nsIn K mainGlobals "tuple" = some none)
    (z_bool : PySem.W.nsIn K mainGlobals "bool" = some none)
    (z_str : PySem.W.nsIn K mainGlobals "str" = some none)
    (z_ValueError : PySem.W.nsIn K mainGlobals "ValueError" = some none)
    (z_LookupError : PySem.W.nsIn K mainGlobals "LookupError" = some none)
    (z_ArithmeticError : PySem.W.nsIn K mainGlobals "ArithmeticError" = some none)
    (z_Exception : PySem.W.nsIn K mainGlobals "Exception" = some none) :
    ∃ fd : FuncData, (∀ (s : Shared) (v : Value), BindsTo s fd ⟨[v], []⟩ [("script", v)]) ∧ ∀ base : Heap, K.In base → base.Ns mainGlobals mg → FnOk l.prog w K mg base CX0 8 fa fd ["script"] (spLaw K) := by
  have e := hfa.symm.trans (PySem.W.mg_of X G da8)
  cases e
  have E2 := ec_of (x := "BadValue") (st := sI2) X G a2 l2 i2 lf2 cf2 b2 sg tk
  have E3 := ec_of (x := "BadText") (st := sI3) X G a3 l3 i3 lf3 cf3 b3 sg tk
  have E4 := ec_of (x := "BadTree") (st := sI4) X G a4 l4 i4 lf4 cf4 b4 sg tk
  have E5 := ec_of (x := "NoBest") (st := sI5) X G a5 l5 i5 lf5 cf5 b5 sg tk
  have E6 := ec_of (x := "Stuck") (st := sI6) X G a6 l6 i6 lf6 cf6 b6 sg tk
  have E7 := ec_of (x := "Spent") (st := sI7) X G a7 l7 i7 lf7 cf7 b7 sg tk
  have E8 := ec_of (x := "NoModule") (st := sI8) X G a8 l8 i8 lf8 cf8 b8 sg tk
  have E9 := ec_of (x := "TakenName") (st := sI9) X G a9 l9 i9 lf9 cf9 b9 sg tk
  have E10 := ec_of (x := "MissingUse") (st := sI10) X G a10 l10 i10 lf10 cf10 b10 sg tk
  have E11 := ec_of (x := "InUse") (st := sI11) X G a11 l11 i11 lf11 cf11 b11 sg tk
  have E12 := ec_of (x := "NotClosed") (st := sI12) X G a12 l12 i12 lf12 cf12 b12 sg tk
  have E13 := ec_of (x := "Unlawful") (st := sI13) X G a13 l13 i13 lf13 cf13 b13 sg tk
  have F1 := fun_mk (st := sSo) dl1 dc1 dk1
  have F2 := fun_mk (st := sNum) dl2 dc2 dk2
  have F3 := fun_mk (st := sDraw) dl3 dc3 dk3
  have F4 := fun_mk (st := sTake) dl4 dc4 dk4
  have F5 := fun_mk (st := sOf) dl5 dc5 dk5
  have F6 := fun_mk (st := sFor) dl6 dc6 dk6
  have F7 := fun_mk (st := sCau) dl7 dc7 dk7
  have F8 := fun_mk (st := sLaw) dl8 dc8 dk8
  have T := Txt.mk E2 E3 E4 E5 E6 E7 E8 E9 E10 E11 E12 E13 (PySem.W.mg_of X G aCE) (tab_of tb) (far_of fb) (ex_of e6) (ex_of e8)
  have B1 := F1.binds (ps := ["found", "meant"]) fun _ _ _ _ _ _ us hl => match us, hl with | [_, _], _ => rfl
  have B2 := F2.binds (ps := ["script"]) fun _ _ _ _ _ _ us hl => match us, hl with | [_], _ => rfl
  have B3 := F3.binds (ps := ["row", "at", "limit"]) fun _ _ _ _ _ _ us hl => match us, hl with | [_, _, _], _ => rfl
  have B4 := F4.binds (ps := ["row", "spot", "limit"]) fun _ _ _ _ _ _ us hl => match us, hl with | [_, _, _], _ => rfl
  have B5 := F5.binds (ps := ["value"]) fun _ _ _ _ _ _ us hl => match us, hl with | [_], _ => rfl
  have B6 := F6.binds (ps := ["value"]) fun _ _ _ _ _ _ us hl => match us, hl with | [_], _ => rfl
  have B7 := F7.binds (ps := ["name"]) fun _ _ _ _ _ _ us hl => match us, hl with | [_], _ => rfl
  have m_isinstance := PySem.W.mg_none_of X G z_isinstance
  have m_len := PySem.W.mg_none_of X G z_len
  have m_range := PySem.W.mg_none_of X G z_range
  have m_int := PySem.W.mg_none_of X G z_int
  have m_tuple := PySem.W.mg_none_of X G z_tuple
  have m_bool := PySem.W.mg_none_of X G z_bool
  have m_str := PySem.W.mg_none_of X G z_str
  have m_ValueError := PySem.W.mg_none_of X G z_ValueError
  have m_LookupError := PySem.W.mg_none_of X G z_LookupError
  have m_ArithmeticError := PySem.W.mg_none_of X G z_ArithmeticError
  have m_Exception := PySem.W.mg_none_of X G z_Exception
  exact ⟨PySem.W.fnOf "law" "law" (defArgs sLaw) (defBody sLaw) (defScope sLaw) .none xkV8 xdoc8 xpm8 xan8 xcd8 xct8, fun s v => .of_eq rfl, fun base _ _ => ok_law T F8 F2 B2 (PySem.W.mg_of X G da2) (ok_num F2 m_range m_int m_len) F4 B4 (PySem.W.mg_of X G da4) (ok_take F4 F3 B3 (PySem.W.mg_of X G da3) m_int m_len)
    F1 B1 (PySem.W.mg_of X G da1) (ok_so F1 B1 (PySem.W.mg_of X G da1) m_isinstance m_len m_range m_tuple m_bool m_int m_str) F5 B5 (PySem.W.mg_of X G da5) F6 B6 (PySem.W.mg_of X G da6) F7 B7 (PySem.W.mg_of X G da7) m_isinstance m_len m_range m_ValueError m_LookupError m_ArithmeticError m_Exception⟩
end Cw

set_option Elab.async false
set_option linter.all false
set_option maxRecDepth 100000
set_option maxHeartbeats 0
open PySem PySem.W PyProof.Rows
theorem PySem.Challenge.cw_callwarrant_k00_errors_holds : PySem.Challenge.rw_callwarrant_k00_errors.Holds := by
  w_on; o_law; k_head; (case hw => w_witness2)
  k_fill
  refine L2.walk_of (l := PySem.Challenge.rw_callwarrant_k00_errors) (n := 63) (k := 8) (x := "script") (CX := fun _ => L2.CX0) (sp := fun w => Cw.spLaw _) rfl (by decide) rfl ⟨rfl, by decide, by decide⟩ (fun w h Y => PySem.W.kIn_of Y) ?F (fun _ _ a ns hl _ hS => ⟨a, ns, rfl, hS, hl, fun _ => rfl⟩) (fun _ _ _ _ _ h => h)
  case F =>
    intro w mg fa h KX G hmg
    refine' Cw.all_mk KX G hmg ?a2 ?l2 ?i2 ?lf2 ?cf2 ?b2 ?a3 ?l3 ?i3 ?lf3 ?cf3 ?b3 ?a4 ?l4 ?i4 ?lf4 ?cf4 ?b4 ?a5 ?l5 ?i5 ?lf5 ?cf5 ?b5 ?a6 ?l6 ?i6 ?lf6 ?cf6 ?b6 ?a7 ?l7 ?i7 ?lf7 ?cf7 ?b7 ?a8 ?l8 ?i8 ?lf8 ?cf8 ?b8 ?a9 ?l9 ?i9 ?lf9 ?cf9 ?b9 ?a10 ?l10 ?i10 ?lf10 ?cf10 ?b10 ?a11 ?l11 ?i11 ?lf11 ?cf11 ?b11 ?a12 ?l12 ?i12 ?lf12 ?cf12 ?b12 ?a13 ?l13 ?i13 ?lf13 ?cf13 ?b13 ?sg ?tk ?aCE ?tb ?fb ?e6 ?e8 ?da1 ?dl1 ?dc1 ?dk1 ?da2 ?dl2 ?dc2 ?dk2 ?da3 ?dl3 ?dc3 ?dk3 ?da4 ?dl4 ?dc4 ?dk4 ?da5 ?dl5 ?dc5 ?dk5 ?da6 ?dl6 ?dc6 ?dk6 ?da7 ?dl7 ?dc7 ?dk7 ?da8 ?dl8 ?dc8 ?dk8 ?z_isinstance ?z_len ?z_range ?z_int ?z_tuple ?z_bool ?z_str ?z_ValueError ?z_LookupError ?z_ArithmeticError ?z_Exception
    (case a2 => k_is)
    (case l2 => k_is)
    (case i2 => k_is)
    (case lf2 => k_is)
    (case cf2 => k_is)
    (case b2 => kernel_rfl)
    (case a3 => k_is)
    (case l3 => k_is)
    (case i3 => k_is)
    (case lf3 => k_is)
    (case cf3 => k_is)
    (case b3 => kernel_rfl)
    (case a4 => k_is)
    (case l4 => k_is)
    (case i4 => k_is)
    (case lf4 => k_is)
    (case cf4 => k_is)
    (case b4 => kernel_rfl)
    (case a5 => k_is)
    (case l5 => k_is)
    (case i5 => k_is)
    (case lf5 => k_is)
    (case cf5 => k_is)
    (case b5 => kernel_rfl)
    (case a6 => k_is)
    (case l6 => k_is)
    (case i6 => k_is)
    (case lf6 => k_is)
    (case cf6 => k_is)
    (case b6 => kernel_rfl)
    (case a7 => k_is)
    (case l7 => k_is)
    (case i7 => k_is)
    (case lf7 => k_is)
    (case cf7 => k_is)
    (case b7 => kernel_rfl)
    (case a8 => k_is)
    (case l8 => k_is)
    (case i8 => k_is)
    (case lf8 => k_is)
    (case cf8 => k_is)
    (case b8 => kernel_rfl)
    (case a9 => k_is)
    (case l9 => k_is)
    (case i9 => k_is)
    (case lf9 => k_is)
    (case cf9 => k_is)
    (case b9 => kernel_rfl)
    (case a10 => k_is)
    (case l10 => k_is)
    (case i10 => k_is)
    (case lf10 => k_is)
    (case cf10 => k_is)
    (case b10 => kernel_rfl)
    (case a11 => k_is)
    (case l11 => k_is)
    (case i11 => k_is)
    (case lf11 => k_is)
    (case cf11 => k_is)
    (case b11 => kernel_rfl)
    (case a12 => k_is)
    (case l12 => k_is)
    (case i12 => k_is)
    (case lf12 => k_is)
    (case cf12 => k_is)
    (case b12 => kernel_rfl)
    (case a13 => k_is)
    (case l13 => k_is)
    (case i13 => k_is)
    (case lf13 => k_is)
    (case cf13 => k_is)
    (case b13 => kernel_rfl)
    (case sg => k_is)
    (case tk => k_is)
    (case aCE => k_is)
    (case tb => kernel_rfl)
    (case fb => kernel_rfl)
    (case e6 => kernel_rfl)
    (case e8 => kernel_rfl)
    (case da1 => k_is)
    (case dl1 => k_is)
    (case dc1 => k_is)
    (case dk1 => k_is)
    (case da2 => k_is)
    (case dl2 => k_is)
    (case dc2 => k_is)
    (case dk2 => k_is)
    (case da3 => k_is)
    (case dl3 => k_is)
    (case dc3 => k_is)
    (case dk3 => k_is)
    (case da4 => k_is)
    (case dl4 => k_is)
    (case dc4 => k_is)
    (case dk4 => k_is)
    (case da5 => k_is)
    (case dl5 => k_is)
    (case dc5 => k_is)
    (case dk5 => k_is)
    (case da6 => k_is)
    (case dl6 => k_is)
    (case dc6 => k_is)
    (case dk6 => k_is)
    (case da7 => k_is)
    (case dl7 => k_is)
    (case dc7 => k_is)
    (case dk7 => k_is)
    (case da8 => k_is)
    (case dl8 => k_is)
    (case dc8 => k_is)
    (case dk8 => k_is)
    (case z_isinstance => k_is)
    (case z_len => k_is)
    (case z_range => k_is)
    (case z_int => k_is)
    (case z_tuple => k_is)
    (case z_bool => k_is)
    (case z_str => k_is)
    (case z_ValueError => k_is)
    (case z_LookupError => k_is)
    (case z_ArithmeticError => k_is)
    (case z_Exception => k_is)
