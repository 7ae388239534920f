import PyProof.Rows.All
import Wide.All
import OpenK.AllK
import Wide.FinOn
import PyProof.EqAt
import PyProof.EqKinds
import PyProof.TupleCall
import PyProof.ReprRoads
import KE.KIsAll
import KE.KTryMore
import HandS.ForMost
import HandS.Exc
import HandS.ExcInit
import HandS.ExcField
import HandS.ExcIs
import HandS.IsInst
import HandS.Defaults
import HandS.Wide
import HandS.EndBits
import HandS.Head2
import HandS.HeadHook2
import HandS.Small
import HandS.Walk
import HandS.Conv
import HandS.Strs
import HandS.Zip0
import HandS.TupAny
import KE.KDictZip
import HandS.ListItems
import HandS.DictTup
import HandS.More
import HandS.DeepEq
import HandS.Property
import HandS.DictComp
import HandS.Text
import HandS.Style
import PyProof.FactsAll.dict_1
import HandS.SetFor
import KE.GoesEnumKw
import KE.GoesEnum
import HandS.Iter
import HandS.ExcOwn
import HandS.Lambda
import HandS.OwnEq
import PyProof.InstNe
import PyProof.ReprBulk
import PyProof.FitsInt
import PySem.Challenge.RW_playedlate_k40_texts_of_rows
set_option Elab.async false
set_option linter.all false
set_option maxRecDepth 100000
set_option maxHeartbeats 4000000
/-! # Own exceptions as values: made by place and by keyword, read, asked for their class; repr of data with dicts; defs of a caller that bears no repr. -/
namespace PlayL
open PySem PySem.W PySem.Calls PyProof.Rows PySem.HandSPX
/-! ### a keyword call of an exception class -/
section
variable {prog : Program} {w : World} {A : Around} {E : Value → Shared → Prop} {R : Result → Shared → Prop} {hp : Heap} {gs : Array GenState} {dr : Drawn} {tk : Nat} {os : OsState}
variable {cn cq : Str} {C cN : Addr} {cb cm : List Value} {slotn : List Str} {subs : List Value} {abst : Bool} {coll : Option Bool} {cdoc : Option Addr} {z0 z1 z2 z3 z5 : Option Value}
theorem mro_has (hm : refsVE cm = true) (nm : String) : (Value.ref C :: cm).contains (.type nm) = ([.type "ValueError", .type "Exception", .type "BaseException", .type "object"] : List Value).contains (.type nm) := by
  rw [List.contains_cons, refsVE_contains nm cm hm]
  rfl
/-- type.__call__ of the class with keywords alone: a new exception of no args, then the own __init__ with the keywords -/
theorem made_by_kw (hm : refsVE cm = true) {kws : List (Str × Value)} {f0 : Addr} {Q : Fin → Shared → Prop} (hC : hp.get? C = some (excClassObj cn cq C cN cb cm true slotn subs abst coll cdoc z0 z1 z2 z3 z5 "ValueError.__new__"))
    (found : Looks (model prog w) hp (typeLookup (.ref C) "__init__") (some (.ref f0))) (bound : ∀ me, Looks (model prog w) hp (bindSpecial (.ref f0) me) (.ref f0, [me]))
    (next : codeAny (model prog w) A (.call (.ref f0) ⟨[.ref (hp.objs.size + 1)], kws⟩)
      (fun r s' => match r with | .ok (.ret v) => v = .none ∧ Q (.done (.ret (.ref (hp.objs.size + 1)))) s' | .ok _ => False | .error e => E e s') ⟨(hp.push (kdv_tup [])).push (excO C hp.objs.size), gs, dr, tk, os⟩) :
    wpAny (model prog w) A (Builtin.«type.__call__» ⟨[.ref C], kws⟩) Q E ⟨hp, gs, dr, tk, os⟩ := by
  have G := F.excBase_ValueError
  have gn := G.noStar
  have ge := G.ends
  have mV := mro_has (C := C) hm "ValueError"
  have mA := mro_has (C := C) hm "AttributeError"
  have mN := mro_has (C := C) hm "NameError"
  rw [show ([.type "ValueError", .type "Exception", .type "BaseException", .type "object"] : List Value).contains (.type "ValueError") = true by decide +kernel] at mV
  rw [show ([.type "ValueError", .type "Exception", .type "BaseException", .type "object"] : List Value).contains (.type "AttributeError") = false by decide +kernel] at mA
  rw [show ([.type "ValueError", .type "Exception", .type "BaseException", .type "object"] : List Value).contains (.type "NameError") = false by decide +kernel] at mN
  -- the class is looked at
  repeat (first | with_reducible refine wpAny_loadPart_at hC ?_ | with_reducible refine wpAny_madeBy_exc hC ?_ | wp_step)
  refine codeAny_call_builtin_code (Code.quiet_builtin _ G.quiet) ?_
  -- its __new__ may be called so
  simp only [checkBuiltinCall, G.newKind, G.newSplit, G.newRow]
  repeat (first | refine wpAny_loadPart_at hC ?_ | (refine wpAny_isSubtype_exc hC ?_; rw [mV]) | refine wpAny_staticBase_exc hC ?_ | refine wpAny_madeBy_exc hC ?_ | simp only [bne_self_eq_false, Bool.false_eq_true, if_false] | wp_step)
  -- the new exception
  refine codeAny_builtinAt G.entry ?_
  unfold Builtin.«BaseException.__new__»
  refine PySem.wpAt_bind ?_
  show PySem.wpAt _ _ _ (stack >>= _) _ _ _
  refine PySem.wpAt_bind (PySem.wpAt_stack fun _ _ => PySem.wpAt_of_wpAny ?_)
  wp_walk
  refine PySem.wpAt_of_wpAny ?_
  rw [G.owner]
  repeat (first | with_reducible refine wpAny_madeHere_exc G.canon hC ?_ | with_reducible refine wpAny_loadPart_at hC ?_ | (with_reducible refine wpAny_isSubtype_exc hC ?_; first | rw [mV] | rw [mA] | rw [mN]) | wp_step)
  have grows : ∀ b o, hp.get? b = some o → ((hp.push (kdv_tup [])).push (excO C hp.objs.size)).get? b = some o := fun b o e => Heap.get?_push_of_some _ (Heap.get?_push_of_some _ e)
  have fresh : ((hp.push (kdv_tup [])).push (excO C hp.objs.size)).get? (hp.objs.size + 1) = some (excO C hp.objs.size) := by heap_get
  have self_in : (Value.ref C :: cm).contains (.ref C) = true := by simp
  have C' := grows _ _ hC
  have found' := found.keeps grows
  have bound' := (bound (.ref (hp.objs.size + 1))).keeps grows
  show wpAny _ _ _ _ _ _
  rw [Heap.size_push]
  refine wpAny_isSubtype_exc C' ?_
  rw [self_in]
  repeat (first | with_reducible refine wpAny_loadPart_at fresh ?_ | wp_step)
  show wpAny _ _ (typeLookup (.ref C) _) _ _ _
  refine found'.at (wpAny_holding (wpAny_bind (bound'.at (wpAny_bind (wpAny_call (codeAny_mono next fun r s' y => ?_))))))
  match r, y with
  | .error _, y => exact y
  | .ok .next, y => exact y.elim
  | .ok .brk, y => exact y.elim
  | .ok .cont, y => exact y.elim
  | .ok (.ret v), y =>
    obtain ⟨rfl, y⟩ := y
    first
      | exact wpAny_pure (wpAny_pure y)
      | (wp_walk; exact y)
theorem called_by_kw (hm : refsVE cm = true) {kws : List (Str × Value)} {f0 : Addr} (hC : hp.get? C = some (excClassObj cn cq C cN cb cm true slotn subs abst coll cdoc z0 z1 z2 z3 z5 "ValueError.__new__"))
    (found : Looks (model prog w) hp (typeLookup (.ref C) "__init__") (some (.ref f0))) (bound : ∀ me, Looks (model prog w) hp (bindSpecial (.ref f0) me) (.ref f0, [me]))
    (next : codeAny (model prog w) (A.under (.builtin "type.__call__" ⟨[.ref C], kws⟩)) (.call (.ref f0) ⟨[.ref (hp.objs.size + 1)], kws⟩) (InitBack (hp.objs.size + 1) R) ⟨(hp.push (kdv_tup [])).push (excO C hp.objs.size), gs, dr, tk, os⟩) :
    codeAny (model prog w) A (.call (.ref C) ⟨[], kws⟩) R ⟨hp, gs, dr, tk, os⟩ := by
  have l1 := tc_lookup
  have l2 := tc_bind (.ref C)
  have ty : (⟨hp, gs, dr, tk, os⟩ : Shared).TypeIs (.ref C) "type" := ⟨_, hC, rfl⟩
  refine codeAny_of_tree ?_
  show wpAny _ _ (callAny (.ref C) _) _ _ _
  repeat (any_goals (first | assumption | with_reducible refine wpAny_loadPart_at hC ?_ | wp_step))
  refine ⟨rfl, codeAny_call_builtin_at (Code.quiet_builtin _ (by decide +kernel)) entry_typeCall (wpAny_check_type_call_sub hC (made_by_kw hm hC found bound (codeAny_mono next fun r s' y => ?_)))⟩
  match r, y with
  | .error _, y => exact y
  | .ok .next, y => exact y
  | .ok .brk, y => exact y
  | .ok .cont, y => exact y
  | .ok (.ret _), y => exact y
end
/-! ### the class of an exception that has a dict -/
section
variable {prog : Program} {w : World} {A : Around} {E : Value → Shared → Prop} {s : Shared} {K : Frag} {x D : Addr} {ox : Obj} {od : Option Obj}
theorem asked_class (c : L2.ExcC K D) {Q : Option Value → Shared → Prop} (hK : K.In s.heap) (J : InstAt s.heap x ox D od) (q : Q (some (.ref D)) { s with toks := s.toks + 1 }) : wpAny (model prog w) A (getAttr? (.ref x) "__class__") Q E s := by
  obtain ⟨cd, hcd, _⟩ := any_some c.hd
  have hfind : findObj K D od "__class__" = some (.bind (.builtin "getset_descriptor.__get__") (.builtin "object.__class__")) := by
    unfold findObj
    rw [hcd, Option.bind_some, c.ha, Option.bind_some]
    simp [c.hn, c.ht]
  obtain ⟨hp, gs, dr, tk, os⟩ := s
  have l0 := J.type (M := model prog w)
  have l1 := looks_findIn (M := model prog w) hK c.hg
  have l2 := looks_findIn (M := model prog w) hK c.hk
  have l3 := looks_find (M := model prog w) hK J hfind
  have below : Looks (model prog w) hp (isInstance (.ref x) (.type "BaseException")) true := l0.andThen (looks_subIn hK c.hs)
  have other : (onTheHeap (Value.ref D) && Value.builtin "BaseException.__getattribute__" == Value.builtin "object.__getattribute__") = false := by
    rw [show (Value.builtin "BaseException.__getattribute__" == Value.builtin "object.__getattribute__") = false by decide +kernel]
    rfl
  unfold getAttr? getAttrBy? getAttrBy
  refine wpAny_bind (wpAny_mkText (wpAny_bind (wpAny_attempt (wpAny_holding (wpAny_bind (l0.at (wpAny_bind (l1.at ?_))))))))
  show wpAny _ _ (if (onTheHeap (Value.ref D) && Value.builtin "BaseException.__getattribute__" == Value.builtin "object.__getattribute__") = true then _ else _) _ _ _
  rw [other, if_neg Bool.false_ne_true]
  unfold getAttrByItsOwn hookBefore
  refine wpAny_bind ?_
  rw [if_pos (show onTheHeap (Value.ref D) = true from rfl)]
  refine l2.at (wpAny_bind (wpAny_attempt (wpAny_holding ?_)))
  unfold callGetattribute
  rw [show (false && onTheHeap (Value.builtin "BaseException.__getattribute__")) = false from rfl, if_neg Bool.false_ne_true]
  unfold boundAndCalled
  rw [PySem.F.excAttr_ValueError.ga.bind (.ref x)]
  refine wpAny_bind (wpAny_pure ?_)
  show wpAny _ _ (call (.builtin "BaseException.__getattribute__") [.ref x, .str "__class__" tk]) _ _ _
  refine wpAny_call (codeAny_call_builtin PySem.F.excAttr_ValueError.ga.plain PySem.F.entry_bexc_ga ?_)
  refine @check_slot (model prog w) _ _ ⟨hp, gs, dr, tk + 1, os⟩ "BaseException.__getattribute__" "BaseException" "__getattribute__" (.ref x) [.str "__class__" tk] [] _ (by decide +kernel) (by decide +kernel) below (PySem.F.args_bexc_ga (.ref x) (.str "__class__" tk)) ?_
  unfold Builtin.«object.__getattribute__»
  refine wpAny_bind (wpAny_of_eq (a := ((Value.ref x : Value), [Value.str "__class__" tk])) (by first | rfl | (simp only [slotArgs]; rfl)) (wpAny_bind (wpAny_pure (wpAny_bind (l0.at (wpAny_bind (l3.at ?_)))))))
  show wpAny _ _ (holding [Value.builtin "object.__class__"] (call (.builtin "getset_descriptor.__get__") [.builtin "object.__class__", .ref x, .ref D]) >>= ret) _ _ _
  refine wpAny_bind (wpAny_holding (wpAny_call (class_get (s := ⟨hp, gs, dr, tk + 1, os⟩) (ox := ox) (od := od) hK J c.hm (wpAny_pure ?_))))
  show wpAny _ _ (handedOut (.ref D)) _ _ _
  rw [handedOut_of (v := .ref D) rfl]
  first
    | exact wpAny_pure (wpAny_pure q)
    | exact wpAny_pure q
    | exact wpAny_pure (wpAny_bind (wpAny_pure (wpAny_pure q)))
theorem cls_obj {cd : ClassData} (h : clsIn K D = some cd) : ∃ c d sl, K.lookup D = some ⟨c, d, .cls cd, sl⟩ := by
  unfold clsIn at h
  split at h
  · rename_i e
    cases h
    exact ⟨_, _, _, e⟩
  · cases h
theorem kit_exc (c : L2.ExcC K D) : KitX K (.ref x) (.ref D) (fun h => InstAt h x ox D od) where
  ty := fun _ _ _ J => J.type
  it := fun _ _ hK _ => by
    obtain ⟨cd, hcd, _⟩ := any_some c.hd
    obtain ⟨_, _, _, e⟩ := cls_obj hcd
    intro A' Q' E' s' k q
    unfold isType loadHead
    exact wpAny_bind (wpAny_loadPart (k _ _ (hK _ _ e)) (wpAny_pure q))
  ne := fun h tp dd its n sl hK htp => by
    obtain ⟨cd, hcd, _⟩ := any_some c.hd
    obtain ⟨_, _, _, e⟩ := cls_obj hcd
    refine Bool.eq_false_iff.mpr fun q => ?_
    have same : D = tp := Value.ref.inj (beq_iff_eq.mp q)
    have two := (hK _ _ e).symm.trans (same ▸ htp)
    cases two
  ca := fun hK J q => asked_class c hK J q
end
end PlayL
set_option Elab.async false
set_option linter.all false
set_option maxRecDepth 100000
set_option maxHeartbeats 4000000
namespace L2
namespace Pl
open PySem PySem.Spec PyProof.Rows
/-! ### heaps in which one exception more stands: at a, its dict at d, its one attribute f -/
def exH (H : Hp) (a d C : Addr) (f : Str) (v : V) : Hp := upd (upd H d (exd d [(f, v)])) a (exo a C (some d))
section
variable {H : Hp} {a d C : Addr} {f : Str} {v : V}
theorem exH_at : exH H a d C f v a = some (exo a C (some d)) := upd_same
theorem exH_dict (h : d ≠ a) : exH H a d C f v d = some (exd d [(f, v)]) := (upd_ne h).trans upd_same
theorem exH_else {b : Addr} (h1 : b ≠ a) (h2 : b ≠ d) : exH H a d C f v b = H b := (upd_ne h1).trans (upd_ne h2)
theorem exH_same (h1 : H a = none) (h2 : H d = none) : Same H (exH H a d C f v) := fun b o e => (exH_else (ne_of_none e h1) (ne_of_none e h2)).trans e
theorem exH_over {o : HO} (h : d ≠ a) : upd (upd (upd H a o) d (exd d [(f, v)])) a (exo a C (some d)) = exH H a d C f v := funext fun b => by
  by_cases hb : b = a
  · rw [hb, upd_same, exH_at]
  · by_cases hd : b = d
    · rw [hd, upd_ne h, upd_same, exH_dict h]
    · rw [exH_else hb hd, upd_ne hb, upd_ne hd, upd_ne hb]
end
/-- self.f = f and no more -/
def spIni (C : Addr) (f : Str) : Sp := fun vs H Q _ => ∃ (a : Addr) (v : V), vs = [.ref a, v] ∧ H a = some (exo a C none) ∧ ∀ d, H d = none → d ≠ a → Q .non (exH H a d C f v)
/-- an own exception class x at C, its __init__ at fI stores its one argument in f -/
structure ExV (P : Program) (w : World) (K : PySem.W.Frag) (mg : Str → Option Value) (base : Heap) (x f : Str) (C fI : Addr) : Prop where
  gC : mg x = some (.ref C)
  o : OexC K C
  e : ExcC K C
  nf : PySem.W.findIn K (.ref C) f = some none
  iC : PySem.W.findIn K (.ref C) "__init__" = some (some (.ref fI))
  tI : PySem.W.typeIn K (.ref fI) = some (.type "function")
  ini : ∃ fd, FnOk P w K mg base CX0 1 fI fd ["self", f] (spIni C f) ∧ Binds K fd ["self", f] [] ∧ KBn K fd ["self", f] 1 [f] (fun us ws => us ++ ws) (fun vs zs => vs ++ zs)
/-- a new exception of the one argument -/
def tEx (C : Addr) (f : Str) (t : TA) : TE := fun σ H Q => t σ H fun vs H1 => ∃ v, vs = [v] ∧ ∀ a d, H1 a = none → H1 d = none → d ≠ a → Q (.ref a) (exH H1 a d C f v)
section
variable {X : Cx} {x f : Str} {C fI : Addr} {p pos kpos : Pos} {e : Expr} {t : TA} {te : TE} {pins : List (Addr × Obj)} {σ : St} {H : Hp} {s : Shared} {Q : VK} {v : V} {u : Value}
theorem ex_made (T : ExV X.prog X.w X.K X.mg X.base x f C fI) (hr : Room 2 X.A) (I : Inv X pins σ H s) (r : RelV v u) (us : List Value) (kw : List (Str × Value)) (hus : us.length ≤ sizeLine) (one : us = [u] ∧ kw = [] ∨ us = [] ∧ kw = [(f, u)])
    (h : ∀ a d, H a = none → H d = none → d ≠ a → Q (.ref a) (exH H a d C f v)) : wpAny (model X.prog X.w) X.A (call (.ref C) us kw) (EP X pins σ Q) X.xe s := by
  obtain ⟨cn, cq, cN, cb, cm, slotn, subs, abst, coll, cdoc, z0, z1, z2, z3, z5, hC, hm⟩ := T.o.cls
  obtain ⟨fd, ok1, bnd, kbnd⟩ := T.ini
  obtain ⟨hp, gs, dr, tk, os⟩ := s
  let e0 : Addr := hp.objs.size + 1
  have big : hp.objs.size ≤ e0 := Nat.le_succ _
  have he0 : H e0 = none := I.hok.fresh big
  let h2 : Heap := (hp.push (PySem.W.kdv_tup us)).push (PySem.HandSPX.excO C hp.objs.size)
  have laid : ∀ b o, hp.get? b = some o → h2.get? b = some o := fun b o q => Heap.get?_push_of_some _ (Heap.get?_push_of_some _ q)
  have at0 : h2.get? e0 = some (PySem.HandSPX.excO C hp.objs.size) := by
    show ((hp.push (PySem.W.kdv_tup us)).push (PySem.HandSPX.excO C hp.objs.size)).get? (hp.objs.size + 1) = _
    heap_get
  have J : Inv X pins σ (upd H e0 (exo e0 C none)) ⟨h2, gs, dr, tk, os⟩ := I.laid (t' := tk) laid big (exo_ok at0)
  have asks : spIni C f [V.ref e0, v] (upd H e0 (exo e0 C none)) (fun y H2 => y = .non ∧ Q (.ref e0) H2) (fun _ _ _ => False) :=
    ⟨_, _, rfl, upd_same, fun d hd hne => ⟨rfl, by
      have q := h e0 d he0 ((upd_ne hne).symm.trans hd) hne
      rw [← exH_over (o := exo e0 C none) hne] at q
      exact q⟩⟩
  have bt : ∀ s' : Shared, X.K.In s'.heap → BindsTo s' fd ⟨Value.ref e0 :: us, kw⟩ ((["self", f] : List Str).zip [Value.ref e0, u]) := fun s' hK => by
    rcases one with ⟨rfl, rfl⟩ | ⟨rfl, rfl⟩
    · exact bnd s' [.ref e0, u] hK rfl
    · exact kbnd.to s' [.ref e0] [u] hK rfl rfl
  have run := ok1.run (X.A.under (.builtin "type.__call__" ⟨.ref C :: us, kw⟩)) X.stack _ _ ⟨Value.ref e0 :: us, kw⟩ [Value.ref e0, u] _ _ (fun _ _ _ => False) (hr.make C us kw) (J.env0.make C us kw) (bt _ J.kIn) (show Vals [V.ref e0, v] [Value.ref e0, u] from .cons rfl (.cons r .nil)) asks
  have back := codeAny_mono (R' := PySem.W.InitBack e0 fun r s' => match r with | .ok (.ret y) => EP X pins σ Q y s' | .ok _ => False | .error er => X.xe er s') run fun r s' y => by
    match r, y with
    | .error _, y => exact y.elim
    | .ok .next, y => exact y.elim
    | .ok .brk, y => exact y.elim
    | .ok .cont, y => exact y.elim
    | .ok (.ret _), y =>
      obtain ⟨_, H3, I3, rv, rfl, q⟩ := J.after y
      exact ⟨rv, V.ref e0, H3, I3, rfl, q⟩
  have f1 := PySem.W.looks_findIn (M := model X.prog X.w) I.kIn T.iC
  have f2 : ∀ me, PySem.W.Looks (model X.prog X.w) hp (bindSpecial (.ref fI) me) (.ref fI, [me]) := fun me => PySem.W.bind_fn I.kIn me T.tI
  rcases one with ⟨rfl, rfl⟩ | ⟨rfl, rfl⟩
  · exact wpAny_call (PySem.HandSPX.call_own F.excBase_ValueError (fun Y => PySem.HandSPX.refsVE_contains Y cm hm) (I.kIn _ _ hC) f1 f2 hus back)
  · exact wpAny_call (PlayL.called_by_kw hm (I.kIn _ _ hC) f1 f2 back)
theorem pe_ex (T : ExV X.prog X.w X.K X.mg X.base x f C fI) (hr : Room 2 X.A) (hg : Gl X x) (ha : PA X [e] t)
    (hdb : (x == ("__debug__" : Str)) = false := by decide) (he : starEach [e] X.env = (false, eval e X.env) :: starEach [] X.env := by rfl) (hpl : (backTo pos (starEach [] X.env)).any (·.1) = false := by rfl) :
    PE X (.Call (.Name x p) [e] [] pos) (tEx C f t) := by
  refine ⟨fun pins s σ H Q I h => wpAny_Call_Name_kw (ld_glob I hg T.gC ?_ hdb)⟩
  refine PySem.W.callWith_K (h₀ := X.base) I.ok.mod.kin T.o.kC (thn (ha.run pos pins s σ H _ I h) fun us s1 ⟨vs, H1, I1, r, v, ev, q⟩ => ⟨I1.kIn, ?_⟩) he hpl
  subst ev
  obtain ⟨u, rfl, ru⟩ := vals1 r
  exact ex_made T hr I1 ru [u] [] (by show 1 ≤ sizeLine; rw [sizeLine_eq]; omega) (.inl ⟨rfl, rfl⟩) q
/-- C(f = e) -/
theorem pe_exK (T : ExV X.prog X.w X.K X.mg X.base x f C fI) (hr : Room 2 X.A) (hg : Gl X x) (he : PE X e te)
    (hdb : (x == ("__debug__" : Str)) = false := by decide) (hall : (backToKw pos (keywordEach [⟨some f, e, kpos⟩] X.env)).all (·.1.isSome) = true := by rfl) (hks : (backToKw pos (keywordEach [⟨some f, e, kpos⟩] X.env)).filterMap (·.1) = [f] := by rfl)
    (hpl : ((backTo pos (starEach [] X.env)).any (·.1) || (backToKw pos (keywordEach [⟨some f, e, kpos⟩] X.env)).any (·.1.isNone)) = false := by rfl) :
    PE X (.Call (.Name x p) [] [⟨some f, e, kpos⟩] pos) (tEx C f (tCons te tNil)) := by
  refine ⟨fun pins s σ H Q I h => wpAny_Call_Name_kw (ld_glob I hg T.gC ?_ hdb)⟩
  refine PySem.W.callWith_KW0 (h₀ := X.base) I.ok.mod.kin T.o.kC hall (thn ((pk_cons he pk_nil).run pos pins s σ H _ I h) fun ws s1 ⟨zs, H1, I1, r, v, ev, q⟩ => ⟨I1.kIn, ?_⟩) hpl
  rw [hks]
  subst ev
  obtain ⟨u, rfl, ru⟩ := vals1 r
  exact ex_made T hr I1 ru [] [(f, u)] (Nat.zero_le _) (.inr ⟨rfl, rfl⟩) q
end
/-! ### reading it, asking its class -/
/-- e.f, e an exception of the class at C that is tracked -/
def tXv (K : PySem.W.Frag) (f : Str) (te : TE) : TE := fun σ H Q => te σ H fun x H1 => ∃ (a C d : Addr) (fs : List (Str × V)) (v : V), x = .ref a ∧ H1 a = some (exo a C (some d)) ∧ H1 d = some (exd d fs) ∧ ExcC K C ∧ PySem.W.findIn K (.ref C) f = some none ∧ fs.lookup f = some v ∧ Q v H1
section
variable {X : Cx} {e : Expr} {te : TE} {f : Str} {pos : Pos}
theorem inst_at {pins : List (Addr × Obj)} {σ : St} {H : Hp} {s : Shared} {a C d : Addr} {fs : List (Str × V)} (I : Inv X pins σ H s) (ea : H a = some (exo a C (some d))) (ed : H d = some (exd d fs)) :
    ∃ (ox od : Obj), PySem.W.InstAt s.heap a ox C (some od) ∧ ∃ mA : Str → Option Value, (∀ f : Str, RelO (fs.lookup f) (mA f)) ∧ ∀ f : Str, PySem.W.lookIn f od = some (mA f) := by
  obtain ⟨t1, ho⟩ := exo_at I.hok ea
  obtain ⟨mA, hns, hrel⟩ := exd_at I.hok ed
  obtain ⟨od, hod, hl⟩ := lookIn_ns hns
  exact ⟨_, od, ⟨ho, rfl, rfl, hod⟩, mA, hrel, hl⟩
theorem pe_xv (he : PE X e te) (hb : attributeBase e f X.env (eval e X.env) = eval e X.env := by rfl) : PE X (.Attribute e f pos) (tXv X.K f te) := by
  refine ⟨fun pins s σ H Q I h => attr_of hb (thn (he.run pins s σ H _ I h) fun u s1 ⟨x, H1, I1, rx, a, C, d, fs, v, ex, ea, ed, c, no, l, q⟩ => ?_)⟩
  subst ex
  obtain rfl : u = Value.ref a := rx
  obtain ⟨ox, od, J, mA, hrel, hl⟩ := inst_at I1 ea ed
  obtain ⟨y, hy, ry⟩ := RelO.some_of (v := v) (o := mA f) (by rw [← l]; exact hrel f)
  exact PySem.HandSPX.exc_get I1.kIn J c.hg c.hk c.hs (PySem.W.findObj_own c.hd no rfl (by rw [hl, hy])) (handed_of ry) ⟨v, H1, I1.tok _, ry, q⟩
/-- isinstance(e, c) -/
def rIsV (K : PySem.W.Frag) : List V → Hp → VK → Prop := fun xs H Q => ∃ (a C d : Addr) (fs : List (Str × V)) (c : V) (cv : Value) (b : Bool), xs = [.ref a, c] ∧ H a = some (exo a C (some d)) ∧ H d = some (exd d fs) ∧ ExcC K C ∧ ClsV c cv ∧ PySem.W.kitOne K (.ref C) cv = some b ∧ Q (.bl b) H
theorem call_isV : CallR X (.builtin "isinstance") (rIsV X.K) := by
  intro pins s σ H xs us Q I r h
  obtain ⟨a, C, d, fs, c, cv, b, rfl, ea, ed, cc, kc, kit, q⟩ := h
  obtain ⟨u1, u2, rfl, r1, r2⟩ := vals2 r
  obtain rfl : u1 = Value.ref a := r1
  have e2 := kc.eq r2
  subst e2
  obtain ⟨ox, od, J, _⟩ := inst_at I ea ed
  exact PySem.W.kia_one (PlayL.kit_exc cc) I.kIn J kit (fun z => nomatch z) fun tk => ⟨.bl b, H, I.tok tk, rfl, q⟩
end
end Pl
end L2
set_option Elab.async false
set_option linter.all false
set_option maxRecDepth 100000
set_option maxHeartbeats 4000000
namespace L2
namespace Pl
open PySem PySem.Spec PyProof.Rows
/-! ### data: none, bools, ints, texts, lists, tuples, dicts with int and text keys -/
def keyD : Key → PyData
  | .inl i => .int i
  | .inr x => .str x
mutual
inductive Dq (K : PySem.W.Frag) (H : Hp) : V → PyData → Prop
  | non : Dq K H .non .none
  | bl (b : Bool) : Dq K H (.bl b) (.bool b)
  | int (i : Int) : Dq K H (.int i) (.int i)
  | str (x : Str) : Dq K H (.str x) (.str x)
  | lst {a : Addr} {xs : List V} {ds : List PyData} : H a = some (.lst xs) → DqAll K H xs ds → Dq K H (.ref a) (.list ds)
  | tup {a : Addr} {xs : List V} {ds : List PyData} : H a = some (.tup xs) → DqAll K H xs ds → Dq K H (.ref a) (.tuple ds)
  | dic {a : Addr} {kvs : List (Key × V)} {es : List (PyData × PyData)} : H a = some (.dK kvs) → DqKv K H kvs es → Dq K H (.ref a) (.dict es)
inductive DqAll (K : PySem.W.Frag) (H : Hp) : List V → List PyData → Prop
  | nil : DqAll K H [] []
  | cons {v : V} {vs : List V} {d : PyData} {ds : List PyData} : Dq K H v d → DqAll K H vs ds → DqAll K H (v :: vs) (d :: ds)
inductive DqKv (K : PySem.W.Frag) (H : Hp) : List (Key × V) → List (PyData × PyData) → Prop
  | nil : DqKv K H [] []
  | cons {k : Key} {v : V} {r : List (Key × V)} {d : PyData} {es : List (PyData × PyData)} : Dq K H v d → DqKv K H r es → DqKv K H ((k, v) :: r) ((keyD k, d) :: es)
end
/-- sys.modules stands in the written part -/
def SysK (K : PySem.W.Frag) : Prop := ∃ o, K.lookup sysModules = some o ∧ o.cls = .type "dict"
section
variable {X : Cx} {pins : List (Addr × Obj)} {σ : St} {H : Hp} {s : Shared}
theorem not_sys (hK : SysK X.K) (I : Inv X pins σ H s) {a : Addr} {o : Obj} (h : s.heap.get? a = some o) (hc : o.cls ≠ .type "dict") : sysModules ≠ a := fun e => by
  obtain ⟨u, hu, hd⟩ := hK
  have q := I.kIn _ _ hu
  rw [e, h] at q
  exact hc (by rw [Option.some.inj q, hd])
theorem pairs_of : ∀ {kvs : List (Key × V)} {vs : List (Key × Value)} {es : List (PyData × PyData)}, KV kvs vs → (∀ (i : Nat) (v : V) (d : PyData) (u : Value), (kvs[i]?.map (·.2)) = some v → (es[i]?.map (·.2)) = some d → RelV v u → ∃ as, Reads s.heap u d as ∧ sysModules ∉ as) →
    es.map (·.1) = kvs.map (fun p => keyD p.1) → ∃ bs, PyProof.V.PairsRead s.heap keyD vs es bs ∧ sysModules ∉ bs
  | [], _, [], .nil, _, _ => ⟨[], .nil, fun h => nomatch h⟩
  | _ :: _, _, [], _, _, e => by cases e
  | [], _, _ :: _, _, _, e => by cases e
  | (k, v) :: r, (k', u) :: us, (kd, d) :: es, .cons h1 h2, hr, e => by
    obtain ⟨e1, e2⟩ := List.cons.inj (show kd :: es.map (·.1) = keyD k :: r.map (fun p => keyD p.1) from e)
    obtain ⟨k1, k2⟩ := h1
    obtain ⟨bs, p, nb⟩ := pairs_of h2 (fun i v d u q1 q2 => hr (i + 1) v d u (by simpa using q1) (by simpa using q2)) e2
    obtain ⟨as, q, na⟩ := hr 0 v d u rfl rfl k2
    have k3 : k = k' := k1
    subst k3 e1
    exact ⟨_, .cons q p, fun h => (List.mem_append.mp h).elim na nb⟩
mutual
theorem Dq.reads (hK : SysK X.K) (I : Inv X pins σ H s) : ∀ (d : PyData) (v : V) (u : Value), Dq X.K H v d → RelV v u → ∃ as, Reads s.heap u d as ∧ sysModules ∉ as
  | .none, _, _, h, r => by
    cases h
    cases r
    exact ⟨_, Reads.none, fun h => nomatch h⟩
  | .bool b, _, _, h, r => by
    cases h
    cases r
    exact ⟨_, Reads.bool b, fun h => nomatch h⟩
  | .int i, _, _, h, r => by
    cases h
    obtain ⟨t, rfl⟩ := r
    exact ⟨_, Reads.int i t, fun h => nomatch h⟩
  | .str x, _, _, h, r => by
    cases h
    obtain ⟨t, rfl⟩ := r
    exact ⟨_, Reads.str x t, fun h => nomatch h⟩
  | .list ds, _, _, h, r => by
    cases h with
    | lst ha hx =>
      cases r
      obtain ⟨its, rv, ⟨o, n, ho, hc, _, hd⟩, _⟩ := I.list (.inl (.inl ha))
      obtain ⟨as, q, na⟩ := Dq.readsAll hK I ds _ its hx rv
      refine ⟨_, Reads.list ho hc hd q, fun h => ?_⟩
      rcases List.mem_cons.mp h with e | h
      · exact not_sys hK I ho (by rw [hc]; decide +kernel) e
      · exact na h
  | .tuple ds, _, _, h, r => by
    cases h with
    | tup ha hx =>
      cases r
      obtain ⟨its, rv, ⟨o, ho, hc, n, hd⟩, _⟩ := I.tuple (.inl (.inl ha))
      obtain ⟨as, q, na⟩ := Dq.readsAll hK I ds _ its hx rv
      exact ⟨_, Reads.tuple ho hc hd q, na⟩
  | .dict es, _, _, h, r => by
    cases h with
    | dic ha hx =>
      cases r
      rename_i a kvs
      obtain ⟨_, hS, vs, rel, hD⟩ := (show ObjOk X.prog X.w H s.heap a (.dK kvs) from I.hok a _ ha)
      obtain ⟨bs, p, nb⟩ := pairs_of (s := s) (es := es) rel (Dq.readsKv hK I es kvs hx).1 (Dq.readsKv hK I es kvs hx).2
      refine ⟨_, PyProof.V.reads_dictOf (fun k key hk => ?_) hD p, fun h => ?_⟩
      · rcases keyIs_shape (show keyIs k key = true from hk) with ⟨i, t, rfl, rfl⟩ | ⟨x, t, rfl, rfl⟩
        · exact Reads.int i t
        · exact Reads.str x t
      · rcases List.mem_cons.mp h with e | h
        · rw [← e] at hS
          exact absurd hS (by decide)
        · exact nb h
theorem Dq.readsAll (hK : SysK X.K) (I : Inv X pins σ H s) : ∀ (ds : List PyData) (vs : List V) (us : List Value), DqAll X.K H vs ds → Vals vs us → ∃ as, ReadsAll s.heap us ds as ∧ sysModules ∉ as
  | [], _, _, h, r => by
    cases h
    cases r
    exact ⟨_, ReadsAll.nil, fun h => nomatch h⟩
  | d :: ds, _, _, h, r => by
    cases h with
    | cons h1 h2 =>
      cases r with
      | cons r1 r2 =>
        obtain ⟨as, q1, n1⟩ := Dq.reads hK I d _ _ h1 r1
        obtain ⟨bs, q2, n2⟩ := Dq.readsAll hK I ds _ _ h2 r2
        exact ⟨_, ReadsAll.cons q1 q2, fun h => (List.mem_append.mp h).elim n1 n2⟩
theorem Dq.readsKv (hK : SysK X.K) (I : Inv X pins σ H s) : ∀ (es : List (PyData × PyData)) (kvs : List (Key × V)), DqKv X.K H kvs es → (∀ (i : Nat) (v : V) (d : PyData) (u : Value), (kvs[i]?.map (·.2)) = some v → (es[i]?.map (·.2)) = some d → RelV v u → ∃ as, Reads s.heap u d as ∧ sysModules ∉ as) ∧ es.map (·.1) = kvs.map (fun p => keyD p.1)
  | [], _, h => by
    cases h
    exact ⟨fun i v d u q1 _ _ => by simp at q1, rfl⟩
  | (kd, d) :: es, _, h => by
    cases h with
    | cons h1 h2 =>
      obtain ⟨q, e⟩ := Dq.readsKv hK I es _ h2
      refine ⟨fun i v d' u q1 q2 r => ?_, by rw [List.map_cons, List.map_cons, e]⟩
      cases i with
      | zero =>
        cases q1
        cases q2
        exact Dq.reads hK I d _ _ h1 r
      | succ i => exact q i v d' u (by simpa using q1) (by simpa using q2) r
end
end
/-- what a repr is told of -/
structure Shows (K : PySem.W.Frag) (H : Hp) (v : V) (d : PyData) : Prop where
  dat : Dq K H v d
  can : d.showable = true
  dep : d.depth ≤ 100
  len : d.shown.length ≤ sizeLine
/-- repr(x), x a list, a tuple or a dict of data -/
def rRepr (K : PySem.W.Frag) : List V → Hp → VK → Prop := fun xs H Q => ∃ (a : Addr) (d : PyData), xs = [.ref a] ∧ Shows K H (.ref a) d ∧ Q (.str d.shown) H
theorem call_reprD {X : Cx} {k : Nat} (hK : SysK X.K) (hg : X.A.guards = some []) (hr : Room k X.A) : CallR X (.builtin "repr") (rRepr X.K) := by
  intro pins s σ H xs us Q I r h
  obtain ⟨a, d, rfl, S, q⟩ := h
  obtain ⟨u, rfl, ru⟩ := vals1 r
  obtain rfl : u = Value.ref a := ru
  obtain ⟨as, rd, ns⟩ := Dq.reads hK I d _ _ S.dat rfl
  have z := hr.un
  have z2 := S.dep
  exact repr_of_reads' rd S.can (fun _ => ns) hg (by omega) (fun _ _ e => e) (fun h' t tk k => ⟨.str d.shown, H, I.kept (t' := tk) k, ⟨t, rfl⟩, q⟩) S.len
/-! ### powers of great ints -/
def CPowW (i j : Int) : Prop := 0 ≤ j ∧ (Builtin.Int.intBits i : Int) * j ≤ 2 ^ 27
theorem op_powW {X : Cx} : OpR X (binaryOp .Pow) (rI CPowW fun i j => .int (i ^ j.toNat)) := opI fun _ _ _ _ _ _ _ hc q => pow_int hc.1 hc.2 q
/-! ### defs that are called where no repr runs -/
structure FnG (P : Program) (w : World) (K : PySem.W.Frag) (mg : Str → Option Value) (base : Heap) (CX : CXT) (k : Nat) (f : Addr) (fd : FuncData) (ps : List Str) (sp : Sp) : Prop where
  len : ∀ vs H Q E, sp vs H Q E → vs.length = ps.length
  run : ∀ (A : Around), A.guards = some [] → ∀ (outer : List Env) (s : Shared) (H : Hp) (args : Args) (us : List Value) (vs : List V) (Q : VK) (E : XK), Room k A → Env0 P w K mg base A outer s H → BindsTo s fd args (ps.zip us) → Vals vs us → sp vs H Q E →
    codeAny (model P w) A (.call (.ref f) args) (CR CX outer P w H s Q E) s
section
variable {CX : CXT} {P : Program} {w : World} {K : PySem.W.Frag} {mg : Str → Option Value} {base : Heap} {k : Nat} {f : Addr}
theorem fnG_of {name qual : Str} {params : Arguments} {body : List Stmt} {scope : Scope} {dvs : List V} {kws : List (Str × V)} {fd : FuncData} {N ps : List Str} {sp : Sp} (F : FunD K name qual params body scope dvs kws f fd) (S : FnScope N ps scope)
    (len : ∀ vs H Q E, sp vs H Q E → vs.length = ps.length)
    (does : ∀ (cdv : Value) (A : Around), A.guards = some [] → ∀ (outer : List Env) (s : Shared) (H : Hp) (vs : List V) (Q : VK) (E : XK), Room k (A.deeper (envOfC qual scope s.heap.objs.size f cdv)) → sp vs H Q E →
      ∃ t, PSs (cxOf CX P w K mg base N qual scope f cdv A outer s H E) body t ∧ t { nx := fun _ H' => Q .non H', rt := Q } (start N vs) H) : FnG P w K mg base CX (k + 1) f fd ps sp := by
  obtain ⟨oc, od, dV, kV, doc, pm, an, cdv, ct, osl, rfl, lk, hcd, _, _⟩ := F.ex
  refine ⟨len, fun A hg outer s H args us vs Q E hr e0 hb r hsp => ?_⟩
  have old : ∀ b o, base.get? b = some o → s.heap.get? b = some o := fun b o e => (e0.bs b o e).1
  have hK : K.In s.heap := e0.mod.kin.keeps old
  refine codeAny_call_function hr.depth (hK _ _ lk) rfl S.co S.gen rfl (PySem.W.codeRec_of hK hcd) (hb _ _ _ _ (wpAny_newFunctionEnv_cells S.kind (fun y hy => ?_) fun env he s1 x => ?_))
  · rcases S.par y.1 (List.of_mem_zip (b := y.2) hy).1 with q | q
    · exact .inl q
    · exact .inr ⟨q, PySem.W.cellsFrom_some _ _ _ (.inl q)⟩
  · subst he
    obtain ⟨t, ht, hq⟩ := does cdv A hg outer s H vs Q E (hr.deeper _) hsp
    refine ⟨(e0.mod.nolimit.keeps old).keeps x.toInCall.keep, codeAny_func (wpAny_mono (ht.run [] s1 (start N vs) H _ (inv_start S hr.hd e0 (len _ _ _ _ hsp) r x) hq) (fun fl s' hs => ?_) fun _ _ hs => hs)⟩
    match fl, hs with
    | .ret u, ⟨v, _, H', J, rv, q⟩ => exact ⟨v, H', J.os, J.bare, J.base, J.hok, rv, q⟩
    | .next, ⟨_, H', J, q⟩ => exact ⟨.non, H', J.os, J.bare, J.base, J.hok, rfl, q⟩
    | .brk, ⟨_, _, _, q⟩ => exact q.elim
    | .cont, ⟨_, _, _, q⟩ => exact q.elim
end
end Pl
end L2
set_option Elab.async false
set_option linter.all false
set_option maxRecDepth 100000
set_option maxHeartbeats 4000000
namespace L2
namespace Pl
open PySem PySem.Spec PyProof.Rows
/-! ### the end of a law whose def may show things -/
section
variable {P : Program} {w : World} {K : PySem.W.Frag} {mg mb : Str → Option Value} {CX : CXT} {k : Nat} {fa a : Addr} {fd : FuncData} {x : Str} {sp : Sp} {s₁ : Shared} {vs : List Value} {ns : List Int}
abbrev scrO (vs : List Value) : Obj := { cls := .type "list", data := .seq vs.toArray }
/-- what is tracked at the law's entry: the script, if it is not of the written part -/
def entryH (K : PySem.W.Frag) (a : Addr) (vs : List Value) (ns : List Int) : Hp := fun b => if b = a ∧ K.lookup a = none then some (.frz (scrO vs) (.lst (ns.map V.int))) else none
theorem entryH_some {b : Addr} {u : HO} (h : entryH K a vs ns b = some u) : b = a ∧ K.lookup a = none ∧ u = .frz (scrO vs) (.lst (ns.map V.int)) := by
  unfold entryH at h
  split at h
  · rename_i e
    exact ⟨e.1, e.2, (Option.some.inj h).symm⟩
  · cases h
theorem law_runs (hK : K.In s₁.heap) (hns : s₁.heap.Ns mainGlobals mg) (hb : s₁.heap.Ns builtinsNs mb) (hbb : ∀ x : Str, x ≠ "__name__" → mb x = bootBuiltins x) (hlim : s₁.heap.NoLimit) (hg : s₁.gens = #[])
    (ha : s₁.heap.get? a = some (scrO vs)) (hi : IntsAre vs ns) (hl : ns.length ≤ sizeLine) (hr : Room k callerA)
    (F : ∀ base : Heap, K.In base → base.Ns mainGlobals mg → FnG P w K mg base CX k fa fd [x] sp) (hbind : ∀ (s : Shared) (u : Value), BindsTo s fd ⟨[u], []⟩ [(x, u)])
    (hsp : ∀ H : Hp, Only H → SqL K H a (ns.map V.int) → sp [.ref a] H (fun v _ => v = .bl true) fun _ _ _ => False)
    (hCX : ∀ H e s', CX [] H s₁ (fun _ _ _ => False) e s' → False) :
    codeAny (model P w) callerA (.call (.ref fa) ⟨[.ref a], []⟩) (fun r s' => r = .ok (.ret (.bool true)) ∧ OldK s₁.heap s'.heap ∧ s'.os = s₁.os ∧ AllBare s'.gens) s₁ := by
  let H : Hp := entryH K a vs ns
  have rel := vals_ints hi
  have short : (ns.map V.int).length ≤ sizeLine := by rw [List.length_map]; exact hl
  have only : Only H := fun b => by
    cases q : H b with
    | none => exact .inl rfl
    | some u => exact .inr ⟨_, _, by rw [(entryH_some q).2.2]⟩
  have held : HOk P w H s₁.heap := fun b u q => by
    obtain ⟨rfl, _, rfl⟩ := entryH_some q
    exact ⟨ha, short, vs, _, rel, ha⟩
  have script : SqL K H a (ns.map V.int) := by
    cases q : K.lookup a with
    | none => exact .inl (.inr ⟨scrO vs, if_pos ⟨rfl, q⟩⟩)
    | some o =>
      have e := (hK a o q).symm.trans ha
      have e2 : o = scrO vs := Option.some.inj e
      subst e2
      refine .inr ⟨_, vs.toArray, _, q, rfl, rfl, rfl, ?_, by simpa using rel⟩
      rw [List.size_toArray, hi.length]
      exact hl
  have stays : ∀ {b : Addr} {o : Obj}, s₁.heap.get? b = some o → (b = a → K.lookup a ≠ none) → (hidT s₁.heap H).get? b = some o := fun {b o} e n => hidT_get e (by
    cases q : H b with
    | none => rfl
    | some u =>
      obtain ⟨e1, e2, _⟩ := entryH_some q
      exact absurd e2 (n e1))
  have ofNs : ∀ {b : Addr} {m : Str → Option Value}, s₁.heap.Ns b m → (hidT s₁.heap H).Ns b m := fun {b m} ⟨o, es, ep, e, dd, rr⟩ => ⟨o, es, ep, stays e (fun z => by
    rw [z, ha] at e
    have e2 := Option.some.inj e
    rw [← e2] at dd
    cases dd), dd, rr⟩
  have ofK : K.In (hidT s₁.heap H) := fun b o e => stays (hK b o e) fun z q => by
    rw [z, q] at e
    cases e
  have modu : Mod K mg (hidT s₁.heap H) := ⟨ofK, ofNs hns, ⟨mb, ofNs hb, hbb⟩, hlim.elim fun c hc => ⟨c, ofNs hc.1, hc.2⟩⟩
  have env : Env0 P w K mg (hidT s₁.heap H) callerA [] s₁ H := ⟨rfl, modu, fun b o e => of_hidT e, Nat.le_of_eq (hidT_size _ _), trivial, (fun b hb => by cases hb), held, .of_eq hg⟩
  refine codeAny_mono ((F _ ofK (ofNs hns)).run callerA rfl [] s₁ H ⟨[.ref a], []⟩ [.ref a] [.ref a] _ _ hr env (hbind s₁ (.ref a)) (.cons rfl .nil) (hsp H only script)) fun r s' y => ?_
  match r, y with
  | .error e, y => exact (hCX H e s' y).elim
  | .ok .next, y => exact y.elim
  | .ok .brk, y => exact y.elim
  | .ok .cont, y => exact y.elim
  | .ok (.ret u), ⟨v, H', os, bare, un, held', ru, q⟩ =>
    subst q
    obtain rfl : u = Value.bool true := ru
    refine ⟨rfl, OldK.of_keep fun b o e => ?_, os, bare⟩
    cases q : H b with
    | none => exact un.keep b o e q (fun z => by cases z) (fun z => by cases z)
    | some t =>
      obtain ⟨rfl, _, rfl⟩ := entryH_some q
      have there := un.frzs b _ _ q
      have now := held' b _ there
      rw [ha] at e
      rw [← Option.some.inj e]
      exact now.1
end
/-- a law: F gives the written part, the function object, the promise; the script's bits are told, and that no repr runs around -/
theorem walk_G {l : PySem.W.OpenLaw} {n k : Nat} {q : Program} {loose : List Str} {XP : (Str → Option Value) → Heap → Prop} {YP : World → Heap → Prop} {d : DefRec} {CX : World → CXT} {x : Str}
    (hn : l.most = some n) (hn2 : n ≤ sizeLine) (hdf : d.params.defaults = []) (hr : Room k callerA)
    (F : ∀ (w : World) (mg : Str → Option Value) (fa : Addr) (h : Heap), YP w h → h.Ns mainGlobals mg → mg d.name = some (.ref fa) →
      ∃ (K : PySem.W.Frag) (fd : FuncData) (sp : Sp), K.In h ∧ (∀ (s : Shared) (u : Value), BindsTo s fd ⟨[u], []⟩ [(x, u)]) ∧
        (∀ (H : Hp) (a : Addr) (ns : List Int), ns.length ≤ n → (∀ z ∈ ns, Builtin.Int.intBits z ≤ 1048576) → Only H → SqL K H a (ns.map V.int) → sp [.ref a] H (fun v _ => v = .bl true) fun _ _ _ => False) ∧
        ∀ base : Heap, K.In base → base.Ns mainGlobals mg → FnG l.prog w K mg base (CX w) k fa fd [x] sp)
    (hCX : ∀ (w : World) (H : Hp) (s : Shared) (e : Value) (s' : Shared), CX w [] H s (fun _ _ _ => False) e s' → False) :
    PySem.W.WalkO q loose XP YP l.row.toRowW d [] (fun f vs => PySem.call f vs) :=
  Att.attach_callB hn hdf fun w s₀ s₁ mg mb fa o pm cd doc a vs ns G Y ho hd hcd hmg hobj hints hlen hbits hg => by
    obtain ⟨K, fd, sp, hK, hb, hsp, hF⟩ := F w mg fa _ Y G.T.g hmg
    exact law_runs hK G.T.g G.T.b G.T.builtins G.T.nolimit hg hobj hints (Nat.le_trans hlen hn2) hr hF hb (fun H hO hS => hsp H a ns hlen hbits hO hS) fun H e s' => hCX w H s₁ e s'
end Pl
end L2
set_option Elab.async false
set_option linter.all false
set_option maxRecDepth 100000
set_option maxHeartbeats 4000000
namespace L2
namespace Pl
open PySem PySem.Spec PyProof.Rows
/-! ### facts of the head by one Bool -/
abbrev Fr := PySem.W.Frag
def isB (a b : Option (Option Value)) : Bool := decide (a = b)
/-- the class object at C is one of an own exception over ValueError -/
def klsB (K : Fr) (C : Addr) : Bool := match K.lookup C with
  | some ⟨.type t, _, .cls cd, sl⟩ => (match cd.mro, sl.toList with
    | .ref c :: bm, [_, _, _, _, some (.builtin n), _] => decide (t = "type") && (decide (c = C) && (decide (n = "ValueError.__new__") && (!cd.hasDel && (cd.hasDict && PySem.HandSPX.refsVE bm))))
    | _, _ => false)
  | _ => false
theorem kls_ok {K : Fr} {C : Addr} (h : klsB K C = true) : ∃ nm q N bs bm sn sub ab col dd k0 k1 k2 k3 k5, K.lookup C = some (excClassObj nm q C N bs bm true sn sub ab col dd k0 k1 k2 k3 k5 "ValueError.__new__") ∧ PySem.HandSPX.refsVE bm = true := by
  unfold klsB at h
  split at h
  · rename_i t dd cd sl found
    split at h
    · rename_i c bm y0 y1 y2 y3 n y5 em es
      obtain ⟨h1, h⟩ := He.ba h
      obtain ⟨h2, h⟩ := He.ba h
      obtain ⟨h3, h⟩ := He.ba h
      obtain ⟨h4, h⟩ := He.ba h
      obtain ⟨h5, h6⟩ := He.ba h
      have e1 := of_decide_eq_true h1
      have e2 := of_decide_eq_true h2
      have e3 := of_decide_eq_true h3
      obtain ⟨cn, cb, cm, cns, cq, chd, csn, csub, cab, ccol, cdel⟩ := cd
      dsimp only at em h4 h5
      have e4 : cdel = false := by simpa using h4
      obtain ⟨l⟩ := sl
      dsimp only at es
      subst e1 e2 e3 e4 em h5 es
      exact ⟨cn, cq, cns, cb, bm, csn, csub, cab, ccol, dd, y0, y1, y2, y3, y5, found, h6⟩
    · cases h
  · cases h
/-- all that ExV asks of the class x, but its __init__'s promise -/
def excB (K : Fr) (x f : Str) : Bool :=
  let C := He.ga K x
  isB (PySem.W.nsIn K mainGlobals x) (some (some (.ref C))) && (klsB K C && (isB (PySem.W.findIn K (.ref C) "__setattr__") (some (some (.builtin "object.__setattr__"))) && (decide (PySem.W.subIn K (.ref C) (.type "BaseException") = some true) && (decide (PySem.W.typeIn K (.ref C) = some (.type "type")) && (PySem.W.keepIn K (.ref C) &&
  (isB (PySem.W.findIn K (.ref C) "__getattribute__") (some (some (.builtin "BaseException.__getattribute__"))) && (isB (PySem.W.findIn K (.ref C) "__getattr__") (some none) && (PySem.W.hasDictIn K C && (isB (PySem.W.findIn K (.ref C) "__class__") (some (some (.builtin "object.__class__"))) && (isB (PySem.W.specialIn K (.builtin "object.__class__") "__get__") (some (some (.builtin "getset_descriptor.__get__"))) &&
  (decide (PySem.W.takesIn K (.builtin "object.__class__") = some true) && (decide (PySem.W.mroIn K C (.type "object") = some true) && (isB (PySem.W.findIn K (.ref C) f) (some none) && (isB (PySem.W.findIn K (.ref C) "__init__") (some (some (.ref (He.ma K C "__init__")))) && decide (PySem.W.typeIn K (.ref (He.ma K C "__init__")) = some (.type "function"))))))))))))))))
structure ExF (K : Fr) (x f : Str) : Prop where
  gl : PySem.W.nsIn K mainGlobals x = some (some (.ref (He.ga K x)))
  o : OexC K (He.ga K x)
  e : ExcC K (He.ga K x)
  nf : PySem.W.findIn K (.ref (He.ga K x)) f = some none
  iC : PySem.W.findIn K (.ref (He.ga K x)) "__init__" = some (some (.ref (He.ma K (He.ga K x) "__init__")))
  tI : PySem.W.typeIn K (.ref (He.ma K (He.ga K x) "__init__")) = some (.type "function")
theorem exc_ok {K : Fr} {x f : Str} (h : excB K x f = true) : ExF K x f := by
  obtain ⟨h1, h⟩ := He.ba h
  obtain ⟨h2, h⟩ := He.ba h
  obtain ⟨h3, h⟩ := He.ba h
  obtain ⟨h4, h⟩ := He.ba h
  obtain ⟨h5, h⟩ := He.ba h
  obtain ⟨h6, h⟩ := He.ba h
  obtain ⟨h7, h⟩ := He.ba h
  obtain ⟨h8, h⟩ := He.ba h
  obtain ⟨h9, h⟩ := He.ba h
  obtain ⟨h10, h⟩ := He.ba h
  obtain ⟨h11, h⟩ := He.ba h
  obtain ⟨h12, h⟩ := He.ba h
  obtain ⟨h13, h⟩ := He.ba h
  obtain ⟨h14, h⟩ := He.ba h
  obtain ⟨h15, h16⟩ := He.ba h
  exact ⟨of_decide_eq_true h1, ⟨kls_ok h2, of_decide_eq_true h3, of_decide_eq_true h4, of_decide_eq_true h5, h6⟩,
    ⟨of_decide_eq_true h7, of_decide_eq_true h8, of_decide_eq_true h4, h9, of_decide_eq_true h10, of_decide_eq_true h11, of_decide_eq_true h12, of_decide_eq_true h13⟩, of_decide_eq_true h14, of_decide_eq_true h15, of_decide_eq_true h16⟩
/-- sys.modules is looked at, too -/
def sysB (K : Fr) : Bool := match K.lookup sysModules with
  | some ⟨.type t, _, _, _⟩ => decide (t = "dict")
  | _ => false
theorem sys_ok {K : Fr} (h : sysB K = true) : SysK K := by
  unfold sysB at h
  split at h
  · rename_i t _ _ _ e
    exact ⟨_, e, congrArg Value.type (of_decide_eq_true h)⟩
  · cases h
/-! ### the Hook: the defs, and a Bool of one's own -/
def fragP (n : Nat) (g : Addr → Option Obj) : Fr := He.frG g (sysModules :: He.asD g n)
abbrev AlP : Type := He.AlD × Bool
def obsP (n : Nat) (fa : List He.Fa) (fn : List He.DefD) (ex : Fr → Bool) (g : Addr → Option Obj) : AlP := (He.obsD fa fn (fragP n g), ex (fragP n g))
structure SaysP (fa : List He.Fa) (fn : List He.DefD) (ex : Fr → Bool) (K : Fr) : Prop where
  d : He.SaysD fa fn K
  more : ex K = true
def hookP (n : Nat) (fa : List He.Fa) (fn : List He.DefD) (ex : Fr → Bool) : PySem.W.Hook where
  α := AlP
  obs := fun s => obsP n fa fn ex s.heap.get?
  val := fun _ => (He.valD fn, true)
  says := fun _ h => ∃ K : Fr, K.In h ∧ SaysP fa fn ex K
  of := fun _ _ e => ⟨_, He.frG_in, congrArg (fun z : AlP => z.1) e, congrArg (fun z : AlP => z.2) e⟩
  keeps := fun _ _ _ ⟨K, hK, c⟩ k => ⟨K, PySem.W.Frag.In.keeps hK k, c⟩
theorem obsP_eq {n : Nat} {fa : List He.Fa} {fn : List He.DefD} {ex : Fr → Bool} {g : Addr → Option Obj} {s : Shared} (h : ∀ a, g a = s.heap.get? a) : obsP n fa fn ex g = (hookP n fa fn ex).obs s := by
  have e : g = s.heap.get? := funext h
  rw [e] <;> rfl
end Pl
end L2
set_option Elab.async false
set_option linter.all false
set_option maxRecDepth 100000
set_option maxHeartbeats 0
namespace Bs
open PySem PySem.Spec PyProof.Rows L2 L2.Pl
abbrev rw0 := PySem.Challenge.rw_playedlate_k40_texts_of_rows
def top (i : Nat) : Stmt := PySem.Challenge.pw_playedlate_k40_texts_of_rows.main.body.getD i (.Pass ⟨0, 0, 0, 0⟩)
abbrev sIsName : Stmt := top 10
abbrev sIsEvent : Stmt := top 13
abbrev sRowText : Stmt := top 15
abbrev sReadRow : Stmt := top 16
abbrev sRStand : Stmt := top 20
abbrev sFromAll : Stmt := top 21
abbrev sRLeads : Stmt := top 22
abbrev sRDeeds : Stmt := top 23
abbrev sRLooks : Stmt := top 24
abbrev sStore (j : Nat) : Stmt := inClass (top 25) j
abbrev sSource : Stmt := top 27
abbrev sDraw : Stmt := top 28
abbrev sPick : Stmt := top 29
abbrev sMixed : Stmt := top 30
abbrev sWord : Stmt := top 31
abbrev sNames : Stmt := top 32
abbrev sLeads : Stmt := top 33
abbrev sBase : Stmt := top 34
abbrev sMade : Stmt := top 35
abbrev sDeeds : Stmt := top 36
abbrev sIsEv : Stmt := top 37
abbrev sDueT : Stmt := top 38
abbrev sToldT : Stmt := top 39
abbrev sDrawn : Stmt := top 40
abbrev sBent : Stmt := top 41
abbrev sLaw : Stmt := top 42
end Bs
set_option Elab.async false
set_option linter.all false
set_option maxRecDepth 100000
set_option maxHeartbeats 2000000
namespace L2
namespace Pl
open PySem PySem.Spec PyProof.Rows
/-! ### sizes of ints -/
theorem bits_of_lt {a : Int} {n : Nat} (h : a.natAbs < 2 ^ n) : Builtin.Int.intBits a ≤ n := by
  unfold Builtin.Int.intBits
  split
  · exact Nat.zero_le _
  · rename_i hz
    have h0 : a.natAbs ≠ 0 := by
      intro z
      have : a = 0 := by omega
      simp [this] at hz
    have := (Nat.log2_lt h0).mpr h
    omega
theorem lt_of_bits {a : Int} {n : Nat} (h : Builtin.Int.intBits a ≤ n) : a.natAbs < 2 ^ n := by
  refine Nat.lt_of_lt_of_le ?_ (Nat.pow_le_pow_right (by decide) h)
  unfold Builtin.Int.intBits
  split
  · rename_i hz
    have : a = 0 := by simpa using hz
    rw [this]
    decide
  · exact Nat.lt_log2_self
theorem bits_sum {a b : Int} {m : Nat} (ha : a.natAbs < 2 ^ m) (hb : Builtin.Int.intBits b ≤ m) : Builtin.Int.intBits (a + b) ≤ m + 1 := by
  refine bits_of_lt ?_
  have h2 := lt_of_bits hb
  have h3 : (a + b).natAbs ≤ a.natAbs + b.natAbs := by omega
  rw [Nat.pow_succ]
  omega
theorem cube_big {a b : Int} (m : Nat) (hm : 60 ≤ m) (h : a.natAbs < 2 ^ 60) (hb : Builtin.Int.intBits b ≤ m) : Builtin.Int.intBits (a + b) ≤ m + 1 := bits_sum (Nat.lt_of_lt_of_le h (Nat.pow_le_pow_right (by decide) hm)) hb
theorem cube_ok {a b : Int} (ha : -(2 ^ 60) < a ∧ a < 2 ^ 60) (hb : Builtin.Int.intBits b ≤ 1048576) : CPowW (a + b) 3 := by
  refine ⟨by decide, ?_⟩
  have h60 : a.natAbs < 2 ^ 60 := by omega
  have h2 := cube_big 1048576 (by decide) h60 hb
  have e : (2 : Int) ^ 27 = 134217728 := by decide
  rw [e]
  omega
/-! ### the free names of a law -/
structure Gn (mg : Str → Option Value) : Prop where
  len : mg "len" = none
  int : mg "int" = none
  isi : mg "isinstance" = none
  range : mg "range" = none
  max : mg "max" = none
  min : mg "min" = none
  enum : mg "enumerate" = none
  list : mg "list" = none
  dict : mg "dict" = none
  tuple : mg "tuple" = none
  zip : mg "zip" = none
  set : mg "set" = none
  all : mg "all" = none
  str : mg "str" = none
  repr : mg "repr" = none
theorem bInt : bootBuiltins "int" = some (.type "int") := by decide +kernel
theorem bLen : bootBuiltins "len" = some (.builtin "len") := by decide +kernel
theorem bIsi : bootBuiltins "isinstance" = some (.builtin "isinstance") := by decide +kernel
theorem bMax : bootBuiltins "max" = some (.builtin "max") := by decide +kernel
theorem bMin : bootBuiltins "min" = some (.builtin "min") := by decide +kernel
theorem bAll : bootBuiltins "all" = some (.builtin "all") := by decide +kernel
theorem bRepr : bootBuiltins "repr" = some (.builtin "repr") := by decide +kernel
theorem bList : bootBuiltins "list" = some (.type "list") := by decide +kernel
theorem bDict : bootBuiltins "dict" = some (.type "dict") := by decide +kernel
theorem bTuple : bootBuiltins "tuple" = some (.type "tuple") := by decide +kernel
theorem bSet : bootBuiltins "set" = some (.type "set") := by decide +kernel
theorem bZip : bootBuiltins "zip" = some (.type "zip") := by decide +kernel
theorem bStr : bootBuiltins "str" = some (.type "str") := by decide +kernel
theorem bRange : bootBuiltins "range" = some (.type "range") := by decide +kernel
/-! ### heaps -/
theorem same_new {H : Hp} {p : Addr} {o : HO} (h : H p = none) : Same H (upd H p o) := fun b x e => (upd_ne (ne_of_none e h)).trans e
theorem ne_new {H : Hp} {a b : Addr} {o : HO} (h : upd H b o a = none) : a ≠ b := fun z => by
  rw [z, upd_same] at h
  cases h
theorem new_old {H : Hp} {a b : Addr} {o : HO} (h : upd H b o a = none) : H a = none := (upd_ne (ne_new h)).symm.trans h
/-- a source: a list of two ints -/
def Src (H : Hp) (s : Addr) : Prop := ∃ own mixed : Int, H s = some (.lst [.int own, .int mixed])
theorem Src.some {H : Hp} {s : Addr} (h : Src H s) : ∃ o, H s = some o := let ⟨_, _, e⟩ := h; ⟨_, e⟩
/-- the heap moves: the source may be drawn from, all else stays -/
structure Mv (s : Addr) (H H' : Hp) : Prop where
  src : Src H' s
  same : Same (del H s) (del H' s)
theorem del_some {H : Hp} {s b : Addr} {o : HO} (h : del H s b = some o) : b ≠ s ∧ H b = some o := by
  by_cases e : b = s
  · rw [e, del_same] at h
    cases h
  · exact ⟨e, (del_ne e).symm.trans h⟩
theorem del_of {H : Hp} {s b : Addr} {o : HO} (n : b ≠ s) (h : H b = some o) : del H s b = some o := (del_ne n).trans h
theorem del_all {H : Hp} {s : Addr} : Same (del H s) H := fun _ _ e => (del_some e).2
theorem Mv.refl {H : Hp} {s : Addr} (h : Src H s) : Mv s H H := ⟨h, Same.refl _⟩
theorem Mv.trans {H H1 H2 : Hp} {s : Addr} (a : Mv s H H1) (b : Mv s H1 H2) : Mv s H H2 := ⟨b.src, a.same.trans b.same⟩
theorem Mv.of_same {H H' : Hp} {s : Addr} (h : Src H s) (e : Same H H') : Mv s H H' := by
  obtain ⟨own, mixed, q⟩ := h
  exact ⟨⟨own, mixed, e _ _ q⟩, fun b o z => by
    obtain ⟨n, z⟩ := del_some z
    exact del_of n (e _ _ z)⟩
theorem Mv.new {H : Hp} {s p : Addr} {o : HO} (h : Src H s) (hp : H p = none) : Mv s H (upd H p o) := .of_same h (same_new hp)
theorem Mv.draw {H : Hp} {s : Addr} {own mixed : Int} : Mv s H (upd H s (.lst [.int own, .int mixed])) := ⟨⟨own, mixed, upd_same⟩, fun b o z => by
  obtain ⟨n, z⟩ := del_some z
  exact del_of n ((upd_ne n).trans z)⟩
/-- an object of ours, not there at first, is changed -/
theorem Mv.write {H H' : Hp} {s p : Addr} {o : HO} (m : Mv s H H') (hp : H p = none) (n : p ≠ s) : Mv s H (upd H' p o) := by
  obtain ⟨own, mixed, q⟩ := m.src
  exact ⟨⟨own, mixed, (upd_ne (Ne.symm n)).trans q⟩, fun b o z => by
    have nb : b ≠ p := ne_of_none (del_some z).2 hp
    obtain ⟨n2, z2⟩ := del_some (m.same _ _ z)
    exact del_of n2 ((upd_ne nb).trans z2)⟩
theorem Mv.get {H H' : Hp} {s b : Addr} {o : HO} (m : Mv s H H') (n : b ≠ s) (h : H b = some o) : H' b = some o := (del_some (m.same _ _ (del_of n h))).2
theorem Mv.free {H H' : Hp} {s p : Addr} (m : Mv s H H') (hs : Src H s) (h : H' p = none) : H p = none := by
  by_cases e : p = s
  · obtain ⟨_, _, q⟩ := m.src
    rw [e, q] at h
    cases h
  · cases q : H p with
    | none => rfl
    | some o =>
      rw [m.get e q] at h
      cases h
theorem Src.ne {H : Hp} {s p : Addr} (h : Src H s) (hp : H p = none) : p ≠ s := fun e => by
  obtain ⟨_, _, q⟩ := h
  rw [e, q] at hp
  cases hp
/-! ### a list beside an empty one -/
theorem op_ne_nil {X : Cx} (hu : X.A.units < cLine) : OpR X (compareOp .NotEq) (fun x y H Q => ∃ l b xs, x = .ref l ∧ y = .ref b ∧ SqL X.K H l xs ∧ SqL X.K H b [] ∧ Q (.bl (!xs.isEmpty)) H) := by
  intro pins s σ H x y v u Q I rx ry h
  obtain ⟨l, b, xs, rfl, rfl, hx, hb, q⟩ := h
  cases rx
  cases ry
  obtain ⟨its, r1, p1, z1⟩ := I.list hx
  obtain ⟨its2, r2, p2, z2⟩ := I.list hb
  have l1 := r1.length
  have l2 := r2.length
  have s1 : its.toArray.size = xs.length := by rw [List.size_toArray, l1]
  have s2 : its2.toArray.size = 0 := by
    rw [List.size_toArray, ← l2]
    rfl
  by_cases h0 : xs = []
  · subst h0
    have z : its.toArray.size = 0 := s1
    refine SeqAt.RcNeAt.lists (e := fun _ => true) p1.isList p2.isList (by rw [z, s2]) hu (fun j h1 _ => ?_) _ _ _ _ ⟨.bl false, H, I, ?_, q⟩
    · rw [z] at h1
      exact absurd h1 (Nat.not_lt_zero _)
    · rw [z]
      rfl
  · refine SeqAt.RcNeAt.lists_lengths p1.isList p2.isList ?_ hu _ _ _ _ ⟨.bl (!xs.isEmpty), H, I, ?_, q⟩
    · rw [s1, s2]
      have : xs.length ≠ 0 := fun e => h0 (List.length_eq_zero_iff.mp e)
      simp [this]
    · cases xs with
      | nil => exact absurd rfl h0
      | cons _ _ => rfl
/-! ### what a pick is made of -/
def Items (K : PySem.W.Frag) (H : Hp) (v : V) (xs : List V) : Prop := (∃ l, v = .ref l ∧ SqL K H l xs) ∨ (∃ l, v = .ref l ∧ SqT K H l xs) ∨ ∃ z : Str, v = .str z ∧ z.length ≤ sizeLine ∧ xs = z.cps.toList.map fun c => V.str ⟨#[c]⟩
theorem Items.same {K : PySem.W.Frag} {H H' : Hp} {v : V} {xs : List V} (h : Items K H v xs) (e : Same H H') : Items K H' v xs := by
  rcases h with ⟨l, rfl, h⟩ | ⟨l, rfl, h⟩ | h
  · exact .inl ⟨l, rfl, e.seq h⟩
  · refine .inr (.inl ⟨l, rfl, ?_⟩)
    rcases h with (h | ⟨o, h⟩) | h
    · exact .inl (.inl (e _ _ h))
    · exact .inl (.inr ⟨o, e _ _ h⟩)
    · exact .inr h
  · exact .inr (.inr h)
theorem Items.len {K : PySem.W.Frag} {H : Hp} {v : V} {xs : List V} (h : Items K H v xs) : LenV K v H xs.length := by
  rcases h with ⟨l, rfl, h⟩ | ⟨l, rfl, h⟩ | ⟨z, rfl, hz, rfl⟩
  · exact .inl ⟨xs, h, rfl⟩
  · exact .inr ⟨xs, h, rfl⟩
  · refine ⟨hz, ?_⟩
    rw [List.length_map, Array.length_toList]
    rfl
theorem Items.ix {K : PySem.W.Frag} {H : Hp} {v x : V} {xs : List V} {j : Nat} {Q : VK} (h : Items K H v xs) (hx : xs[j]? = some x) (q : Q x H) : rIx K v (.int (j : Int)) H Q := by
  rcases h with ⟨l, rfl, h⟩ | ⟨l, rfl, h⟩ | ⟨z, rfl, hz, rfl⟩
  · exact .inl ⟨l, xs, _, x, rfl, rfl, h, atI_nat hx, q⟩
  · exact .inr (.inl ⟨l, xs, _, x, rfl, rfl, h, atI_nat hx, q⟩)
  · rw [List.getElem?_map] at hx
    cases e : z.cps.toList[j]? with
    | none =>
      rw [e] at hx
      cases hx
    | some c =>
      rw [e] at hx
      cases hx
      exact .inr (.inr ⟨z, _, c, rfl, rfl, hz, atI_nat e, q⟩)
/-! ### the draws: promises -/
section
variable {P : Program} {w : World} {K : PySem.W.Frag} {mg : Str → Option Value} {base : Heap}
abbrev FnP (K : PySem.W.Frag) (x : Str) (st : Stmt) (f : Addr) (fd : FuncData) : Prop := FunD K x x (defArgs st) (defBody st) (defScope st) [] [] f fd
/-- a def that others call -/
structure Has (P : Program) (w : World) (K : PySem.W.Frag) (mg : Str → Option Value) (base : Heap) (CX : CXT) (x : Str) (k : Nat) (ps : List Str) (sp : Sp) : Prop where
  ex : ∃ (f : Addr) (fd : FuncData), FnOk P w K mg base CX k f fd ps sp ∧ Binds K fd ps [] ∧ mg x = some (.ref f) ∧ PySem.W.keepIn K (.ref f) = true
def spSource (K : PySem.W.Frag) : Sp := fun vs H Q _ => ∃ (a : Addr) (ns : List Int) (st : Nat), vs = [.ref a, .int (st : Int)] ∧ SqL K H a (ns.map V.int) ∧ ns.length ≤ 63 ∧ (∀ z ∈ ns, Builtin.Int.intBits z ≤ 1048576) ∧ st < 100 ∧
  ∀ p own mixed, H p = none → Q (.ref p) (upd H p (.lst [.int own, .int mixed]))
def spDraw : Sp := fun vs H Q _ => ∃ (s : Addr) (span : Int), vs = [.ref s, .int span] ∧ Src H s ∧ 0 < span ∧ span < 1000000 ∧ ∀ H' found, Mv s H H' → (∀ b, b ≠ s → H' b = H b) → 0 ≤ found → found < span → Q (.int found) H'
def spPick (K : PySem.W.Frag) : Sp := fun vs H Q _ => ∃ (s : Addr) (v : V) (xs : List V), vs = [.ref s, v] ∧ Src H s ∧ Items K (del H s) v xs ∧ xs ≠ [] ∧ xs.length < 1000000 ∧ ∀ H' x, Mv s H H' → (∀ b, b ≠ s → H' b = H b) → x ∈ xs → Q x H'
def spMixed (K : PySem.W.Frag) : Sp := fun vs H Q _ => ∃ (s l : Addr) (xs : List V), vs = [.ref s, .ref l] ∧ Src H s ∧ SqL K (del H s) l xs ∧ xs.length ≤ 100 ∧ ∀ p H' ys, Mv s H H' → H p = none → H' p = some (.lst ys) → ys.Perm xs → Q (.ref p) H'
/-- a name: 1 to 8 letters -/
structure IsName (w : Str) : Prop where
  pos : 1 ≤ w.length
  len : w.length ≤ 8
  low : ∀ c ∈ w.cps.toList, 97 ≤ c ∧ c ≤ 122
def spWord : Sp := fun vs H Q _ => ∃ s, vs = [.ref s] ∧ Src H s ∧ ∀ H' x, Mv s H H' → IsName x → Q (.str x) H'
end
end Pl
end L2
namespace Bs
open PySem PySem.Spec PyProof.Rows L2 L2.Pl
section
variable {P : Program} {w : World} {K : PySem.W.Frag} {mg : Str → Option Value} {base : Heap} {f : Addr} {fd : FuncData}
theorem scSource : FnScope ["script", "start", "mixed", "cell", "own"] ["script", "start"] (defScope sSource) := ⟨rfl, rfl, rfl, by decide +kernel, rfl, by decide +kernel, by decide +kernel⟩
theorem ok_source (G : Gn mg) (F : FnP K "_law_source" sSource f fd) : FnOk P w K mg base CX0 1 f fd ["script", "start"] (spSource K) := by
  refine F.ok scSource (fun vs H Q E h => ?_) (fun cdv A outer s H vs Q E hr h => ?_)
  · obtain ⟨_, _, _, rfl, _⟩ := h
    rfl
  · obtain ⟨a, ns, st, rfl, hS, hlen, hbits, hst, q⟩ := h
    refine ⟨_, PSs.nox (pss_cons (ps_set (i := 2) scSource.nd rfl (.inl rfl) (pe_op op_add pe_int (pv 1)))
      (pss_cons (ps_for PassesOwn.never rfl (pi_list (pv 0)) (pg_name (i := 3) scSource.nd rfl (.inl rfl))
        (pss_one (ps_set (i := 2) scSource.nd rfl (.inl rfl) (pe_op op_add (pe_op op_mod (pe_callTy call_int1 (by rfl) G.int bInt (pa_cons (pe_op op_powW (pe_callTy call_int1 (by rfl) G.int bInt (pa_cons (pe_op op_add (pe_op op_mul (pv 2) pe_int) (pe_callTy call_int1 (by rfl) G.int bInt (pa_cons (pv 3) pa_nil))) pa_nil)) pe_int) pa_nil)) pe_int) pe_int))))
      (pss_cons (ps_set (i := 4) scSource.nd rfl (.inl rfl) pe_int)
      (pss_cons (ps_if (PW.pt (pw_and (pt_cmpR op_lt (pv 1) (pe_callB call_len_seq (by rfl) G.len bLen (pa_cons (pv 0) pa_nil)) (nomark _)) (pw_and1 (pt_cmpR op_ge (pe_ix ix_list (pv 0) (pv 1) (fun _ _ => rfl)) (pe_op op_pow pe_int pe_int) (nomark _)))))
          (pss_one (ps_set (i := 4) scSource.nd rfl (.inl rfl) (pe_op op_sub (pe_ix ix_list (pv 0) (pv 1) (fun _ _ => rfl)) (pe_op op_pow pe_int pe_int)))) pss_nil)
      (pss_one (ps_ret (pe_lst (pa_cons (pv 4) (pa_cons (pv 2) pa_nil))))))))), ?_⟩
    refine ⟨_, rfl, _, _, rfl, rfl, ?_⟩
    refine ⟨_, rfl, a, rfl, ⟨_, hS⟩, for_list (K := K) (a := a) (xs := ns.map V.int) (fun i σ H' => ∃ (m : Int) (c : Option V), σ = [some (.ref a), some (.int (st : Int)), some (.int m), c, none] ∧ H' = H ∧ 0 ≤ m ∧ m < 2 ^ 40)
      ⟨57 + (st : Int), none, rfl, rfl, by omega, by omega⟩ (fun i σ H' _ ⟨_, _, _, e, _⟩ => by rw [e]; exact hS) ?_ ?_⟩
    · rintro i y σ H' hi ⟨m, c, rfl, rfl, h0, h1⟩
      obtain ⟨z, rfl, hz⟩ : ∃ z, y = V.int z ∧ z ∈ ns := by
        rw [List.getElem?_map] at hi
        cases e : ns[i]? with
        | none =>
          rw [e] at hi
          cases hi
        | some u =>
          rw [e] at hi
          exact ⟨u, (Option.some.inj hi).symm, List.mem_of_getElem? e⟩
      refine ⟨_, rfl, _, _, rfl, rfl, .inr ⟨by decide, by decide⟩, _, rfl, .inl ⟨_, rfl, _, _, rfl, rfl, .inl ⟨_, rfl, _, _, rfl, rfl, cube_ok ⟨by omega, by omega⟩ (hbits z hz), .inl ⟨_, rfl, _, _, rfl, rfl, (by show (0 : Int) < 2147483563; decide), _, _, rfl, rfl, ?_⟩⟩⟩⟩
      have hm : 0 ≤ ((m * 70001 + z) ^ (3 : Int).toNat) % 2147483563 ∧ ((m * 70001 + z) ^ (3 : Int).toNat) % 2147483563 < 2147483563 := ⟨Int.emod_nonneg _ (by decide), Int.emod_lt_of_pos _ (by decide)⟩
      exact ⟨_, _, rfl, rfl, by omega, by omega⟩
    · rintro σ H' ⟨m, c, rfl, rfl, h0, h1⟩
      refine ⟨_, rfl, _, rfl, _, _, rfl, .inl hS, _, _, rfl, rfl, _, rfl, ?_⟩
      rw [List.length_map]
      refine ite2 (fun hlt => ?_) (fun _ => ?_)
      · have hl : st < ns.length := by
          have := of_decide_eq_true hlt
          omega
        have hx : (ns.map V.int)[st]? = some (.int ns[st]) := by
          rw [List.getElem?_map, List.getElem?_eq_getElem hl]
          rfl
        refine ⟨_, rfl, _, rfl, a, _, _, _, rfl, rfl, hS, atI_nat hx, _, _, rfl, rfl, ⟨by decide, by decide, by decide⟩, _, _, rfl, rfl, _, rfl, ite2 (fun _ => ?_) (fun _ => ?_)⟩
        · refine ⟨_, rfl, _, rfl, a, _, _, _, rfl, rfl, hS, atI_nat hx, _, _, rfl, rfl, ⟨by decide, by decide, by decide⟩, _, _, rfl, rfl, ?_⟩
          exact ⟨_, rfl, _, rfl, by show 2 ≤ sizeLine; decide, fun p hp => q p _ _ hp⟩
        · exact ⟨_, rfl, _, rfl, by show 2 ≤ sizeLine; decide, fun p hp => q p _ _ hp⟩
      · refine iteF ?_
        exact ⟨_, rfl, _, rfl, by show 2 ≤ sizeLine; decide, fun p hp => q p _ _ hp⟩
theorem scDraw : FnScope ["source", "span", "found"] ["source", "span"] (defScope sDraw) := ⟨rfl, rfl, rfl, by decide +kernel, rfl, by decide +kernel, by decide +kernel⟩
theorem ok_draw (G : Gn mg) (F : FnP K "_law_draw" sDraw f fd) : FnOk P w K mg base CX0 1 f fd ["source", "span"] spDraw := by
  refine F.ok scDraw (fun vs H Q E h => ?_) (fun cdv A outer s H vs Q E hr h => ?_)
  · obtain ⟨_, _, rfl, _⟩ := h
    rfl
  · obtain ⟨a, span, rfl, ⟨own, mixed, hS⟩, h0, h1, q⟩ := h
    refine ⟨_, PSs.nox (pss_cons (ps_if (pt_cmpR op_ge (pe_ix ix_list (pv 0) pe_int (fun _ _ => rfl)) (pv 1) (nomark _))
        (pss_cons (ps_set (i := 2) scDraw.nd rfl (.inl rfl) (pe_op op_mod (pe_callTy call_int1 (by rfl) G.int bInt (pa_cons (pe_ix ix_list (pv 0) pe_int (fun _ _ => rfl)) pa_nil)) (pv 1)))
        (pss_cons (ps_asg (pe_op op_fdivW (pe_ix ix_list (pv 0) pe_int (fun _ _ => rfl)) (pv 1)) (pg_sub (pv 0) pe_int set_list))
        (pss_one (ps_ret (pv 2))))) pss_nil)
      (pss_cons (ps_asg (pe_op op_mod (pe_callTy call_int1 (by rfl) G.int bInt (pa_cons (pe_op op_add (pe_op op_mul (pe_ix ix_list (pv 0) pe_int (fun _ _ => rfl)) pe_int) pe_int) pa_nil)) pe_int) (pg_sub (pv 0) pe_int set_list))
      (pss_one (ps_ret (pe_op op_mod (pe_callTy call_int1 (by rfl) G.int bInt (pa_cons (pe_op op_fdiv (pe_op op_mod (pe_callTy call_int1 (by rfl) G.int bInt (pa_cons (pe_op op_pow (pe_callTy call_int1 (by rfl) G.int bInt (pa_cons (pe_ix ix_list (pv 0) pe_int (fun _ _ => rfl)) pa_nil)) pe_int) pa_nil)) pe_int) pe_int) pa_nil)) (pv 1)))))), ?_⟩
    have hL : SqL K H a [.int own, .int mixed] := SqL.of hS
    have fin : ∀ {o1 m1 f1 : Int}, 0 ≤ f1 → f1 < span → Q (.int f1) (upd H a (.lst [.int o1, .int m1])) := fun z1 z2 => q _ _ .draw (fun b n => upd_ne n) z1 z2
    refine ⟨_, rfl, a, _, 0, .int own, rfl, rfl, hL, atI_nat (j := 0) rfl, _, rfl, _, _, rfl, rfl, _, rfl, ite2 (fun hge => ?_) (fun hlt => ?_)⟩
    · refine ⟨_, rfl, a, _, 0, .int own, rfl, rfl, hL, atI_nat (j := 0) rfl, .inl ⟨_, rfl, _, rfl, _, _, rfl, rfl, h0, ?_⟩⟩
      refine ⟨_, rfl, a, _, 0, .int own, rfl, rfl, hL, atI_nat (j := 0) rfl, _, rfl, _, _, rfl, rfl, wide_div h0 (b := 60) (by omega) (by decide) (by decide), ?_⟩
      refine ⟨_, rfl, a, _, 0, 0, rfl, rfl, hS, rfl, ?_⟩
      exact ⟨_, rfl, fin (Int.emod_nonneg _ (by omega)) (Int.emod_lt_of_pos _ h0)⟩
    · refine ⟨_, rfl, a, _, 1, .int mixed, rfl, rfl, hL, atI_nat (j := 1) rfl, _, _, rfl, rfl, .inr ⟨by decide, by decide⟩, _, _, rfl, rfl, .inl ⟨_, rfl, _, _, rfl, rfl, (by show (0 : Int) < 2147483647; decide), ?_⟩⟩
      refine ⟨_, rfl, a, _, 1, 1, rfl, rfl, hS, rfl, ?_⟩
      have hm : 0 ≤ (mixed * 48271 + 6113) % 2147483647 ∧ (mixed * 48271 + 6113) % 2147483647 < 2147483647 := ⟨Int.emod_nonneg _ (by decide), Int.emod_lt_of_pos _ (by decide)⟩
      refine ⟨_, rfl, a, _, 1, .int ((mixed * 48271 + 6113) % 2147483647), rfl, rfl, SqL.of upd_same, atI_nat (j := 1) rfl, .inl ⟨_, rfl, _, _, rfl, rfl, ⟨by decide, by decide, by omega⟩, .inl ⟨_, rfl, _, _, rfl, rfl, (by show (0 : Int) < 1000000007; decide), _, _, rfl, rfl, ⟨by decide, by decide⟩, .inl ⟨_, rfl, _, rfl, _, _, rfl, rfl, h0, ?_⟩⟩⟩⟩
      exact fin (Int.emod_nonneg _ (by omega)) (Int.emod_lt_of_pos _ h0)
theorem scPick : FnScope ["source", "things"] ["source", "things"] (defScope sPick) := ⟨rfl, rfl, rfl, by decide +kernel, rfl, by decide +kernel, by decide +kernel⟩
theorem ok_pick (G : Gn mg) (F : FnP K "_law_pick" sPick f fd) (hD : Has P w K mg base CX0 "_law_draw" 1 ["source", "span"] spDraw) : FnOk P w K mg base CX0 2 f fd ["source", "things"] (spPick K) := by
  obtain ⟨fD, dD, oD, bD, gD, kD⟩ := hD.ex
  refine F.ok scPick (fun vs H Q E h => ?_) (fun cdv A outer s H vs Q E hr h => ?_)
  · obtain ⟨_, _, _, rfl, _⟩ := h
    rfl
  · obtain ⟨a, v, xs, rfl, hS, hX, h0, h1, q⟩ := h
    refine ⟨_, PSs.nox (pss_one (ps_ret (pe_ix ix_seq (pv 1) (pe_call oD hr (by rfl) gD kD bD .nil pass0 (pa_cons (pv 0) (pa_cons (pe_callB call_len (by rfl) G.len bLen (pa_cons (pv 1) pa_nil)) pa_nil))) (fun _ _ => rfl)))), ?_⟩
    have hpos : 0 < xs.length := List.length_pos_iff.mpr h0
    refine ⟨_, rfl, _, rfl, _, rfl, _, xs.length, rfl, (hX.same del_all).len, a, (xs.length : Int), rfl, hS, by omega, by omega, fun H' found m eqs h2 h3 => ?_⟩
    obtain ⟨x, hx⟩ : ∃ x, xs[found.toNat]? = some x := ⟨_, List.getElem?_eq_getElem (by omega)⟩
    have e : found = ((found.toNat : Nat) : Int) := by omega
    rw [e]
    exact ((hX.same m.same).same del_all).ix hx (q H' x m eqs (List.mem_of_getElem? hx))
end
end Bs
set_option Elab.async false
set_option linter.all false
set_option maxRecDepth 100000
set_option maxHeartbeats 2000000
namespace L2
namespace Pl
open PySem PySem.Spec PyProof.Rows
theorem eraseIdx_perm' {α : Type} : ∀ (l : List α) (i : Nat) (y : α), l[i]? = some y → (y :: l.eraseIdx i).Perm l
  | [], _, _, h => by simp at h
  | a :: r, 0, y, h => by
    cases h
    exact .refl _
  | a :: r, i + 1, y, h => by
    have ih := eraseIdx_perm' r i y (by simpa using h)
    exact (List.Perm.swap a y _).trans (ih.cons a)
/-- the length of the list in a slot -/
def lenAt (i : Nat) (σ : St) (H : Hp) : Nat := match σ[i]? with
  | some (some (.ref l)) => (match H l with
    | some (.lst xs) => xs.length
    | _ => 0)
  | _ => 0
end Pl
end L2
namespace Bs
open PySem PySem.Spec PyProof.Rows L2 L2.Pl
section
variable {P : Program} {w : World} {K : PySem.W.Frag} {mg : Str → Option Value} {base : Heap} {f : Addr} {fd : FuncData}
theorem scMixed : FnScope ["source", "things", "lot", "found"] ["source", "things"] (defScope sMixed) := ⟨rfl, rfl, rfl, by decide +kernel, rfl, by decide +kernel, by decide +kernel⟩
theorem ok_mixed (G : Gn mg) (F : FnP K "_law_mixed" sMixed f fd) (hD : Has P w K mg base CX0 "_law_draw" 1 ["source", "span"] spDraw) : FnOk P w K mg base CX0 2 f fd ["source", "things"] (spMixed K) := by
  obtain ⟨fD, dD, oD, bD, gD, kD⟩ := hD.ex
  refine F.ok scMixed (fun vs H Q E h => ?_) (fun cdv A outer s H vs Q E hr h => ?_)
  · obtain ⟨_, _, _, rfl, _⟩ := h
    rfl
  · obtain ⟨a, l, xs, rfl, hS, hX, h1, q⟩ := h
    have hu : (A.deeper (envOfC "_law_mixed" (defScope sMixed) s.heap.objs.size f cdv)).units < cLine := by
      have z := hr.un
      omega
    refine ⟨_, PSs.nox (pss_cons (ps_par (i := 2) (j := 3) rfl scMixed.nd rfl rfl (by decide) rfl rfl (pa_cons (pe_callTy call_list_of (by rfl) G.list bList (pa_cons (pv 1) pa_nil)) (pa_cons (pe_lst pa_nil) pa_nil)) rfl)
      (pss_cons (ps_while PassesOwn.never (pt_cmpR (op_ne_nil hu) (pv 2) (pe_lst pa_nil) (nomark _))
        (pss_one (ps_expr (pe_bm PySem.F.plainAttrs_list PySem.F.slot_list_append PySem.F.type_list_append mt_append (pv 3) (pa_cons (pe_bm PySem.F.plainAttrs_list PySem.F.slot_list_pop PySem.F.type_list_pop mt_popAt (pv 2)
          (pa_cons (pe_call oD hr (by rfl) gD kD bD .nil pass0 (pa_cons (pv 0) (pa_cons (pe_callB call_len (by rfl) G.len bLen (pa_cons (pv 2) pa_nil)) pa_nil))) pa_nil)) pa_nil)))))
      (pss_one (ps_ret (pv 3))))), ?_⟩
    refine ⟨_, rfl, l, xs, rfl, .inl (del_all.seq hX), fun lot hlot => ⟨Nat.zero_le _, fun fo hfo => ⟨_, _, rfl, ?_⟩⟩⟩
    have nlf := ne_new hfo
    have ofo := new_old hfo
    have nls := hS.ne hlot
    have nfs := hS.ne ofo
    have m0 : Mv a H (upd (upd H lot (.lst xs)) fo (.lst [])) := ((Mv.refl hS).write hlot nls).write ofo nfs
    refine while_by (fun σ H' => ∃ rest done, σ = [some (.ref a), some (.ref l), some (.ref lot), some (.ref fo)] ∧ Mv a H H' ∧ H' lot = some (.lst rest) ∧ H' fo = some (.lst done) ∧ (done ++ rest).Perm xs) (lenAt 2)
      ⟨xs, [], rfl, m0, (upd_ne (Ne.symm nlf)).trans upd_same, upd_same, .refl _⟩ ?_ ?_
    · rintro σ H1 ⟨rest, done, rfl, m, hl, hf, pm⟩
      have hlen := pm.length_eq
      rw [List.length_append] at hlen
      refine ⟨_, rfl, Nat.zero_le _, fun b hb => ?_⟩
      have nbl := ne_of_none hl hb
      have nbf := ne_of_none hf hb
      refine ⟨lot, b, rest, rfl, rfl, SqL.of ((upd_ne nbl).trans hl), SqL.of upd_same, _, rfl, ?_⟩
      cases rest with
      | nil =>
        refine iteF ⟨_, rfl, ?_⟩
        rw [List.append_nil] at pm
        have m2 := m.write (o := .lst []) (m.free hS hb) (m.src.ne hb)
        exact q fo _ done m2 ofo ((upd_ne nbf).trans hf) pm
      | cons z zs =>
        refine iteT ?_
        have m2 := m.write (o := .lst []) (m.free hS hb) (m.src.ne hb)
        refine ⟨_, rfl, .inl ⟨rfl, _, SqL.of ((upd_ne nbf).trans hf)⟩, _, rfl, .inl ⟨rfl, _, SqL.of ((upd_ne nbl).trans hl)⟩, _, rfl, _, rfl, _, (z :: zs).length, rfl, .inl ⟨_, SqL.of ((upd_ne nbl).trans hl), rfl⟩, ?_⟩
        refine ⟨a, ((z :: zs).length : Int), rfl, m2.src, by rw [List.length_cons]; omega, by omega, fun H2 found m3 eqs h0 h1' => ?_⟩
        obtain ⟨y, hy⟩ : ∃ y, (z :: zs)[found.toNat]? = some y := ⟨_, List.getElem?_eq_getElem (by omega)⟩
        have hl2 : H2 lot = some (.lst (z :: zs)) := (eqs lot nls).trans ((upd_ne nbl).trans hl)
        have hf2 : H2 fo = some (.lst done) := (eqs fo nfs).trans ((upd_ne nbf).trans hf)
        refine ⟨lot, _, found, found.toNat, y, rfl, rfl, hl2, by omega, by omega, PySem.StrLaws.seqIndex_nonneg h0 h1', hy, ?_⟩
        refine ⟨fo, done, y, rfl, rfl, (upd_ne (nlf)).trans hf2, small1000 (by omega), ?_⟩
        have m4 := ((m2.trans m3).write (o := .lst ((z :: zs).eraseIdx found.toNat)) hlot nls).write (o := .lst (done ++ [y])) ofo nfs
        refine ⟨⟨_, _, rfl, m4, (upd_ne (Ne.symm nlf)).trans upd_same, upd_same, ?_⟩, ?_⟩
        · rw [List.append_assoc]
          exact ((eraseIdx_perm' _ _ _ hy).append_left done).trans pm
        · have hk : found.toNat < (z :: zs).length := by omega
          show lenAt 2 [some (.ref a), some (.ref l), some (.ref lot), some (.ref fo)] _ < lenAt 2 _ H1
          have e1 : lenAt 2 [some (.ref a), some (.ref l), some (.ref lot), some (.ref fo)] H1 = (z :: zs).length := by
            show (match H1 lot with | some (.lst xs) => xs.length | _ => 0) = _
            rw [hl]
          have e2 : lenAt 2 [some (.ref a), some (.ref l), some (.ref lot), some (.ref fo)] (upd (upd H2 lot (.lst ((z :: zs).eraseIdx found.toNat))) fo (.lst (done ++ [y]))) = ((z :: zs).eraseIdx found.toNat).length := by
            show (match (upd (upd H2 lot (.lst ((z :: zs).eraseIdx found.toNat))) fo (.lst (done ++ [y]))) lot with | some (.lst xs) => xs.length | _ => 0) = _
            rw [upd_ne (Ne.symm nlf), upd_same]
          rw [e1, e2, List.length_eraseIdx, if_pos hk]
          omega
    · rintro σ H1 Q1 Q2 hq ⟨v, e, z, k⟩
      exact ⟨v, e, z, fun p hp => by
        obtain ⟨l1, b1, xs1, e1, e2, s1, s2, c, ec, r⟩ := k p hp
        exact ⟨l1, b1, xs1, e1, e2, s1, s2, c, ec, hq _ _ r⟩⟩
end
end Bs
set_option Elab.async false
set_option linter.all false
set_option maxRecDepth 100000
set_option maxHeartbeats 2000000
namespace L2
namespace Pl
open PySem PySem.Spec PyProof.Rows
theorem perm_map {α β : Type} {f : α → β} {ys zs : List β} (h : ys.Perm zs) : ∀ {l : List α}, zs = l.map f → ∃ l' : List α, l'.Perm l ∧ ys = l'.map f := by
  induction h with
  | nil =>
    intro l e
    cases l with
    | nil => exact ⟨[], .refl _, rfl⟩
    | cons _ _ => cases e
  | cons x _ ih =>
    intro l e
    cases l with
    | nil => cases e
    | cons a l =>
      obtain ⟨e1, e2⟩ := List.cons.inj e
      obtain ⟨l', p, e3⟩ := ih e2
      exact ⟨a :: l', p.cons a, by rw [List.map_cons, e1, e3]⟩
  | swap x y t =>
    intro l e
    match l, e with
    | a :: b :: l, e =>
      obtain ⟨e1, e⟩ := List.cons.inj e
      obtain ⟨e2, e3⟩ := List.cons.inj e
      exact ⟨b :: a :: l, .swap _ _ _, by rw [List.map_cons, List.map_cons, e1, e2, e3]⟩
  | trans _ _ ih1 ih2 =>
    intro l e
    obtain ⟨l2, p2, e2⟩ := ih2 e
    obtain ⟨l1, p1, e1⟩ := ih1 e2
    exact ⟨l1, p1.trans p2, e1⟩
def ten : List Str := ["a", "b", "c", "d", "e", "set", "send", "work", "done", "abcdefgh"]
theorem ten_nd : ten.Nodup := by decide +kernel
def isNameB (w : Str) : Bool := decide (1 ≤ w.length) && (decide (w.length ≤ 8) && w.cps.toList.all fun c => decide (97 ≤ c) && decide (c ≤ 122))
theorem isName_of {w : Str} (h : isNameB w = true) : IsName w := by
  obtain ⟨h1, h⟩ := He.ba h
  obtain ⟨h2, h3⟩ := He.ba h
  refine ⟨of_decide_eq_true h1, of_decide_eq_true h2, fun c hc => ?_⟩
  obtain ⟨q1, q2⟩ := He.ba (List.all_eq_true.mp h3 c hc)
  exact ⟨of_decide_eq_true q1, of_decide_eq_true q2⟩
theorem ten_names : ∀ w ∈ ten, IsName w := by
  have h : ten.all isNameB = true := by decide +kernel
  exact fun w hw => isName_of (List.all_eq_true.mp h w hw)
theorem inV_strs {x : Str} : ∀ {ws : List Str}, inV (.str x) (ws.map V.str) = decide (x ∈ ws)
  | [] => by simp [inV]
  | a :: r => by
    have ih := inV_strs (x := x) (ws := r)
    unfold inV at ih ⊢
    rw [List.map_cons, List.any_cons, ih]
    have e : eqV (.str a) (.str x) = decide (x = a) := by
      show (a == x) = _
      by_cases h : x = a
      · subst h
        simp
      · have h2 : (a == x) = false := beq_eq_false_iff_ne.mpr (Ne.symm h)
        rw [h2, decide_eq_false h]
    rw [e]
    by_cases h : x = a
    · simp [h]
    · simp [h]
theorem flat_strsO : ∀ ws : List Str, (ws.map V.str).all flatV = true
  | [] => rfl
  | _ :: r => flat_strsO r
theorem set_strs {x : Str} : ∀ {ws : List Str} {j : Nat}, (ws.map V.str).set j (.str x) = (ws.set j x).map V.str := fun {ws j} => (List.map_set).symm
theorem nodup_set {α : Type} {x : α} : ∀ {l : List α} {j : Nat}, l.Nodup → x ∉ l → (l.set j x).Nodup
  | [], _, _, _ => .nil
  | a :: r, 0, h, hx => by
    rw [List.set_cons_zero]
    exact List.nodup_cons.mpr ⟨fun z => hx (List.mem_cons_of_mem _ z), (List.nodup_cons.mp h).2⟩
  | a :: r, j + 1, h, hx => by
    rw [List.set_cons_succ]
    obtain ⟨h1, h2⟩ := List.nodup_cons.mp h
    refine List.nodup_cons.mpr ⟨fun z => ?_, nodup_set h2 fun z => hx (List.mem_cons_of_mem _ z)⟩
    rcases List.mem_or_eq_of_mem_set z with z | z
    · exact h1 z
    · exact hx (z ▸ List.mem_cons_self ..)
def spNames : Sp := fun vs H Q _ => ∃ (s : Addr) (m : Nat), vs = [.ref s, .int (m : Int)] ∧ Src H s ∧ 1 ≤ m ∧ m ≤ 5 ∧ ∀ p H' (ws : List Str), Mv s H H' → H p = none → H' p = some (.lst (ws.map V.str)) → ws.length = m → ws.Nodup → (∀ x ∈ ws, IsName x) → Q (.ref p) H'
def spLeads : Sp := fun vs H Q _ => ∃ (s : Addr) (m : Nat), vs = [.ref s, .int (m : Int)] ∧ Src H s ∧ 1 ≤ m ∧ m ≤ 5 ∧ ∀ p H' (ks : List Nat), Mv s H H' → H p = none → H' p = some (.lst (ks.map fun k : Nat => V.int (k : Int))) → ks.length = m → (∀ k ∈ ks, k < m) → Q (.ref p) H'
theorem cut_to {xs : List V} (m : Nat) (h : m ≤ xs.length) : cutV xs none (some (m : Int)) = xs.take m := by
  unfold cutV
  rw [HT.sIx_none, HT.sIx_nat, Nat.min_eq_left h, Nat.sub_zero, List.drop_zero]
end Pl
end L2
namespace Bs
open PySem PySem.Spec PyProof.Rows L2 L2.Pl
section
variable {P : Program} {w : World} {K : PySem.W.Frag} {mg : Str → Option Value} {base : Heap} {f : Addr} {fd : FuncData}
theorem scWord : FnScope ["source", "word", "turn"] ["source"] (defScope sWord) := ⟨rfl, rfl, rfl, by decide +kernel, rfl, by decide +kernel, by decide +kernel⟩
def abc : Str := "abcdefghijklmnopqrstuvwxyz"
theorem abc_low : ∀ c ∈ abc.cps.toList, 97 ≤ c ∧ c ≤ 122 := by decide +kernel
theorem ok_word (G : Gn mg) (F : FnP K "_law_word" sWord f fd) (hD : Has P w K mg base CX0 "_law_draw" 1 ["source", "span"] spDraw) (hP : Has P w K mg base CX0 "_law_pick" 2 ["source", "things"] (spPick K)) : FnOk P w K mg base CX0 3 f fd ["source"] spWord := by
  obtain ⟨fD, dD, oD, bD, gD, kD⟩ := hD.ex
  obtain ⟨fP, dP, oP, bP, gP, kP⟩ := hP.ex
  refine F.ok scWord (fun vs H Q E h => ?_) (fun cdv A outer s H vs Q E hr h => ?_)
  · obtain ⟨_, rfl, _⟩ := h
    rfl
  · obtain ⟨a, rfl, hS, q⟩ := h
    have hr1 := hr.mono (j := 1) (by decide)
    refine ⟨_, PSs.nox (pss_cons (ps_set (i := 1) scWord.nd rfl (.inl rfl) pe_str)
      (pss_cons (ps_for PassesOwn.never rfl (pi_range1 (by rfl) G.range (pa_cons (pe_op op_add pe_int (pe_call oD hr1 (by rfl) gD kD bD .nil pass0 (pa_cons (pv 0) (pa_cons pe_int pa_nil)))) pa_nil)) (pg_name (i := 2) scWord.nd rfl (.inl rfl))
        (pss_one (ps_set (i := 1) scWord.nd rfl (.inl rfl) (pe_op op_add_str (pv 1) (pe_call oP hr (by rfl) gP kP bP .nil pass0 (pa_cons (pv 0) (pa_cons pe_str pa_nil)))))))
      (pss_one (ps_ret (pv 1))))), ?_⟩
    refine ⟨_, rfl, a, 8, rfl, hS, by decide, by decide, fun H1 found m1 _ h0 h1 => ⟨1, found, rfl, rfl, 1 + found, rfl, by omega, by omega, ?_⟩⟩
    refine for_range (fun i σ H' => ∃ (x : Str) (y : Option V), σ = [some (.ref a), some (.str x), y] ∧ Mv a H H' ∧ x.length = i ∧ ∀ c ∈ x.cps.toList, 97 ≤ c ∧ c ≤ 122) ⟨_, none, rfl, m1, rfl, fun c hc => by cases hc⟩ ?_ ?_
    · rintro i σ H2 hi ⟨x, y, rfl, m, hx, hl⟩
      refine ⟨_, rfl, _, rfl, a, .str abc, _, rfl, m.src, .inr (.inr ⟨abc, rfl, by decide +kernel, rfl⟩), by decide +kernel, by decide +kernel, fun H3 z m3 _ hz => ?_⟩
      obtain ⟨c, hc, rfl⟩ := List.mem_map.mp hz
      have e1 : (⟨#[c]⟩ : Str).length = 1 := rfl
      refine ⟨x, ⟨#[c]⟩, rfl, rfl, by rw [hx, e1, sizeLine_eq]; omega, _, _, rfl, m.trans m3, by rw [strLen_append, hx, e1], fun d hd => ?_⟩
      have e2 : (x ++ (⟨#[c]⟩ : Str)).cps.toList = x.cps.toList ++ [c] := by simp [Str.cps_append]
      rw [e2] at hd
      rcases List.mem_append.mp hd with hd | hd
      · exact hl d hd
      · rw [List.mem_singleton.mp hd]
        exact abc_low c hc
    · rintro σ H2 ⟨x, y, rfl, m, hx, hl⟩
      exact ⟨_, rfl, q _ _ m ⟨by omega, by omega, hl⟩⟩
theorem scNames : FnScope ["source", "many", "some", "word"] ["source", "many"] (defScope sNames) := ⟨rfl, rfl, rfl, by decide +kernel, rfl, by decide +kernel, by decide +kernel⟩
theorem ok_names (G : Gn mg) (F : FnP K "_law_names" sNames f fd) (hD : Has P w K mg base CX0 "_law_draw" 1 ["source", "span"] spDraw) (hM : Has P w K mg base CX0 "_law_mixed" 2 ["source", "things"] (spMixed K)) (hW : Has P w K mg base CX0 "_law_word" 3 ["source"] spWord) : FnOk P w K mg base CX0 4 f fd ["source", "many"] spNames := by
  obtain ⟨fD, dD, oD, bD, gD, kD⟩ := hD.ex
  obtain ⟨fM, dM, oM, bM, gM, kM⟩ := hM.ex
  obtain ⟨fW, dW, oW, bW, gW, kW⟩ := hW.ex
  refine F.ok scNames (fun vs H Q E h => ?_) (fun cdv A outer s H vs Q E hr h => ?_)
  · obtain ⟨_, _, rfl, _⟩ := h
    rfl
  · obtain ⟨a, m, rfl, hS, h1, h5, q⟩ := h
    have hr1 := hr.mono (j := 1) (by decide)
    have hr2 := hr.mono (j := 2) (by decide)
    refine ⟨_, PSs.nox (pss_cons (ps_set (i := 2) scNames.nd rfl (.inl rfl) (pe_call oM hr2 (by rfl) gM kM bM .nil pass0 (pa_cons (pv 0) (pa_cons (pe_lst (pa_cons pe_str (pa_cons pe_str (pa_cons pe_str (pa_cons pe_str (pa_cons pe_str (pa_cons pe_str (pa_cons pe_str (pa_cons pe_str (pa_cons pe_str (pa_cons pe_str pa_nil))))))))))) pa_nil))))
      (pss_cons (ps_set (i := 3) scNames.nd rfl (.inl rfl) (pe_call oW hr (by rfl) gW kW bW .nil pass0 (pa_cons (pv 0) pa_nil)))
      (pss_cons (ps_if (pt_cmpR op_notIn_seq (pv 3) (pv 2) (by with_unfolding_all rfl)) (pss_one (ps_asg (pv 3) (pg_sub (pv 2) (pe_call oD hr1 (by rfl) gD kD bD .nil pass0 (pa_cons (pv 0) (pa_cons (pv 1) pa_nil))) set_list))) pss_nil)
      (pss_one (ps_ret (pe_slice sl_list (pv 2) po_none (po_some (pv 1)))))))), ?_⟩
    refine ⟨_, rfl, by show 10 ≤ sizeLine; decide, fun l hl => ?_⟩
    have m0 : Mv a H _ := .new (o := .lst (ten.map V.str)) hS hl
    have nla := hS.ne hl
    refine ⟨a, l, ten.map V.str, rfl, m0.src, SqL.of (del_of nla upd_same), by decide +kernel, fun p H1 ys m1 np hp py => ?_⟩
    obtain ⟨ws, pw, rfl⟩ := perm_map py (l := ten) rfl
    have mm := m0.trans m1
    have npa := m0.src.ne np
    have np0 := m0.free hS np
    have wl := pw.length_eq
    have wl10 : ws.length = 10 := wl.trans (by decide +kernel)
    have wn : ws.Nodup := pw.nodup_iff.mpr ten_nd
    have wi : ∀ x ∈ ws, IsName x := fun x hx => ten_names x (pw.mem_iff.mp hx)
    refine ⟨_, rfl, a, rfl, mm.src, fun H2 x m2 hx => ?_⟩
    have hp2 := m2.get npa hp
    have mm2 := mm.trans m2
    have fin : ∀ {H3 : Hp} {us : List Str}, Mv a H H3 → H3 p = some (.lst (us.map V.str)) → us.length = 10 → us.Nodup → (∀ x ∈ us, IsName x) → ∀ c, H3 c = none → Q (.ref c) (upd H3 c (.lst (cutV (us.map V.str) none (some (m : Int))))) := fun {H3 us} m3 e3 l3 n3 i3 c hc => by
      refine q c _ (us.take m) (m3.trans (.new m3.src hc)) (m3.free hS hc) ?_ (by rw [List.length_take]; omega) (List.Nodup.sublist (List.take_sublist _ _) n3) fun x hx => i3 x (List.mem_of_mem_take hx)
      rw [upd_same, cut_to m (by rw [List.length_map]; omega), List.map_take]
    refine ⟨_, rfl, _, rfl, p, ws.map V.str, rfl, .inl (SqL.of hp2), rfl, flat_strsO ws, _, rfl, ?_⟩
    rw [inV_strs]
    by_cases hin : x ∈ ws
    · rw [decide_eq_true hin]
      refine iteF ⟨_, rfl, _, rfl, _, rfl, p, _, rfl, SqL.of hp2, fun c hc => fin mm2 hp2 wl10 wn wi c hc⟩
    · rw [decide_eq_false hin]
      refine iteT ⟨_, rfl, _, rfl, _, rfl, _, rfl, a, (m : Int), rfl, m2.src, by omega, by omega, fun H3 found m3 eqs h0 hf => ?_⟩
      have hp3 : H3 p = some (.lst (ws.map V.str)) := (eqs p npa).trans hp2
      refine ⟨p, _, found, found.toNat, rfl, rfl, hp3, ?_, ?_⟩
      · unfold ixN
        rw [List.length_map, if_pos h0, if_pos (by omega)]
      · rw [set_strs]
        have m4 := (mm2.trans m3).write (o := .lst ((ws.set found.toNat x).map V.str)) np0 npa
        refine ⟨_, rfl, _, rfl, _, rfl, p, _, rfl, SqL.of upd_same, fun c hc => fin m4 upd_same (by rw [List.length_set]; exact wl10) (nodup_set wn hin) (fun y hy => ?_) c hc⟩
        rcases List.mem_or_eq_of_mem_set hy with hy | hy
        · exact wi y hy
        · rw [hy]
          exact hx
end
end Bs
set_option Elab.async false
set_option linter.all false
set_option maxRecDepth 100000
set_option maxHeartbeats 2000000
namespace L2
namespace Pl
open PySem PySem.Spec PyProof.Rows
/-- nats as values -/
abbrev nV (ks : List Nat) : List V := ks.map fun k : Nat => V.int (k : Int)
/-- [e for at in range(m)], e a number below m that may draw -/
theorem lc_nats {m sl : Nat} {te : TE} {σ : St} {H0 : Hp} {D s : Addr} {Qd : Hp → Prop} (hm : m ≤ 5) (hS : Src H0 s) (hD : H0 D = none) (hw : ∀ x : V, wipe ((wipe σ [sl]).set sl (some x)) [sl] = wipe σ [sl])
    (step : ∀ (i : Nat) (H' : Hp) (Q : VK), i < m → Src H' s → (∀ (k : Nat) (H4 : Hp), k < m → Mv s H' H4 → Q (.int (k : Int)) H4) → te ((wipe σ [sl]).set sl (some (.int (0 + (i : Int))))) H' Q)
    (hd : ∀ (H : Hp) (ks : List Nat), Mv s H0 H → H D = some (.lst (nV ks)) → ks.length = m → (∀ k ∈ ks, k < m) → Qd H) :
    ∃ W : Nat → Nat → Hp → Prop, (∃ n, W 0 n (upd H0 D (.lst []))) ∧ ∀ i n H, W i n H →
      ((Itr 0 m).stop i H ∧ Qd H) ∨ ((Itr 0 m).go i H ∧ ∃ Nx : Hp → Prop, (∀ H', Nx H' → ∃ m', m' < n ∧ W (i + 1) m' H') ∧ ∀ x H', (Itr 0 m).yld i H x H' → gName sl x (wipe σ [sl]) H' fun σ2 H2 => wipe σ2 [sl] = wipe σ [sl] ∧ tYes σ2 H2 fun b H3 =>
        if b = true then te σ2 H3 fun y H4 => ∃ acc, H4 D = some (.lst acc) ∧ acc.length < sizeLine ∧ Nx (upd H4 D (.lst (acc ++ [y]))) else Nx H3) := by
  have nD := hS.ne hD
  refine lc_range (fun i H => Mv s H0 H ∧ ∃ ks : List Nat, H D = some (.lst (nV ks)) ∧ ks.length = i ∧ ∀ k ∈ ks, k < m) ⟨.new hS hD, [], upd_same, rfl, fun k hk => by cases hk⟩ (fun i H hi p => ?_) (fun H p => ?_)
  · obtain ⟨mv, ks, hk, hl, ha⟩ := p
    refine ⟨hw _, iteT (B := Mv s H0 H ∧ ∃ ks : List Nat, H D = some (.lst (nV ks)) ∧ ks.length = i + 1 ∧ ∀ k ∈ ks, k < m) (step i H _ hi mv.src fun k H4 hkm m4 => ?_)⟩
    · refine ⟨nV ks, m4.get nD hk, by rw [List.length_map]; exact small1000 (by omega), (mv.trans m4).write hD nD, ks ++ [k], ?_, by rw [List.length_append, hl]; rfl, fun j hj => ?_⟩
      · rw [upd_same]
        simp [nV]
      · rcases List.mem_append.mp hj with hj | hj
        · exact ha j hj
        · rw [List.mem_singleton.mp hj]
          exact hkm
  · obtain ⟨mv, ks, hk, hl, ha⟩ := p
    exact hd H ks mv hk hl ha
end Pl
end L2
namespace Bs
open PySem PySem.Spec PyProof.Rows L2 L2.Pl
section
variable {P : Program} {w : World} {K : PySem.W.Frag} {mg : Str → Option Value} {base : Heap} {f : Addr} {fd : FuncData}
abbrev NLd : List Str := ["source", "many", "kind", "to", "at"]
theorem scLeads : FnScope NLd ["source", "many"] (defScope sLeads) := ⟨rfl, rfl, rfl, by decide +kernel, rfl, by decide +kernel, by decide +kernel⟩
theorem ok_leads (G : Gn mg) (F : FnP K "_law_leads" sLeads f fd) (hD : Has P w K mg base CX0 "_law_draw" 1 ["source", "span"] spDraw) (hM : Has P w K mg base CX0 "_law_mixed" 2 ["source", "things"] (spMixed K)) : FnOk P w K mg base CX0 3 f fd ["source", "many"] spLeads := by
  obtain ⟨fD, dD, oD, bD, gD, kD⟩ := hD.ex
  obtain ⟨fM, dM, oM, bM, gM, kM⟩ := hM.ex
  refine F.ok scLeads (fun vs H Q E h => ?_) (fun cdv A outer s H vs Q E hr h => ?_)
  · obtain ⟨_, _, rfl, _⟩ := h
    rfl
  · obtain ⟨a, m, rfl, hS, h1, h5, q⟩ := h
    have hr1 := hr.mono (j := 1) (by decide)
    refine ⟨_, PSs.nox (pss_cons (ps_asg (pe_tup (pa_cons (pe_call oD hr1 (by rfl) gD kD bD .nil pass0 (pa_cons (pv 0) (pa_cons pe_int pa_nil))) (pa_cons (pe_call oD hr1 (by rfl) gD kD bD .nil pass0 (pa_cons (pv 0) (pa_cons (pv 1) pa_nil))) pa_nil))) (pg_tup rfl (pgs_cons (pg_name (i := 2) scLeads.nd rfl (.inl rfl)) (pgs_cons (pg_name (i := 3) scLeads.nd rfl (.inr rfl)) pgs_nil))))
      (pss_cons (ps_if (pt_cmpR op_eq (pv 2) pe_int (nomark _)) (pss_one (ps_ret (pe_op op_rep (pe_lst (pa_cons (pv 3) pa_nil)) (pv 1)))) pss_nil)
      (pss_cons (ps_if (pt_cmpR op_eq (pv 2) pe_int (nomark _)) (pss_one (ps_ret (pe_call oM hr (by rfl) gM kM bM .nil pass0 (pa_cons (pv 0) (pa_cons (pe_listRg rfl (by rfl) G.list (prg_1 (by rfl) G.range (pv 1))) pa_nil))))) pss_nil)
      (pss_cons (ps_if (pt_cmpR op_eq (pv 2) pe_int (nomark _)) (pss_one (ps_ret (pe_lc (own := [("at", 4)]) (g := gName 4) (tt := tYes) (te := tCB (fun xs H Q => ∃ i j, xs = [.int i, .int j] ∧ Q (.int (if j > i then j else i)) H) (tCons (tVar 4) (tCons (tVar 3) tNil))) rfl scLeads.nd (pi_range1 (by rfl) G.range (pa_cons (pv 1) pa_nil)) (blkOk_by (N := NLd) (sc := defScope sLeads) (by decide +kernel)) (fun _ _ _ _ _ => pg_name (i := 4) scLeads.nd rfl (.inl rfl)) (fun _ _ _ _ _ => pts_nil) (fun _ _ _ _ _ => pe_callB (call_max2 rfl) (by rfl) G.max bMax (pa_cons (pv 4) (pa_cons (pv 3) pa_nil)))))) pss_nil)
      (pss_cons (ps_if (pt_cmpR op_eq (pv 2) pe_int (nomark _)) (pss_one (ps_ret (pe_lc (own := [("at", 4)]) (g := gName 4) (tt := tYes) (te := tOp (rI (fun _ j => 0 < j) fun i j => .int (i % j)) (tOp (rI0 fun i j => .int (i + j)) (tVar 4) (tC (.int 1))) (tVar 1)) rfl scLeads.nd (pi_range1 (by rfl) G.range (pa_cons (pv 1) pa_nil)) (blkOk_by (N := NLd) (sc := defScope sLeads) (by decide +kernel)) (fun _ _ _ _ _ => pg_name (i := 4) scLeads.nd rfl (.inl rfl)) (fun _ _ _ _ _ => pts_nil) (fun _ _ _ _ _ => pe_op op_mod (pe_op op_add (pv 4) pe_int) (pv 1))))) pss_nil)
      (pss_one (ps_ret (pe_lc (own := [("at", 4)]) (g := gName 4) (tt := tYes) (te := tIf (tTest (tOp rEq (tCall spDraw [] E0 (tCons (tVar 0) (tCons (tC (.int 3)) tNil))) (tC (.int 0)))) (tVar 4) (tCall spDraw [] E0 (tCons (tVar 0) (tCons (tVar 1) tNil)))) rfl scLeads.nd (pi_range1 (by rfl) G.range (pa_cons (pv 1) pa_nil)) (blkOk_by (N := NLd) (sc := defScope sLeads) (by decide +kernel)) (fun _ _ _ _ _ => pg_name (i := 4) scLeads.nd rfl (.inl rfl)) (fun _ _ _ _ _ => pts_nil)
          (fun _ _ _ _ _ => pe_ifExp (pt_cmpR op_eq (pe_call oD hr1 (by rfl) gD kD bD .nil pass0 (pa_cons (pv 0) (pa_cons pe_int pa_nil))) pe_int (nomark _)) (pv 4) (pe_call oD hr1 (by rfl) gD kD bD .nil pass0 (pa_cons (pv 0) (pa_cons (pv 1) pa_nil)))))))))))), ?_⟩
    refine ⟨_, rfl, a, 6, rfl, hS, by decide, by decide, fun H1 kd m1 _ hk0 hk1 => ?_⟩
    refine ⟨_, rfl, _, rfl, a, (m : Int), rfl, m1.src, by omega, by omega, fun H2 to m2 _ ht0 ht1 => ⟨by show 2 ≤ sizeLine; decide, fun t ht => ?_⟩⟩
    have mm : Mv a H _ := (m1.trans m2).trans (.new (o := .tup [.int kd, .int to]) m2.src ht)
    refine ⟨t, _, rfl, .inl (.inl upd_same), rfl, _, [.int to], rfl, _, [], rfl, rfl, ?_⟩
    -- the five kinds
    refine ⟨_, rfl, rfl, _, rfl, ite2 (fun _ => ?_) (fun _ => ⟨_, rfl, rfl, _, rfl, ite2 (fun _ => ?_) (fun _ => ⟨_, rfl, rfl, _, rfl, ite2 (fun _ => ?_) (fun _ => ⟨_, rfl, rfl, _, rfl, ite2 (fun _ => ?_) (fun _ => ?_)⟩)⟩)⟩)⟩
    · refine ⟨_, rfl, by show 1 ≤ sizeLine; decide, fun l hl => ?_⟩
      refine ⟨_, rfl, l, (m : Int), [.int to], rfl, rfl, upd_same, by omega, by omega, by rw [sizeLine_eq]; simp; omega, fun p hp => ?_⟩
      have mn := (mm.trans (.new (o := .lst [.int to]) mm.src hl)).trans (.new (o := .lst (List.replicate (m : Int).toNat [.int to]).flatten) (Mv.new mm.src hl).src hp)
      refine q p _ (List.replicate m to.toNat) mn ((mm.trans (.new mm.src hl)).free hS hp) ?_ (List.length_replicate) (fun k hk => by rw [List.eq_of_mem_replicate hk]; omega)
      rw [upd_same, Int.toNat_natCast, List.map_replicate]
      have e : ((to.toNat : Nat) : Int) = to := by omega
      rw [e]
      simp [List.flatten_replicate_singleton]
    · refine ⟨_, rfl, _, rfl, _, rfl, RgOk.of_le (by decide) (by omega) (by decide) (by omega), fun l hl => ?_⟩
      have nla := mm.src.ne hl
      have e : rgV 0 (m : Int) = nV (List.range m) := by
        unfold rgV nV
        rw [Int.sub_zero, Int.toNat_natCast]
        exact List.map_congr_left fun i _ => by rw [Int.zero_add]
      refine ⟨a, l, rgV 0 (m : Int), rfl, (Mv.new mm.src hl).src, SqL.of (del_of nla upd_same), by rw [rgV_length]; omega, fun p H3 ys m3 np hp py => ?_⟩
      rw [e] at py
      obtain ⟨ks, pk, rfl⟩ := perm_map py (l := List.range m) rfl
      have mn := mm.trans (.new (o := .lst (rgV 0 (m : Int))) mm.src hl)
      exact q p H3 ks (mn.trans m3) (mn.free hS np) hp (pk.length_eq.trans List.length_range) fun k hk => List.mem_range.mp (pk.mem_iff.mp hk)
    · refine ⟨_, rfl, _, rfl, by omega, by omega, fun D hD' => ?_⟩
      rw [Int.toNat_natCast]
      refine lc_nats (s := a) h5 mm.src hD' (fun x => by simp [wipe]) (fun i H' Q' hi sr k => ?_) (fun H3 ks m3 hk hl ha => q D H3 ks (mm.trans m3) (mm.free hS hD') hk hl ha)
      refine ⟨_, rfl, _, rfl, _, _, rfl, ?_⟩
      have e : (if to > 0 + (i : Int) then to else 0 + (i : Int)) = ((if to > (i : Int) then to.toNat else i : Nat) : Int) := by
        split <;> split <;> omega
      rw [e]
      exact k _ H' (by split <;> omega) (.refl sr)
    · refine ⟨_, rfl, _, rfl, by omega, by omega, fun D hD' => ?_⟩
      rw [Int.toNat_natCast]
      refine lc_nats (s := a) h5 mm.src hD' (fun x => by simp [wipe]) (fun i H' Q' hi sr k => ?_) (fun H3 ks m3 hk hl ha => q D H3 ks (mm.trans m3) (mm.free hS hD') hk hl ha)
      refine ⟨_, rfl, _, _, rfl, rfl, _, rfl, _, _, rfl, rfl, by omega, ?_⟩
      have e : (0 + (i : Int) + 1) % (m : Int) = (((i + 1) % m : Nat) : Int) := by
        rw [Int.zero_add]
        exact (Int.natCast_emod (i + 1) m).symm
      show Q' (.int ((0 + (i : Int) + 1) % (m : Int))) H'
      rw [e]
      exact k _ H' (Nat.mod_lt _ (by omega)) (.refl sr)
    · refine ⟨_, rfl, _, rfl, by omega, by omega, fun D hD' => ?_⟩
      rw [Int.toNat_natCast]
      refine lc_nats (s := a) h5 mm.src hD' (fun x => by simp [wipe]) (fun i H' Q' hi sr k => ?_) (fun H3 ks m3 hk hl ha => q D H3 ks (mm.trans m3) (mm.free hS hD') hk hl ha)
      refine ⟨_, rfl, a, 3, rfl, sr, by decide, by decide, fun H3 u m3 _ hu0 hu1 => ⟨rfl, _, rfl, ite2 (fun _ => ?_) (fun _ => ?_)⟩⟩
      · refine ⟨_, rfl, ?_⟩
        have e : 0 + (i : Int) = ((i : Nat) : Int) := by omega
        rw [e]
        exact k _ H3 hi m3
      · refine ⟨_, rfl, _, rfl, a, (m : Int), rfl, m3.src, by omega, by omega, fun H4 v m4 _ hv0 hv1 => ?_⟩
        have e : v = ((v.toNat : Nat) : Int) := by omega
        rw [e]
        exact k _ H4 (by omega) (m3.trans m4)
end
end Bs
set_option Elab.async false
set_option linter.all false
set_option maxRecDepth 100000
set_option maxHeartbeats 4000000
namespace PlayL
open PySem PySem.Spec PyProof.Rows
/-! ### the different ones of a row of texts, and set(xs) of a list of texts -/
def metS (xs : List Str) : List Str := xs.foldl (fun a x => if x ∈ a then a else a ++ [x]) []
theorem metS_snoc (xs : List Str) (x : Str) : metS (xs ++ [x]) = if x ∈ metS xs then metS xs else metS xs ++ [x] := by
  unfold metS
  rw [List.foldl_append]
  rfl
theorem metS_mem : ∀ (n : Nat) (xs : List Str), xs.length = n → ∀ y, y ∈ metS xs ↔ y ∈ xs := by
  intro n
  induction n with
  | zero =>
    intro xs e y
    rw [List.length_eq_zero_iff.mp e]
    exact Iff.rfl
  | succ n ih =>
    intro xs e y
    obtain ⟨zs, z, rfl⟩ : ∃ zs z, xs = zs ++ [z] := ⟨_, _, (List.dropLast_concat_getLast (by intro h; rw [h] at e; cases e)).symm⟩
    have hz : zs.length = n := by
      rw [List.length_append] at e
      exact Nat.succ.inj e
    have q := ih zs hz
    rw [metS_snoc]
    split
    · rename_i hm
      rw [q y, List.mem_append, List.mem_singleton]
      exact ⟨.inl, fun c => c.elim id fun c => c ▸ (q z).mp hm⟩
    · rw [List.mem_append, List.mem_append, q y]
theorem metS_le : ∀ (n : Nat) (xs : List Str), xs.length = n → (metS xs).length ≤ n := by
  intro n
  induction n with
  | zero =>
    intro xs e
    rw [List.length_eq_zero_iff.mp e]
    exact Nat.le_refl _
  | succ n ih =>
    intro xs e
    obtain ⟨zs, z, rfl⟩ : ∃ zs z, xs = zs ++ [z] := ⟨_, _, (List.dropLast_concat_getLast (by intro h; rw [h] at e; cases e)).symm⟩
    have hz : zs.length = n := by
      rw [List.length_append] at e
      exact Nat.succ.inj e
    have q := ih zs hz
    rw [metS_snoc]
    split
    · omega
    · rw [List.length_append, List.length_singleton]
      omega
theorem metS_nd : ∀ (n : Nat) (xs : List Str), xs.length = n → ((metS xs).length = n ↔ xs.Nodup) := by
  intro n
  induction n with
  | zero =>
    intro xs e
    rw [List.length_eq_zero_iff.mp e]
    exact ⟨fun _ => .nil, fun _ => rfl⟩
  | succ n ih =>
    intro xs e
    obtain ⟨zs, z, rfl⟩ : ∃ zs z, xs = zs ++ [z] := ⟨_, _, (List.dropLast_concat_getLast (by intro h; rw [h] at e; cases e)).symm⟩
    have hz : zs.length = n := by
      rw [List.length_append] at e
      exact Nat.succ.inj e
    have q := ih zs hz
    have le := metS_le n zs hz
    rw [metS_snoc, List.nodup_append]
    split
    · rename_i hm
      refine ⟨fun c => by omega, fun c => ?_⟩
      exact absurd rfl (c.2.2 z ((metS_mem n zs hz z).mp hm) z (List.mem_singleton.mpr rfl))
    · rename_i hm
      rw [List.length_append, List.length_singleton]
      refine ⟨fun c => ⟨q.mp (by omega), List.nodup_cons.mpr ⟨by simp, .nil⟩, fun a ha b hb e2 => hm ?_⟩, fun c => by rw [q.mpr c.1]⟩
      rw [← List.mem_singleton.mp hb, ← e2]
      exact (metS_mem n zs hz a).mpr ha
theorem metS_has (xs : List Str) (y : Str) : (metS xs).any (· == y) = decide (y ∈ xs) := by
  by_cases h : y ∈ xs
  · rw [decide_eq_true h, List.any_eq_true]
    exact ⟨y, (metS_mem _ xs rfl y).mpr h, beq_self_eq_true y⟩
  · rw [decide_eq_false h, List.any_eq_false]
    intro z hz c
    have := beq_iff_eq.mp c
    rw [this] at hz
    exact h ((metS_mem _ xs rfl y).mp hz)
section
variable {prog : Program} {w : World} {A : Around} {R : Result → Shared → Prop} {I : Addr} {fp wr : List Addr} {G : Array GenState → Array GenState → Prop} {n : Nat} {P : Nat → Value → Prop} {St : Nat → Shared → Prop}
/-- where the set of texts is at s -/
abbrev SetAtS (prog : Program) (w : World) (S : Addr) (xs : List Str) (s : Shared) : Prop := s.heap.SetOf (PySem.strKind prog w) S (fun y => decide (y ∈ xs)) (metS xs).length
theorem setAtS_keep {S : Addr} {xs : List Str} {s s' : Shared} (h : SetAtS prog w S xs s) (k : ∀ o, s.heap.get? S = some o → s'.heap.get? S = some o) : SetAtS prog w S xs s' :=
  let ⟨o, es, ep, tb, ho, r⟩ := h
  ⟨o, es, ep, tb, k o ho, r⟩
theorem loop_strs (W : WalksS prog w A.in1 I fp wr G n P St) (S : Addr) (free : S ∉ fp) (xs : List Str) (room : n + 1 < scanBound) (len : xs.length = n)
    (val : ∀ i v, P i v → ∃ t x, xs[i]? = some x ∧ v = .str x t) : ∀ (m i : Nat) (s : Shared), n - i = m → i ≤ n → St i s → SetAtS prog w S (xs.take i) s →
      (∀ s', Moved (S :: wr) G s s' → SetAtS prog w S xs s' → R (.ok (.ret .none)) s') →
      codeAny (model prog w) A (.builtin "set.update.loop" ⟨[.ref S, .ref I], []⟩) R s := by
  have fw : S ∉ wr := fun h => free (W.sub _ h)
  intro m
  induction m with
  | zero =>
    intro i s e hi st at_ fin
    obtain rfl : i = n := by omega
    refine codeAny_builtin F.entry_set_update_loop ?_
    rw [Around.under_plainId F.plain_set_update_loop _]
    refine wpAny_bind (m := pyNext (.ref I)) (W.done s _ _ st fun s1 mv => ?_)
    refine wpAny_pure (fin s1 (mv.mono fun b hb => .tail _ hb) ?_)
    rw [List.take_of_length_le (Nat.le_of_eq len)] at at_
    exact setAtS_keep at_ fun o => mv.heap S o fw
  | succ m ih =>
    intro i s e hi st at_ fin
    have lt : i < n := by omega
    refine codeAny_builtin F.entry_set_update_loop ?_
    rw [Around.under_plainId F.plain_set_update_loop _]
    refine wpAny_bind (m := pyNext (.ref I)) (W.item i s _ _ lt st fun v s1 hv st1 mv => ?_)
    obtain ⟨tk, x, hx, rfl⟩ := val i v hv
    have at1 := setAtS_keep at_ fun o => mv.heap S o fw
    refine wpAny_bind (m := holding [Value.str x tk] (setAdd S (.str x tk))) (wpAny_holding ?_)
    unfold setAdd
    refine wpAny_holding (wpAny_bind ((PySem.strKind prog w).pyHash (k := x) (strKind_is _ _ _ _) ?_))
    have few : (metS (xs.take i)).length ≤ i := by
      have := metS_le _ (xs.take i) rfl
      rw [List.length_take] at this
      omega
    refine wpAny_setAddHashed_of (knd := PySem.strKind prog w) (s := { s1 with toks := s1.toks + 1 }) (strKind_is _ _ _ _) rfl at1 (by omega) fun h2 only at2 => ?_
    have tk1 : xs.take (i + 1) = xs.take i ++ [x] := by
      rw [List.take_succ, hx]
      rfl
    have at3 : h2.SetOf (PySem.strKind prog w) S (fun y => decide (y ∈ xs.take (i + 1))) (metS (xs.take (i + 1))).length := by
      refine SetOf_congr at2 (fun y => ?_) ?_
      · rw [tk1, Bool.eq_iff_iff, Bool.or_eq_true, decide_eq_true_iff, decide_eq_true_iff, decide_eq_true_iff, List.mem_append, List.mem_singleton]
      · rw [tk1, metS_snoc]
        have q := metS_mem _ (xs.take i) rfl x
        by_cases c : x ∈ xs.take i
        · rw [if_pos (decide_eq_true c), if_pos (q.mpr c)]
        · rw [if_neg (by rw [decide_eq_false c]; decide), if_neg fun z => c (q.mp z), List.length_append]
          rfl
    have other : ∀ b o, b ≠ S → s1.heap.get? b = some o → h2.get? b = some o := fun b o hb z => (only.2 b hb).trans z
    refine wpAny_pure ⟨plainId_quiet F.plain_set_update_loop _, ih (i + 1) _ (by omega) lt (W.frame _ s1 _ _ st1 (Nat.le_succ _) fun b hb o z => other b o (fun c => free (c ▸ hb)) z) at3 fun s3 mv3 at4 => fin s3 (Moved.trans W.gtrans (Moved.then_heap (mv.mono fun b hb => .tail _ hb) (Nat.le_succ _) fun b o hb z => other b o (fun c => hb (c ▸ .head _)) z) mv3) at4⟩
end
section
variable {prog : Program} {w : World} {A : Around} {E : Value → Shared → Prop} {s : Shared}
/-- a set that was just made -/
abbrev set0 (led : Bool) : Obj := { cls := .type "set", dict := none, data := .set #[] 0 (.fresh 0 0 led) }
abbrev withSet (s : Shared) (led : Bool) : Shared := { s with heap := s.heap.push (set0 led) }
theorem set_init_list {l : Addr} {items : Array Value} {xs : List Str} {led : Bool} (free : A.handled = none) (isL : s.heap.IsList l items) (are : StrsAre items.toList xs) (room : xs.length + 1 < scanBound) {Q : Value → Shared → Prop}
    (fin : ∀ (h' : Heap) (tk : Nat), h'.SetOf (PySem.strKind prog w) s.heap.objs.size (fun y => decide (y ∈ xs)) (metS xs).length → (∀ b o, s.heap.get? b = some o → h'.get? b = some o) → Q .none { s with heap := h', toks := tk }) :
    codeAny (model prog w) A (.call (.builtin "set.__init__") ⟨[.ref s.heap.objs.size, .ref l], []⟩) (wants Q E) (withSet s led) := by
  have new : (withSet s led).heap.get? s.heap.objs.size = some (set0 led) := Heap.get?_push_size _ rfl
  refine codeAny_call_builtin F.called_set.init.plain F.entry_set_init (check_set_init_1 ⟨_, new, rfl⟩ ?_)
  obtain ⟨ol, hol, hcl, nl, hdl⟩ := isL
  obtain ⟨c, dd, data, sl⟩ := ol
  dsimp only at hcl hdl
  subst hcl hdl
  have at2 : (withSet s led).heap.get? l = some { cls := .type "list", dict := dd, data := .seq items nl, slots := sl } := Heap.get?_push_of_some _ hol
  have n1 := F.sub_list_set
  have n2 := F.sub_list_frozenset
  have n3 : (Value.type "list" == Value.type "dict") = false := by decide
  unfold Builtin.«set.__init__» noKeywords Builtin.Frozenset.updateFrom
  generalize eP : pyIter = PI
  wp_walk
  subst eP
  have isL2 : (withSet s led).heap.IsList l items := ⟨_, at2, rfl, nl, rfl⟩
  refine wpAny_pyIter_list isL2 (wpAny_bind (wpAny_runValue ?_))
  have lt : l < s.heap.objs.size := Heap.lt_size hol
  have sz : (withSet s led).heap.objs.size = s.heap.objs.size + 1 := Heap.size_push _ _
  have apart : s.heap.objs.size ∉ [(withSet s led).heap.objs.size, l] := fun c => by
    rcases List.mem_cons.mp c with c | c
    · exact absurd (c.trans sz) (Nat.ne_of_lt (Nat.lt_succ_self _))
    · exact absurd (List.mem_singleton.mp c).symm (Nat.ne_of_lt lt)
  have at3 : ((withSet s led).heap.push { cls := .type "list_iterator", data := .fields #[.ref l, .int 0 0] }).get? s.heap.objs.size = some (set0 led) := Heap.get?_push_of_some _ new
  have len : xs.length = items.size := by
    have := StrsAre.len_eq are
    rw [← this, Array.length_toList]
  have val : ∀ (i : Nat) (v : Value), items[i]? = some v → ∃ t x, xs[i]? = some x ∧ v = .str x t := fun i v hv => by
    have lt : i < xs.length := len ▸ (Array.getElem?_eq_some_iff.mp hv).1
    obtain ⟨t, e⟩ := SS.strs_at are i v (by rw [Array.getElem?_toList]; exact hv)
    exact ⟨t, xs[i], List.getElem?_eq_getElem lt, by rw [e, List.getD_eq_getElem?_getD, List.getElem?_eq_getElem lt]; rfl⟩
  refine loop_strs ((Walks.list (by simp [free]) _ l (fun c => absurd (c.trans sz) (Nat.ne_of_lt (Nat.lt_succ_of_lt lt))) items).toS) s.heap.objs.size apart xs (by rw [← len]; exact room) len val items.size 0 _ (by omega) (Nat.zero_le _) ⟨⟨_, Heap.get?_push_size _ rfl, rfl, rfl⟩, isL2.push _⟩ ?_ fun s1 mv at4 => ?_
  · exact SetOf_congr ((setObjOf_fresh (knd := PySem.strKind prog w) led).setOf at3 (by unfold scanBound; omega)) (fun _ => rfl) rfl
  · obtain ⟨h1, g1, d1, t1, o1⟩ := s1
    obtain rfl : g1 = s.gens := mv.gens
    obtain rfl : d1 = s.drawn := mv.drawn
    obtain rfl : o1 = s.os := mv.os
    refine wpAny_pure (wpAny_pure (fin h1 t1 at4 fun b o hb => ?_))
    have ltb : b < s.heap.objs.size := Heap.lt_size hb
    refine mv.heap b o (fun c => ?_) (Heap.get?_push_of_some _ (Heap.get?_push_of_some _ hb))
    rcases List.mem_cons.mp c with c | c
    · exact absurd c (Nat.ne_of_lt ltb)
    · exact absurd ((List.mem_singleton.mp c).trans sz) (Nat.ne_of_lt (Nat.lt_succ_of_lt ltb))
theorem set_of_list {l : Addr} {items : Array Value} {xs : List Str} (free : A.handled = none) (isL : s.heap.IsList l items) (are : StrsAre items.toList xs) (room : xs.length + 1 < scanBound) {Q : Value → Shared → Prop}
    (fin : ∀ (h' : Heap) (tk : Nat), h'.SetOf (PySem.strKind prog w) s.heap.objs.size (fun y => decide (y ∈ xs)) (metS xs).length → (∀ b o, s.heap.get? b = some o → h'.get? b = some o) → Q (.ref s.heap.objs.size) { s with heap := h', toks := tk }) :
    wpAny (model prog w) A (call (.type "set") [.ref l]) Q E s := by
  obtain ⟨head, tail, mro⟩ := F.called_set.mro
  refine wpAny_call (codeAny_of_tree ?_)
  change wpAny _ _ (callAny (Value.type "set") _) _ _ s
  refine wpAny_pure ⟨Code.quiet_builtin _ (by decide +kernel), codeAny_builtin F.entry_type_call (?_ : wpAny _ _ _ _ _ _)⟩
  rw [Around.under_plain (weight_type_call_type "set" [.ref l] []) rfl]
  have c1 := F.called_set.made
  have c2 := F.called_set.sub
  have c3 := F.called_set.notType
  have c4 := F.called_set.canCreate
  have c5 := F.typeCall_set_1 (.ref l)
  repeat (any_goals (first | assumption | wp_step))
  refine codeAny_mono (code_set_new_1 (.ref l) (E := E) (Q₁ := fun o s1 => ∃ led : Bool, o = .ref s.heap.objs.size ∧ s1 = withSet s led) fun led => ⟨led, rfl, rfl⟩) fun r s1 hr => ?_
  match r, hr with
  | .error e, hr => exact hr
  | .ok (.ret o), hr =>
    obtain ⟨led, rfl, rfl⟩ := hr
    have new : (withSet s led).heap.get? s.heap.objs.size = some (set0 led) := Heap.get?_push_size _ rfl
    have isS : (withSet s led).TypeIs (.ref s.heap.objs.size) "set" := ⟨_, new, rfl⟩
    have c6 := F.called_set.init.lookup
    have c7 := F.called_set.init.bind (.ref s.heap.objs.size)
    repeat (any_goals (first | assumption | wp_step))
    refine codeAny_mono (set_init_list (A := A.in1) (led := led) (E := E) (Q := fun r s2 => r = .none ∧ ∃ h' tk, s2 = { s with heap := h', toks := tk } ∧ h'.SetOf (PySem.strKind prog w) s.heap.objs.size (fun y => decide (y ∈ xs)) (metS xs).length ∧ ∀ b o, s.heap.get? b = some o → h'.get? b = some o) (by simp [free]) isL are room fun h' tk a b => ⟨rfl, h', tk, rfl, a, b⟩) fun r2 s2 hr2 => ?_
    match r2, hr2 with
    | .error e, hr2 => exact hr2
    | .ok (.ret r3), hr2 =>
      obtain ⟨rfl, h', tk, rfl, isSet, keep⟩ := hr2
      repeat (any_goals (first | assumption | wp_step))
      exact fin _ _ isSet keep
end
end PlayL
namespace L2
open PySem PySem.Spec PyProof.Rows
/-- len(set(xs)), xs a list of texts -/
def tLenSetS (K : PySem.W.Frag) (ta : TE) : TE := fun σ H Q => ta σ H fun x H1 => ∃ l, ∃ xs : List Str, x = .ref l ∧ SqL K H1 l (xs.map V.str) ∧ xs.length ≤ 1000 ∧ Q (.int ((PlayL.metS xs).length : Nat)) H1
section
variable {X : Cx}
theorem pe_lenSetS {a : Expr} {ta : TE} {p p2 q pos : Pos} (hc : X.calm = true) (hg : Gl X "len") (hm : X.mg "len" = none) (hg2 : Gl X "set") (hm2 : X.mg "set" = none) (ha : PE X a ta)
    (one : starEach [a] X.env = (false, eval a X.env) :: starEach [] X.env := by rfl) : PE X (.Call (.Name "len" p) [.Call (.Name "set" p2) [a] [] q] [] pos) (tLenSetS X.K ta) := by
  refine ⟨fun pins s σ H Q I h => Call_ (ld_blt I hg hm boot_len (callWith_builtin1 (args_cons (Call_ (ld_blt I hg2 hm2 boot_set ?_)) rfl) rfl rfl))⟩
  refine callWith_type1 (args_cons (thn (ha.run pins s σ H _ I h) fun v s1 ⟨x, H1, I1, r1, q1⟩ => args_nil ?_) one) one rfl
  obtain ⟨l, xs, rfl, hl, few, q1⟩ := q1
  cases r1
  obtain ⟨its, r, pl, _⟩ := I1.list hl
  refine PlayL.set_of_list (I1.ok.hd hc) pl.isList (by simpa using strsAre_of r) (by unfold scanBound; omega) fun h' tk isS keep => args_nil ?_
  obtain ⟨o, es, ep, t, ho, hex, hd, _, _, _, hf, hn⟩ := isS
  have le := PlayL.metS_le _ xs rfl
  have I2 : Inv X pins σ H1 { s1 with heap := h', toks := tk } := I1.kept keep
  exact call_len_set ho hex hd hf (by rw [hn]; omega) ⟨.int ((PlayL.metS xs).length : Nat), H1, I2.tok _, ⟨_, by rw [hn]⟩, q1⟩
end
end L2
set_option Elab.async false
set_option linter.all false
set_option maxRecDepth 100000
set_option maxHeartbeats 4000000
namespace PlayL
open PySem PySem.Spec PyProof.Rows RZ
/-! ### list(zip(..)) of two tuples: the first pair is kept, so all others are laid anew -/
section
variable {prog : Program} {w : World} {A : Around} {E : Value → Shared → Prop} {s : Shared}
/-- the zip at z, behind k pairs; T, its first pair, is held -/
structure ZipAt (h : Heap) (z TI TO i1 i2 l1 l2 T : Addr) (f : Bool) (k : Nat) (xs ys : Array Value) : Prop where
  zip : IsZipHeld h z TI TO T f
  kept : ∃ o, h.get? T = some o
  both : IsPair h TI (.ref i1) (.ref i2)
  one : h.IsTupleIter i1 l1 k
  two : h.IsTupleIter i2 l2 k
  left : h.IsTuple l1 xs
  right : h.IsTuple l2 ys
theorem zip_alive {z TI TO i1 i2 l1 l2 T k : Addr} {f : Bool} {xs ys : Array Value} {x y : Value} {Q : Option Value → Shared → Prop} (D : ZipApart z TI TO i1 i2 l1 l2) (Z : ZipAt s.heap z TI TO i1 i2 l1 l2 T f k xs ys) (hx : xs[k]? = some x) (hy : ys[k]? = some y) (nT : T ≠ z ∧ T ≠ i1 ∧ T ≠ i2)
    (q : ∀ h', ZipAt h' z TI TO i1 i2 l1 l2 T true (k + 1) xs ys → IsPair h' s.heap.objs.size x y → (∀ c o, c ≠ z → c ≠ i1 → c ≠ i2 → s.heap.get? c = some o → h'.get? c = some o) → Q (some (.ref s.heap.objs.size)) { s with heap := h' }) :
    wpAny (model prog w) A (pyNext (.ref z)) Q E s := by
  obtain ⟨hz, ⟨oT, hT⟩, hTI, h1, h2, hl1, hl2⟩ := Z
  have isZ : s.TypeIs (.ref z) "zip" := ⟨_, hz, rfl⟩
  unfold pyNext
  refine wpAny_bind (wpAny_attempt (wpAny_callSpecial?_slot (name := Str.ofString "__next__") isZ F.slot_zip_next (wpAny_call_entry F.slot_zip_next isZ F.entry_zip_next ?_ (F.args_zip_next_1 _))))
  change wpAny _ _ (field (.ref z) 2 >>= _) _ _ s
  refine wpAny_bind (wpAny_field hz rfl (x := .bool false) rfl ?_)
  change wpAny _ _ (field (.ref z) 3 >>= _) _ _ s
  refine wpAny_bind (wpAny_field hz rfl (x := .ref TI) rfl (wpAny_bind (wpAny_seqItems hTI rfl ?_)))
  change wpAny _ _ (Builtin.SmallTypes.ownedTupleIsFree (.ref z) >>= _) _ _ s
  refine wpAny_bind (wpAny_tupleHeld_zip hz hT fun ha hza sa => ?_)
  rw [if_neg Bool.false_ne_true]
  dsimp only
  refine wpAny_bind ?_
  rw [← Array.forIn_toList]
  dsimp only
  rw [List.forIn_cons]
  refine wpAny_bind (wpAny_bind (wpAny_holding ?_))
  change wpAny _ _ (Builtin.SmallTypes.nextOf (.ref i1) >>= _) _ _ _
  refine wpAny_bind (nextOf_tuple_item (s := { s with heap := ha }) (h1.extBut sa.extBut D.i1z) (hl1.extBut sa.extBut D.l1z) hx fun hb h1b sb => wpAny_pure (wpAny_pure ?_))
  dsimp only
  rw [List.forIn_cons]
  refine wpAny_bind (wpAny_bind (wpAny_holding ?_))
  change wpAny _ _ (Builtin.SmallTypes.nextOf (.ref i2) >>= _) _ _ _
  refine wpAny_bind (nextOf_tuple_item (s := { s with heap := hb }) ((h2.extBut sa.extBut D.i2z).extBut sb.extBut D.i12.symm) ((hl2.extBut sa.extBut D.l2z).extBut sb.extBut D.l2i1) hy fun hc h2c sc => wpAny_pure (wpAny_pure (wpAny_pure ?_)))
  change wpAny _ _ (newTuple [x, y] >>= _) _ _ _
  refine wpAny_bind (wpAny_newTuple (wpAny_pure ⟨_, rfl, ?_⟩))
  have keep : ∀ c o, c ≠ z → c ≠ i1 → c ≠ i2 → s.heap.get? c = some o → hc.get? c = some o := fun c o n1 n2 n3 e => sc.extBut _ _ n3 (sb.extBut _ _ n2 (sa.extBut _ _ n1 e))
  have size : hc.objs.size = s.heap.objs.size := by rw [sc.1, sb.1, sa.1]
  have up : ∀ {c o}, hc.get? c = some o → (hc.push { cls := .type "tuple", data := .seq #[x, y] }).get? c = some o := fun e => Heap.get?_push_of_some _ e
  have new : IsPair (hc.push { cls := .type "tuple", data := .seq #[x, y] }) hc.objs.size x y := Heap.get?_push_size _ rfl
  refine wpAny_pure ?_
  rw [size] at new
  show Q (some (.ref hc.objs.size)) _
  rw [size]
  refine q _ ⟨up (sc.extBut _ _ D.i2z.symm (sb.extBut _ _ D.i1z.symm hza)), ⟨oT, up (keep T oT nT.1 nT.2.1 nT.2.2 hT)⟩, up (keep TI _ D.TIz D.TIi1 D.TIi2 hTI), (h1b.extBut sc.extBut D.i12).at fun o e => up e, h2c.at fun o e => up e,
    hl1.at fun o e => up (keep l1 o D.l1z D.l1i1 D.l1i2 e), hl2.at fun o e => up (keep l2 o D.l2z D.l2i1 D.l2i2 e)⟩ new fun c o n1 n2 n3 e => up (keep c o n1 n2 n3 e)
theorem zip_done {z TI TO i1 i2 l1 l2 T k : Addr} {f : Bool} {xs ys : Array Value} {Q : Option Value → Shared → Prop} (free : A.handled = none) (D : ZipApart z TI TO i1 i2 l1 l2) (Z : ZipAt s.heap z TI TO i1 i2 l1 l2 T f k xs ys) (hx : xs[k]? = none)
    (q : ∀ h', (∀ c o, c ≠ z → c ≠ i1 → c ≠ i2 → s.heap.get? c = some o → h'.get? c = some o) → Q none { s with heap := h' }) : wpAny (model prog w) A (pyNext (.ref z)) Q E s := by
  obtain ⟨hz, ⟨oT, hT⟩, hTI, h1, h2, hl1, hl2⟩ := Z
  have isZ : s.TypeIs (.ref z) "zip" := ⟨_, hz, rfl⟩
  unfold pyNext
  refine wpAny_bind (wpAny_attempt (wpAny_callSpecial?_slot (name := Str.ofString "__next__") isZ F.slot_zip_next (wpAny_call_entry F.slot_zip_next isZ F.entry_zip_next ?_ (F.args_zip_next_1 _))))
  change wpAny _ _ (field (.ref z) 2 >>= _) _ _ s
  refine wpAny_bind (wpAny_field hz rfl (x := .bool false) rfl ?_)
  change wpAny _ _ (field (.ref z) 3 >>= _) _ _ s
  refine wpAny_bind (wpAny_field hz rfl (x := .ref TI) rfl (wpAny_bind (wpAny_seqItems hTI rfl ?_)))
  change wpAny _ _ (Builtin.SmallTypes.ownedTupleIsFree (.ref z) >>= _) _ _ s
  refine wpAny_bind (wpAny_tupleHeld_zip hz hT fun ha hza sa => ?_)
  rw [if_neg Bool.false_ne_true]
  dsimp only
  refine wpAny_bind ?_
  rw [← Array.forIn_toList]
  dsimp only
  rw [List.forIn_cons]
  refine wpAny_bind (wpAny_bind (wpAny_holding ?_))
  change wpAny _ _ (Builtin.SmallTypes.nextOf (.ref i1) >>= _) _ _ _
  refine wpAny_bind (nextOf_tuple_end (s := { s with heap := ha }) free (h1.extBut sa.extBut D.i1z) (hl1.extBut sa.extBut D.l1z) hx fun hb e eb ⟨o, ho, hc⟩ => ?_)
  refine wpAny_bind (wpAny_isInstance (T := "StopIteration") (b := true) ⟨o, ho, hc⟩ isSubtype_stop (wpAny_pure (q _ fun c o n1 n2 _ e => eb _ _ n2 (sa.extBut _ _ n1 e))))
/-- the turns of list.extend over it -/
theorem extend_zip {R : Result → Shared → Prop} {z TI TO i1 i2 l1 l2 T S : Addr} {xs ys : Array Value} {res : Value} (free : A.handled = none) (D : ZipApart z TI TO i1 i2 l1 l2) (nT : T ≠ z ∧ T ≠ i1 ∧ T ≠ i2) (nS : S ≠ z ∧ S ≠ TI ∧ S ≠ i1 ∧ S ≠ i2 ∧ S ≠ l1 ∧ S ≠ l2 ∧ S ≠ T)
    (same : xs.size = ys.size) (few : xs.size ≤ 1000) (lo : Addr) (hlo : lo ≤ z) (P0 : Addr → Prop) (h00 : ∀ c, P0 c → c ≠ z ∧ c ≠ i1 ∧ c ≠ i2 ∧ c ≠ S) : ∀ (m k : Nat) (s : Shared) (f : Bool) (ts : List Addr) (c0 : Nat), xs.size - k = m → k ≤ xs.size → ZipAt s.heap z TI TO i1 i2 l1 l2 T f k xs ys →
      s.heap.get? S = some { cls := .type "list", dict := none, data := .seq (ts.map Value.ref).toArray c0, slots := #[] } → ts.length = k → (∀ (i : Nat) (t : Addr), ts[i]? = some t → ∃ x y, xs[i]? = some x ∧ ys[i]? = some y ∧ IsPair s.heap t x y ∧ t ≠ z ∧ t ≠ i1 ∧ t ≠ i2 ∧ t ≠ S) → ts.Nodup → (∀ t ∈ ts, lo ≤ t) →
      (∀ h' (ts : List Addr) c1, h'.get? S = some { cls := .type "list", dict := none, data := .seq (ts.map Value.ref).toArray c1, slots := #[] } → ts.length = xs.size → (∀ (i : Nat) (t : Addr), ts[i]? = some t → ∃ x y, xs[i]? = some x ∧ ys[i]? = some y ∧ IsPair h' t x y) → ts.Nodup → (∀ t ∈ ts, lo ≤ t) →
        (∀ c o, P0 c → s.heap.get? c = some o → h'.get? c = some o) → R (.ok (.ret res)) { s with heap := h' }) →
      codeAny (model prog w) A (.builtin "list.extend.loop" ⟨[.ref S, .ref z, res], []⟩) R s := by
  intro m
  induction m with
  | zero =>
    intro k s f ts c0 e hk Z hS hl ht nd low fin
    obtain rfl : k = xs.size := by omega
    refine codeAny_builtin F.entry_extend_loop ?_
    rw [Around.under_plainId F.plain_extend_loop _]
    change wpAny _ A.in1 (pyNext (.ref z) >>= _) _ _ s
    refine wpAny_bind (zip_done (A := A.in1) free D Z (Array.getElem?_eq_none (Nat.le_refl _)) fun h' keep => ?_)
    refine wpAny_pure (fin h' ts c0 (keep S _ nS.1 nS.2.2.1 nS.2.2.2.1 hS) hl (fun i t hi => ?_) nd low fun c o hc e => ?_)
    · obtain ⟨x, y, a1, a2, a3, a4, a5, a6, _⟩ := ht i t hi
      exact ⟨x, y, a1, a2, keep t _ a4 a5 a6 a3⟩
    · obtain ⟨b1, b2, b3, _⟩ := h00 c hc
      exact keep c o b1 b2 b3 e
  | succ m ih =>
    intro k s f ts c0 e hk Z hS hl ht nd low fin
    have lt : k < xs.size := by omega
    refine codeAny_builtin F.entry_extend_loop ?_
    rw [Around.under_plainId F.plain_extend_loop _]
    change wpAny _ A.in1 (pyNext (.ref z) >>= _) _ _ s
    refine wpAny_bind (zip_alive (A := A.in1) D Z (x := xs[k]) (y := ys[k]) (Array.getElem?_eq_getElem lt) (Array.getElem?_eq_getElem (by omega)) nT fun h' Z' new keep => ?_)
    have hS' := keep S _ nS.1 nS.2.2.1 nS.2.2.2.1 hS
    change wpAny _ A.in1 (updateSeq S (·.push (.ref s.heap.objs.size)) >>= _) _ _ _
    refine wpAny_bind (wpAny_updateSeq hS' rfl (wpAny_pure ⟨plainId_quiet F.plain_extend_loop _, ?_⟩) (by rw [List.size_toArray, List.length_map, hl, sizeLine_eq]; omega) (by rw [Array.size_push, List.size_toArray, List.length_map, hl, sizeLine_eq]; omega))
    have at2 := Heap.get?_update_self (Obj.mapSeq (·.push (.ref s.heap.objs.size))) hS' rfl
    have oth : ∀ c o, c ≠ S → h'.get? c = some o → (h'.update S (Obj.mapSeq (·.push (.ref s.heap.objs.size)))).get? c = some o := fun c o n e => (Heap.get?_update_other _ _ (Ne.symm n)).trans e
    have big : ∀ {c o}, s.heap.get? c = some o → s.heap.objs.size ≠ c := fun e => Nat.ne_of_gt (Heap.lt_size e)
    obtain ⟨_, z1, _⟩ := Z.one
    obtain ⟨_, z2, _⟩ := Z.two
    obtain ⟨hz, ⟨oT, hT⟩, hTI, h1, h2, hl1, hl2⟩ := Z'
    obtain ⟨c2, at3⟩ : ∃ c2, (h'.update S (Obj.mapSeq (·.push (.ref s.heap.objs.size)))).get? S = some { cls := .type "list", dict := none, data := .seq ((ts ++ [s.heap.objs.size]).map Value.ref).toArray c2, slots := #[] } := by
      have push : (ts.map Value.ref).toArray.push (.ref s.heap.objs.size) = ((ts ++ [s.heap.objs.size]).map Value.ref).toArray := by simp
      have at3 := at2
      unfold Obj.mapSeq at at3
      dsimp only at at3
      rw [push] at at3
      exact ⟨_, at3⟩
    refine ih (k + 1) _ true (ts ++ [s.heap.objs.size]) c2 (by omega) lt ⟨oth _ _ nS.1.symm hz, ⟨oT, oth _ _ nS.2.2.2.2.2.2.symm hT⟩, oth _ _ nS.2.1.symm hTI, h1.at fun o e => oth _ o nS.2.2.1.symm e, h2.at fun o e => oth _ o nS.2.2.2.1.symm e, hl1.at fun o e => oth _ o nS.2.2.2.2.1.symm e, hl2.at fun o e => oth _ o nS.2.2.2.2.2.1.symm e⟩ at3 (by rw [List.length_append, hl]; rfl) (fun i t hi => ?_) (List.nodup_append.mpr ⟨nd, List.nodup_cons.mpr ⟨fun z => (by cases z), .nil⟩, fun a ha b hb e2 => ?_⟩) (fun t hm => ?_) fun h3 us c1 a1 a2 a3 a5 a6 a4 => fin h3 us c1 a1 a2 a3 a5 a6 fun c o hc e => ?_
    · by_cases hik : i < ts.length
      · rw [List.getElem?_append_left hik] at hi
        obtain ⟨x, y, b1, b2, b3, b4, b5, b6, b7⟩ := ht i t hi
        exact ⟨x, y, b1, b2, oth _ _ b7 (keep t _ b4 b5 b6 b3), b4, b5, b6, b7⟩
      · have hlt := (List.getElem?_eq_some_iff.mp hi).1
        rw [List.length_append, List.length_singleton] at hlt
        obtain rfl : i = ts.length := by omega
        rw [List.getElem?_append_right (Nat.le_refl _), Nat.sub_self] at hi
        obtain rfl : s.heap.objs.size = t := Option.some.inj hi
        rw [hl]
        exact ⟨_, _, Array.getElem?_eq_getElem lt, Array.getElem?_eq_getElem (by omega), oth _ _ (big hS) new, big Z.zip, big z1, big z2, big hS⟩
    · obtain ⟨i, hi⟩ := List.mem_iff_getElem?.mp ha
      obtain ⟨x, y, _, _, b3, _⟩ := ht i a hi
      rw [e2, List.mem_singleton.mp hb] at b3
      exact big b3 rfl
    · rcases List.mem_append.mp hm with hm | hm
      · exact low t hm
      · rw [List.mem_singleton.mp hm]
        exact Nat.le_of_lt (Nat.lt_of_le_of_lt hlo (Heap.lt_size Z.zip))
    · obtain ⟨b1, b2, b3, b4⟩ := h00 c hc
      exact a4 c o hc (oth c o b4 (keep c o b1 b2 b3 e))
theorem zip_no_len : typeLookup (.type "zip") "__len__" = pure none := am_miss_of_fast (by decide +kernel)
theorem zip_no_hint : typeLookup (.type "zip") "__length_hint__" = pure none := am_miss_of_fast (by decide +kernel)
theorem hint_zip {z : Addr} {Q : Bool → Shared → Prop} (isZ : s.TypeIs (.ref z) "zip") (h : Q true s) : wpAny (model prog w) A (Builtin.List.listLengthHint (.ref z)) Q E s := by
  unfold Builtin.List.listLengthHint
  refine wpAny_bind (wpAny_specialOf isZ zip_no_len ?_)
  refine wpAny_bind (wpAny_specialOf isZ zip_no_hint ?_)
  exact wpAny_pure h
theorem with_zip {R : Result → Shared → Prop} {z TI TO i1 i2 l1 l2 S lo : Addr} {xs ys : Array Value} {res a b : Value} {c0 : Nat} (free : A.handled = none) (D : ZipApart z TI TO i1 i2 l1 l2) (nS : S ≠ z ∧ S ≠ TI ∧ S ≠ i1 ∧ S ≠ i2 ∧ S ≠ l1 ∧ S ≠ l2 ∧ S ≠ TO)
    (same : xs.size = ys.size) (few : xs.size ≤ 1000) (some1 : 0 < xs.size) (hlo : lo ≤ z ∧ lo ≤ TO ∧ lo ≤ i1 ∧ lo ≤ i2 ∧ lo ≤ S) (hz : IsZip s.heap z TI TO .none) (hTI : IsPair s.heap TI (.ref i1) (.ref i2)) (hTO : IsPair s.heap TO a b)
    (h1 : s.heap.IsTupleIter i1 l1 0) (h2 : s.heap.IsTupleIter i2 l2 0) (hl1 : s.heap.IsTuple l1 xs) (hl2 : s.heap.IsTuple l2 ys) (hS : s.heap.get? S = some { cls := .type "list", dict := none, data := .seq #[] c0, slots := #[] })
    (fin : ∀ h' (ts : List Addr) c1, h'.get? S = some { cls := .type "list", dict := none, data := .seq (ts.map Value.ref).toArray c1, slots := #[] } → ts.length = xs.size → (∀ (i : Nat) (t : Addr), ts[i]? = some t → ∃ x y, xs[i]? = some x ∧ ys[i]? = some y ∧ IsPair h' t x y) → ts.Nodup → (∀ t ∈ ts, lo ≤ t ∧ t ≠ S) →
        (∀ c o, c < lo → s.heap.get? c = some o → h'.get? c = some o) → R (.ok (.ret res)) { s with heap := h' }) :
    wpAny (model prog w) A.in1 (Builtin.List.listExtendWith (.ref S) (.ref z) res)
      (fun fin s' => match fin with | .done f => R (.ok f) s' | .again c' => c'.quiet = true ∧ codeAny (model prog w) A c' R s') (fun e s' => R (.error e) s') s := by
  have isZ : s.TypeIs (.ref z) "zip" := ⟨_, hz, rfl⟩
  unfold Builtin.List.listExtendWith
  refine wpAny_bind (wpAny_typeOf isZ ?_)
  have d1 : Builtin.List.listSameRef (.ref S) (.ref z) = false := by simp [Builtin.List.listSameRef, nS.1]
  have d2 : (Value.type "zip" == Value.type "list") = false := by decide
  have d3 : (Value.type "zip" == Value.type "tuple") = false := by decide
  rw [d1, d2, d3, if_neg (show ¬((false || false || false) = true) from Bool.false_ne_true)]
  refine wpAny_bind (wpAny_pyIter_zip hz ?_)
  refine wpAny_bind (wpAny_holding (hint_zip isZ ?_))
  rw [if_pos (by rfl)]
  refine wpAny_bind (wpAny_rule (wpAny_bind ?_))
  change wpAny _ _ (updateSeq S (·.push .none) >>= fun _ => updateSeq S (·.pop)) _ _ _
  refine wpAny_bind (wpAny_updateSeq hS rfl ?_)
  have g1 := Heap.get?_update_self (Obj.mapSeq (·.push Value.none)) hS rfl
  refine wpAny_updateSeq (hz := by seq_fits) g1 rfl ?_
  have g2 := Heap.get?_update_self (Obj.mapSeq (·.pop)) g1 rfl
  have oth : ∀ c o, c ≠ S → s.heap.get? c = some o → ((s.heap.update S (Obj.mapSeq (·.push Value.none))).update S (Obj.mapSeq (·.pop))).get? c = some o := fun c o n e => (Heap.get?_update_other _ _ (Ne.symm n)).trans ((Heap.get?_update_other _ _ (Ne.symm n)).trans e)
  obtain ⟨c2, g3⟩ : ∃ c2, ((s.heap.update S (Obj.mapSeq (·.push Value.none))).update S (Obj.mapSeq (·.pop))).get? S = some { cls := .type "list", dict := none, data := .seq #[] c2, slots := #[] } := by
    have e := g2
    unfold Obj.mapSeq at e
    dsimp only at e
    rw [Array.pop_push] at e
    exact ⟨_, e⟩
  generalize (s.heap.update S (Obj.mapSeq (·.push Value.none))).update S (Obj.mapSeq (·.pop)) = h4 at g2 g3 oth
  refine wpAny_pure ⟨plainId_quiet F.plain_extend_loop _, ?_⟩
  -- the first pair
  have hz4 : IsZip h4 z TI TO .none := oth _ _ nS.1.symm hz
  have hTI4 : IsPair h4 TI (.ref i1) (.ref i2) := oth _ _ nS.2.1.symm hTI
  have hTO4 : IsPair h4 TO a b := oth _ _ nS.2.2.2.2.2.2.symm hTO
  have h14 : h4.IsTupleIter i1 l1 0 := h1.at fun o e => oth _ o nS.2.2.1.symm e
  have h24 : h4.IsTupleIter i2 l2 0 := h2.at fun o e => oth _ o nS.2.2.2.1.symm e
  have hl14 : h4.IsTuple l1 xs := hl1.at fun o e => oth _ o nS.2.2.2.2.1.symm e
  have hl24 : h4.IsTuple l2 ys := hl2.at fun o e => oth _ o nS.2.2.2.2.2.1.symm e
  refine codeAny_builtin F.entry_extend_loop ?_
  rw [Around.under_plainId F.plain_extend_loop _]
  change wpAny _ A.in1 (pyNext (.ref z) >>= _) _ _ _
  refine wpAny_bind (pyNext_zipT_item (A := A.in1) (s := { s with heap := h4 }) D hz4 hTI4 hTO4 h14 h24 hl14 hl24 (x := xs[0]) (y := ys[0]) (Array.getElem?_eq_getElem some1) (Array.getElem?_eq_getElem (by omega)) fun h5 a1 a2 a3 a4 a5 a6 keep => ?_)
  dsimp only at a1 a5 a6 keep
  have big : ∀ {c o}, h4.get? c = some o → h4.objs.size ≠ c := fun e => Nat.ne_of_gt (Heap.lt_size e)
  obtain ⟨o1, w1, _⟩ := h14
  obtain ⟨o2, w2, _⟩ := h24
  have hS5 := keep S _ nS.1 nS.2.2.2.2.2.2 nS.2.2.1 nS.2.2.2.1 g3
  change wpAny _ A.in1 (updateSeq S (·.push (.ref h4.objs.size)) >>= _) _ _ _
  refine wpAny_bind (wpAny_updateSeq hS5 rfl (wpAny_pure ⟨plainId_quiet F.plain_extend_loop _, ?_⟩) (Nat.zero_le _) (by rw [sizeLine_eq]; exact Nat.le_of_ble_eq_true rfl))
  have at2 := Heap.get?_update_self (Obj.mapSeq (·.push (.ref h4.objs.size))) hS5 rfl
  have oth2 : ∀ c o, c ≠ S → h5.get? c = some o → (h5.update S (Obj.mapSeq (·.push (.ref h4.objs.size)))).get? c = some o := fun c o n e => (Heap.get?_update_other _ _ (Ne.symm n)).trans e
  have nTS : h4.objs.size ≠ S := big g3
  refine extend_zip free D (T := h4.objs.size) ⟨big hz4, big w1, big w2⟩ ⟨nS.1, nS.2.1, nS.2.2.1, nS.2.2.2.1, nS.2.2.2.2.1, nS.2.2.2.2.2.1, nTS.symm⟩ same few lo hlo.1 (fun c => c < lo) (fun c hc => ?_) (xs.size - 1) 1 _ false [h4.objs.size] _ rfl some1
    ⟨oth2 _ _ nS.1.symm a1, ⟨_, oth2 _ _ nTS a5⟩, oth2 _ _ nS.2.1.symm (keep TI _ D.TIz D.TITO D.TIi1 D.TIi2 hTI4), a3.at fun o e => oth2 _ o nS.2.2.1.symm e, a4.at fun o e => oth2 _ o nS.2.2.2.1.symm e, (hl14.at fun o e => keep l1 o D.l1z D.l1TO D.l1i1 D.l1i2 e).at fun o e => oth2 _ o nS.2.2.2.2.1.symm e, (hl24.at fun o e => keep l2 o D.l2z D.l2TO D.l2i1 D.l2i2 e).at fun o e => oth2 _ o nS.2.2.2.2.2.1.symm e⟩
    at2 rfl (fun i t hi => ?_) (List.nodup_cons.mpr ⟨fun z => (by cases z), .nil⟩) (fun t ht => ?_) fun h6 ts c3 b1 b2 b3 b4 b5 b6 => fin h6 ts c3 b1 b2 b3 b4 (fun t ht => ⟨b5 t ht, fun c => ?_⟩) fun c o hc e => ?_
  · exact ⟨fun z => absurd (z ▸ hc) (Nat.not_lt.mpr hlo.1), fun z => absurd (z ▸ hc) (Nat.not_lt.mpr hlo.2.2.1), fun z => absurd (z ▸ hc) (Nat.not_lt.mpr hlo.2.2.2.1), fun z => absurd (z ▸ hc) (Nat.not_lt.mpr hlo.2.2.2.2)⟩
  · have hlt := (List.getElem?_eq_some_iff.mp hi).1
    obtain rfl : i = 0 := Nat.lt_one_iff.mp hlt
    obtain rfl : h4.objs.size = t := Option.some.inj hi
    exact ⟨_, _, Array.getElem?_eq_getElem some1, Array.getElem?_eq_getElem (by omega), oth2 _ _ nTS a5, big hz4, big w1, big w2, nTS⟩
  · rw [List.mem_singleton.mp ht]
    exact Nat.le_of_lt (Nat.lt_of_le_of_lt hlo.1 (Heap.lt_size hz4))
  · obtain ⟨i, hi⟩ := List.mem_iff_getElem?.mp ht
    obtain ⟨x, y, _, _, e⟩ := b3 i t hi
    rw [c] at e
    have z := congrArg (Option.map Obj.cls) (b1.symm.trans e)
    simp at z
  · have n1 : c ≠ S := fun z => absurd (z ▸ hc) (Nat.not_lt.mpr hlo.2.2.2.2)
    exact b6 c o hc (oth2 c o n1 (keep c o (fun z => absurd (z ▸ hc) (Nat.not_lt.mpr hlo.1)) (fun z => absurd (z ▸ hc) (Nat.not_lt.mpr hlo.2.1)) (fun z => absurd (z ▸ hc) (Nat.not_lt.mpr hlo.2.2.1)) (fun z => absurd (z ▸ hc) (Nat.not_lt.mpr hlo.2.2.2.1)) (oth c o n1 e)))
theorem list_of_zip {z TI TO i1 i2 l1 l2 lo : Addr} {xs ys : Array Value} {a b : Value} {Q : Value → Shared → Prop} (free : A.handled = none) (D : ZipApart z TI TO i1 i2 l1 l2) (same : xs.size = ys.size) (few : xs.size ≤ 1000) (some1 : 0 < xs.size)
    (hlo : lo ≤ z ∧ lo ≤ TO ∧ lo ≤ i1 ∧ lo ≤ i2) (hz : IsZip s.heap z TI TO .none) (hTI : IsPair s.heap TI (.ref i1) (.ref i2)) (hTO : IsPair s.heap TO a b) (h1 : s.heap.IsTupleIter i1 l1 0) (h2 : s.heap.IsTupleIter i2 l2 0) (hl1 : s.heap.IsTuple l1 xs) (hl2 : s.heap.IsTuple l2 ys)
    (fin : ∀ h' (ts : List Addr) c1, h'.get? s.heap.objs.size = some { cls := .type "list", dict := none, data := .seq (ts.map Value.ref).toArray c1, slots := #[] } → ts.length = xs.size → (∀ (i : Nat) (t : Addr), ts[i]? = some t → ∃ x y, xs[i]? = some x ∧ ys[i]? = some y ∧ IsPair h' t x y) → ts.Nodup → (∀ t ∈ ts, lo ≤ t ∧ t ≠ s.heap.objs.size) →
        (∀ c o, c < lo → s.heap.get? c = some o → h'.get? c = some o) → Q (.ref s.heap.objs.size) { s with heap := h' }) :
    wpAny (model prog w) A (call (.type "list") [.ref z]) Q E s := by
  refine callType_codes (Q₁ := fun o s1 => o = .ref s.heap.objs.size ∧ s1 = { s with heap := s.heap.push { cls := .type "list", data := .seq #[] } }) F.called_list (F.typeCall_list_1 _) F.entry_list_init (code_list_new _ ⟨rfl, rfl⟩) fun o s1 e => ?_
  obtain ⟨rfl, rfl⟩ := e
  have new : (s.heap.push { cls := .type "list", data := .seq #[] }).get? s.heap.objs.size = some { cls := .type "list", dict := none, data := .seq #[], slots := #[] } := Heap.get?_push_size _ rfl
  refine ⟨⟨_, new, rfl⟩, F.args_list_init_2 _ _, ?_⟩
  change wpAny _ _ (Builtin.List.listItems (.ref s.heap.objs.size) >>= fun old => Builtin.List.listUpdate (.ref s.heap.objs.size) (fun _ => #[]) >>= fun _ => letGo old.toList.reverse >>= fun _ => Builtin.List.listExtendWith (.ref s.heap.objs.size) (.ref z) .none) _ _ _
  unfold Builtin.List.listItems
  refine wpAny_bind (wpAny_bind (wpAny_seqItems new rfl (wpAny_pure ?_)))
  change wpAny _ _ (updateSeq s.heap.objs.size (fun _ => #[]) >>= _) _ _ _
  refine wpAny_bind (wpAny_updateSeq new rfl ?_)
  have g2 := Heap.get?_update_self (Obj.mapSeq (fun _ => (#[] : Array Value))) new rfl
  have up : ∀ c o, s.heap.get? c = some o → ((s.heap.push { cls := .type "list", data := .seq #[] }).update s.heap.objs.size (Obj.mapSeq (fun _ => (#[] : Array Value)))).get? c = some o := fun c o e => (Heap.get?_update_other _ _ (Nat.ne_of_gt (Heap.lt_size e))).trans (Heap.get?_push_of_some _ e)
  have big : ∀ {c o}, s.heap.get? c = some o → s.heap.objs.size ≠ c := fun e => Nat.ne_of_gt (Heap.lt_size e)
  obtain ⟨o1, w1, r1⟩ := h1
  obtain ⟨o2, w2, r2⟩ := h2
  obtain ⟨o3, w3, r3⟩ := hl1
  obtain ⟨o4, w4, r4⟩ := hl2
  refine wpAny_bind (wpAny_letGo (with_zip (A := A.in1) (S := s.heap.objs.size) (lo := lo) free D ⟨big hz, big hTI, big w1, big w2, big w3, big w4, big hTO⟩ same few some1 ⟨hlo.1, hlo.2.1, hlo.2.2.1, hlo.2.2.2, Nat.le_of_lt (Nat.lt_of_le_of_lt hlo.1 (Heap.lt_size hz))⟩ (up _ _ hz) (up _ _ hTI) (up _ _ hTO) ⟨o1, up _ _ w1, r1⟩ ⟨o2, up _ _ w2, r2⟩ ⟨o3, up _ _ w3, r3⟩ ⟨o4, up _ _ w4, r4⟩ g2
    fun h' ts c1 b1 b2 b3 b4 b5 b6 => ⟨rfl, fin h' ts c1 b1 b2 b3 b4 b5 fun c o hc e => b6 c o hc (up c o e)⟩))
end
end PlayL
set_option Elab.async false
set_option linter.all false
set_option maxRecDepth 100000
set_option maxHeartbeats 1000000
namespace L2
open PySem PySem.Spec PyProof.Rows RZ
/-- list(zip(a, b)), two tuples of one length, not empty: a new list of new pairs -/
def tListZip (K : PySem.W.Frag) (ta : TA) : TE := fun σ H Q => ta σ H fun vs H1 => ∃ a b xs ys, vs = [.ref a, .ref b] ∧ SqT K H1 a xs ∧ SqT K H1 b ys ∧ xs.length = ys.length ∧ 0 < xs.length ∧ xs.length ≤ 1000 ∧
  ∀ H2 p (ts : List Addr), Same H1 H2 → H1 p = none → H2 p = some (.lst (ts.map V.ref)) → Paired (fun t (q : V × V) => H2 t = some (.tup [q.1, q.2])) ts (xs.zip ys) → Q (.ref p) H2
theorem paired_of_ix {α β : Type} {F : α → β → Prop} : ∀ {xs : List α} {ys : List β}, xs.length = ys.length → (∀ (i : Nat) a b, xs[i]? = some a → ys[i]? = some b → F a b) → Paired F xs ys
  | [], [], _, _ => .nil
  | [], _ :: _, h, _ => by cases h
  | _ :: _, [], h, _ => by cases h
  | a :: xs, b :: ys, h, f => .cons (f 0 a b rfl rfl) (paired_of_ix (Nat.succ.inj h) fun i x y hx hy => f (i + 1) x y hx hy)
section
variable {X : Cx}
theorem pe_listZip {e1 e2 : Expr} {ta : TA} {p p2 q pos : Pos} (hc : X.calm = true) (hg : Gl X "list") (hm : X.mg "list" = none) (hg2 : Gl X "zip") (hm2 : X.mg "zip" = none) (ha : PA X [e1, e2] ta)
    (hs : starEach [e1, e2] X.env = (false, eval e1 X.env) :: starEach [e2] X.env := by rfl) (hpl : (backTo q (starEach [e2] X.env)).any (·.1) = false := by rfl)
    (na : starEach [.Call (.Name "zip" p2) [e1, e2] [] q] X.env = (false, eval (.Call (.Name "zip" p2) [e1, e2] [] q) X.env) :: starEach [] X.env := by rfl) :
    PE X (.Call (.Name "list" p) [.Call (.Name "zip" p2) [e1, e2] [] q] [] pos) (tListZip X.K ta) := by
  refine ⟨fun pins s σ H Q I h => ?_⟩
  refine Call_ (ld_blt I hg hm boot_list ?_)
  refine callWith_type1 (args_cons ?_ na) na rfl
  refine Call_ (ld_blt I hg2 hm2 boot_zip ?_)
  refine callWith_type1 ?_ hs hpl
  refine thn (ha.run q pins s σ H _ I h) fun us s1 ⟨vs, H1, I1, r1, q1⟩ => ?_
  obtain ⟨a, b, xs, ys, rfl, hx, hy, same, pos1, few, q1⟩ := q1
  obtain ⟨u1, us, rfl, ra, rr⟩ : ∃ u1 us', us = u1 :: us' ∧ RelV (.ref a) u1 ∧ Vals [.ref b] us' := by
    cases r1 with
    | cons r rr => exact ⟨_, _, rfl, r, rr⟩
  obtain ⟨u2, rfl, rb⟩ := vals1 rr
  obtain rfl : u1 = .ref a := ra
  obtain rfl : u2 = .ref b := rb
  obtain ⟨its, rv, p1, _⟩ := I1.tuple hx
  obtain ⟨its2, rv2, p2, _⟩ := I1.tuple hy
  obtain ⟨o1, ho1, t1⟩ := id p1
  obtain ⟨o2, ho2, t2⟩ := id p2
  have l1 := rv.length
  have l2 := rv2.length
  refine call_zipT (show s1.heap.IsTuple a its.toArray from p1) (show s1.heap.IsTuple b its2.toArray from p2) fun h' hz hTI hTO h1 h2 hsz hk => args_nil ?_
  have D := PySem.W.ktu_apart s1.heap.objs.size a b (Heap.lt_size ho1) (Heap.lt_size ho2)
  refine PlayL.list_of_zip (s := { s1 with heap := h' }) (lo := s1.heap.objs.size) (I1.ok.hd hc) D (xs := its.toArray) (ys := its2.toArray) (by rw [List.size_toArray, List.size_toArray]; omega) (by rw [List.size_toArray]; omega) (by rw [List.size_toArray]; omega) ⟨Nat.le_add_right _ _, Nat.le_add_right _ _, Nat.le_refl _, Nat.le_add_right _ _⟩ hz hTI hTO h1 h2 ⟨o1, hk _ _ ho1, t1⟩ ⟨o2, hk _ _ ho2, t2⟩ fun h3 ts c1 e1 e2 e3 e4 e5 e6 => ?_
  have keep : ∀ c o, s1.heap.get? c = some o → h3.get? c = some o := fun c o e => e6 c o (Heap.lt_size e) (hk c o e)
  have low : s1.heap.objs.size ≤ h'.objs.size := by rw [hsz]; exact Nat.le_add_right _ _
  have few2 : ts.length ≤ 1000 := by rw [e2, List.size_toArray]; omega
  have I2 : Inv X pins σ (upd H1 h'.objs.size (.lst (ts.map V.ref))) { s1 with heap := h3, toks := s1.toks } := I1.laid keep low ⟨by rw [List.length_map, sizeLine_eq]; omega, ts.map Value.ref, c1, LiI.vals_refs ts, e1⟩
  have f0 : H1 h'.objs.size = none := I1.hok.fresh low
  obtain ⟨H2, I3, g, qt⟩ := DX.takeT (P := fun t vs => ∃ (i : Nat) (x y : V), ts[i]? = some t ∧ xs[i]? = some x ∧ ys[i]? = some y ∧ vs = [x, y]) I1 ts _ I2 e4 fun t ht => by
    obtain ⟨lo, ne⟩ := e5 t ht
    obtain ⟨i, hi⟩ := List.mem_iff_getElem?.mp ht
    obtain ⟨u1, u2, w1, w2, pr⟩ := e3 i t hi
    have hlt : i < its.length := by
      have := (List.getElem?_eq_some_iff.mp hi).1
      rw [e2, List.size_toArray] at this
      exact this
    obtain ⟨x, hx1⟩ : ∃ x, xs[i]? = some x := ⟨_, List.getElem?_eq_getElem (by omega)⟩
    obtain ⟨y, hy1⟩ : ∃ y, ys[i]? = some y := ⟨_, List.getElem?_eq_getElem (by omega)⟩
    obtain ⟨v1, a1, r1⟩ := L2.paired_get rv hx1
    obtain ⟨v2, a2, r2⟩ := L2.paired_get rv2 hy1
    rw [List.getElem?_toArray, a1] at w1
    rw [List.getElem?_toArray, a2] at w2
    obtain rfl := Option.some.inj w1
    obtain rfl := Option.some.inj w2
    exact ⟨lo, by rw [upd_ne ne]; exact I1.hok.fresh lo, [x, y], ⟨i, x, y, hi, hx1, hy1, rfl⟩, fun H2 => ⟨by show 2 ≤ sizeLine; decide, [v1, v2], .cons r1 (.cons r2 .nil), ⟨_, pr, rfl, _, rfl⟩⟩⟩
  refine ⟨.ref h'.objs.size, H2, I3, rfl, q1 H2 h'.objs.size ts (fun c o e => g c o ((upd_ne (ne_of_none e f0)).trans e)) f0 (g _ _ upd_same) ?_⟩
  refine paired_of_ix (by rw [List.length_zip, e2, List.size_toArray]; omega) fun i t p hi hp => ?_
  obtain ⟨vs, ⟨j, x, y, b1, b2, b3, rfl⟩, b4⟩ := qt t (List.mem_of_getElem? hi)
  obtain rfl : i = j := (List.getElem?_inj (List.getElem?_eq_some_iff.mp hi).1 e4).mp (hi.trans b1.symm)
  have z := List.getElem?_zip_eq_some.mp hp
  rw [b2, b3] at z
  obtain rfl := Option.some.inj z.1
  obtain rfl := Option.some.inj z.2
  exact b4
end
end L2
set_option Elab.async false
set_option linter.all false
set_option maxRecDepth 100000
set_option maxHeartbeats 2000000
namespace PlayL
open PySem PySem.Spec PyProof.Rows L2
section
variable {prog : Program} {w : World} {A : Around} {E : Value → Shared → Prop} {s : Shared} {T : String} {r d : Addr} {n : Nat} {P : Nat → Value → Prop} {OK : Heap → Prop}
/-- what a walk gives, gathered -/
theorem gather {Q : List Value → Shared → Prop} (K : W.KdlSrc prog w T r d n P OK) (free : A.handled = none) (ok : OK s.heap) (hn : n ≤ sizeLine)
    (q : ∀ (h' : Heap) (tk : Nat) (acc : Array Value), (∀ b o, s.heap.get? b = some o → h'.get? b = some o) → ItemsOf P acc n → Q acc.toList { s with heap := h', toks := tk }) : wpAny (model prog w) A (collect (.ref r)) Q E s := by
  unfold collect
  refine wpAny_bind (wpAny_runValue (codeAny_builtin F.entry_proto_collect ?_))
  rw [Around.under_plainId F.plain_proto_collect _]
  change wpAny _ A.in1 (newList [] >>= fun l => again (Code.builtin "list.__iadd__" ⟨[l, .ref r], []⟩)) _ _ s
  refine wpAny_bind (wpAny_newObj_type (wpAny_pure ⟨plainId_quiet F.plain_list_iadd _, codeAny_builtin F.entry_list_iadd ?_⟩))
  rw [Around.under_plainId F.plain_list_iadd _]
  change wpAny _ A.in1 (Builtin.List.listExtendWith (.ref s.heap.objs.size) (.ref r) (.ref s.heap.objs.size)) _ _ _
  have new : (s.heap.push { cls := .type "list", data := .seq ([] : List Value).toArray }).get? s.heap.objs.size = some { cls := .type "list", data := .seq #[] 0 } := Heap.get?_push_size _ rfl
  have lt := K.there _ ok
  refine wpAny_mono (W.kdl_extend (A := A) (R := fun rr s' => rr = .ok (.ret (.ref s.heap.objs.size)) ∧ ∃ (h' : Heap) (tk : Nat) (acc : Array Value) (c : Nat), s' = { s with heap := h', toks := tk } ∧ (∀ b o, s.heap.get? b = some o → h'.get? b = some o) ∧ h'.get? s.heap.objs.size = some { cls := .type "list", dict := none, data := .seq acc c, slots := #[] } ∧ ItemsOf P acc n)
    (s := { s with heap := s.heap.push { cls := .type "list", data := .seq ([] : List Value).toArray } }) K free (K.keep _ _ ok fun b _ o e => Heap.get?_push_of_some _ e) _ (Nat.ne_of_gt lt.1) (Nat.ne_of_gt lt.2) _ 0 new
    (fun h' tk acc c k e it => ⟨rfl, h', tk, acc, c, rfl, fun b o z => k b o (Nat.ne_of_lt (Heap.lt_size z)) (Heap.get?_push_of_some _ z), e, it⟩) hn) (fun f s' h => ?_) (fun e s' h => (nomatch h.1))
  match f, h with
  | .done f, ⟨e, h', tk, acc, c, e2, k, at_, it⟩ =>
    cases e
    cases e2
    change wpAny _ A (load s.heap.objs.size >>= _) _ _ _
    exact wpAny_bind (wpAny_load at_ (wpAny_pure (q h' tk acc k it)))
  | .again c', ⟨quiet, h⟩ =>
    refine ⟨quiet, codeAny_mono h fun rr s2 h2 => ?_⟩
    obtain ⟨rfl, h', tk, acc, c, rfl, k, at_, it⟩ := h2
    change wpAny _ A (load s.heap.objs.size >>= _) _ _ _
    exact wpAny_bind (wpAny_load at_ (wpAny_pure (q h' tk acc k it)))
theorem tuple_of_dict {Q : Value → Shared → Prop} (K : W.KdlSrc prog w "dict" d d n P OK) (free : A.handled = none) (ok : OK s.heap) (hn : n ≤ sizeLine)
    (q : ∀ (h' : Heap) (tk : Nat) (acc : Array Value), (∀ b o, s.heap.get? b = some o → h'.get? b = some o) → ItemsOf P acc n → Q (.ref h'.objs.size) { s with heap := h'.push { cls := .type "tuple", data := .seq acc }, toks := tk }) :
    wpAny (model prog w) A (call (.type "tuple") [.ref d]) Q E s := by
  refine callType_codes (Q₁ := fun o s1 => s1.TypeIs o "tuple" ∧ Q o s1) F.called_tuple (F.typeCall_tuple_1 _) F.entry_object_init (codeAny_of_tree ?_) fun o s1 h1 => ⟨h1.1, F.args_object_init_2 o _, object_init_meets F.called_tuple.init.lookup F.called_tuple.made (by decide) prog w A.in1 _ s1 ⟨h1.1, rfl, h1.2⟩⟩
  change wpAny _ A.in1.in1 (checkBuiltinCall "tuple.__new__" ⟨[.type "tuple", .ref d], []⟩ >>= fun _ => again (Code.builtin "tuple.__new__" ⟨[.type "tuple", .ref d], []⟩)) _ _ s
  refine wpAny_bind (wpAny_of_eq (F.newCall_tuple_1 _) (wpAny_pure ⟨plainId_quiet F.plain_tuple_new _, codeAny_builtin F.entry_tuple_new ?_⟩))
  rw [Around.under_plainId F.plain_tuple_new _]
  have f1 := sub_tuple_self
  have f2 := init_tuple_lookup
  have f3 := madeHere_tuple
  have isD := K.type s ok
  have free2 : A.in1.in1.handled = none := free
  wp_walk using wpAny_typeOf isD, gather K free2 ok hn
  intro h' tk acc keep it
  change wpAny _ _ (Builtin.Tuple.tupleExact acc.toList.toArray >>= fun v => ret v) _ _ _
  unfold Builtin.Tuple.tupleExact
  rw [Array.toArray_toList]
  refine wpAny_bind (wpAny_newObj_type (wpAny_pure ?_) (by show acc.size ≤ sizeLine; rw [it.1]; exact hn))
  exact ⟨⟨_, Heap.get?_push_size _ rfl, rfl⟩, q h' tk acc keep it⟩
end
end PlayL
namespace L2
open PySem PySem.Spec PyProof.Rows
section
variable {X : Cx}
/-- tuple(d): its keys -/
def rTupD : List V → Hp → VK → Prop := fun xs H Q => ∃ (a : Addr) (kvs : List (Key × V)), xs = [.ref a] ∧ Rd H a (.dK kvs) ∧ ∀ p, H p = none → Q (.ref p) (upd H p (.tup (kvs.map fun kv => kV kv.1)))
theorem call_tupD (hc : X.calm = true) : CallR X (.type "tuple") rTupD := by
  intro pins s σ H xs us Q I r q
  obtain ⟨a, kvs, rfl, hd, q⟩ := q
  obtain ⟨u, rfl, rx⟩ := vals1 r
  obtain rfl : u = .ref a := rx
  obtain ⟨z, lo, vs, rel, dd⟩ := dk_rd I.hok hd
  obtain ⟨ep, hat⟩ := dd.dictAt
  have ek : (kvs.map fun kv => kV kv.1) = vs.map fun p => kV p.1 := by
    have e := congrArg (List.map kV) rel.keys
    rwa [List.map_map, List.map_map] at e
  refine PlayL.tuple_of_dict (PySem.W.kdl_dict (knd := mixKind X.prog X.w) (kvs := vs) (ep := ep) lo) (I.ok.hd hc) hat (rel.length ▸ z) fun h' tk acc keep it => ?_
  have hv : Vals (vs.map fun p => kV p.1) acc.toList := keys_at (by rw [Array.length_toList]; exact it.1) fun j v e => it.2 j v (by rw [← Array.getElem?_toList]; exact e)
  have I1 : Inv X pins σ H { s with heap := h', toks := tk } := I.kept keep
  have f0 := I1.hok.fresh (Nat.le_refl h'.objs.size)
  refine ⟨.ref h'.objs.size, upd H h'.objs.size (.tup (kvs.map fun kv => kV kv.1)), I1.laid (t' := tk) (fun b o e => Heap.get?_push_of_some _ e) (Nat.le_refl _) ?_, rfl, q _ f0⟩
  exact ⟨by rw [List.length_map]; exact z, acc.toList, by rw [ek]; exact hv, _, Heap.get?_push_size _ rfl, rfl, 0, by rw [Array.toArray_toList]⟩
/-- the view d.values() at p -/
def valuesO (p d : Addr) : HO := .ext fun h => h.IsValuesView p d
/-- d.values() -/
def rVals : V → List V → Hp → VK → Prop := fun x xs H Q => ∃ (a : Addr) (kvs : List (Key × V)), x = .ref a ∧ xs = [] ∧ H a = some (.dK kvs) ∧ ∀ p, H p = none → Q (.ref p) (upd H p (valuesO p a))
theorem mt_values : MtR X "dict.values" rVals := by
  intro pins s σ H x xs v us Q I rx rxs h
  obtain ⟨a, kvs, rfl, rfl, ha, q⟩ := h
  obtain rfl : v = .ref a := rx
  cases rxs
  obtain ⟨z, lo, vs, rel, dd⟩ := dk_of I.hok ha
  refine call_meetsIn PySem.F.slot_dict_values dd.typeIs PySem.F.entry_dict_values (PySem.F.args_dict_values_1 _) (meets_dict_values (mixKind X.prog X.w) a lo) ⟨⟨vs, dd⟩, ?_⟩
  have f0 := I.hok.fresh (Nat.le_refl s.heap.objs.size)
  have at_ : (s.heap.push { cls := .type "dict_values", data := .fields #[.ref a] }).get? s.heap.objs.size = some { cls := .type "dict_values", data := .fields #[.ref a] } := Heap.get?_push_size _ rfl
  exact ⟨.ref s.heap.objs.size, upd H s.heap.objs.size (valuesO s.heap.objs.size a), I.laid (t' := s.toks) (fun b o e => Heap.get?_push_of_some _ e) (Nat.le_refl _) ⟨⟨_, at_, rfl, rfl⟩, ⟨_, at_⟩, fun h1 h2 ⟨o, ho, r⟩ k => ⟨o, k o ho, r⟩⟩, rfl, q _ f0⟩
/-- list(d.values()) -/
def rListV : List V → Hp → VK → Prop := fun xs H Q => ∃ (p a : Addr) (kvs : List (Key × V)), xs = [.ref p] ∧ H p = some (valuesO p a) ∧ H a = some (.dK kvs) ∧ ∀ q, H q = none → Q (.ref q) (upd H q (.lst (kvs.map (·.2))))
theorem call_listV (hc : X.calm = true) : CallR X (.type "list") rListV := by
  intro pins s σ H xs us Q I r q
  obtain ⟨p, a, kvs, rfl, hp, ha, q⟩ := q
  obtain ⟨u, rfl, rx⟩ := vals1 r
  obtain rfl : u = .ref p := rx
  obtain ⟨z, lo, vs, rel, dd⟩ := dk_of I.hok ha
  obtain ⟨ep, hat⟩ := dd.dictAt
  have hv : s.heap.IsValuesView p a := (I.hok p _ hp).1
  refine PySem.W.kdl_call (PySem.W.kdl_values (knd := mixKind X.prog X.w) (kvs := vs) (ep := ep)) (I.ok.hd hc) ⟨hv, hat⟩ (rel.length ▸ z) fun h' tk acc c' keep at_ it => ?_
  have len : acc.toList.length = kvs.length := by rw [Array.length_toList, it.1, rel.length]
  have vals : Vals (kvs.map (·.2)) acc.toList := paired_of_ix (by rw [List.length_map, len]) fun i x y hx hy => by
    rw [List.getElem?_map] at hx
    cases e : kvs[i]? with
    | none =>
      rw [e] at hx
      cases hx
    | some kv =>
      rw [e] at hx
      obtain rfl := Option.some.inj hx
      obtain ⟨k, w1⟩ := it.2 i y (by rw [← Array.getElem?_toList]; exact hy)
      obtain ⟨q1, w2, w3⟩ := L2.paired_get rel e
      rw [w1] at w2
      obtain rfl := Option.some.inj w2
      exact w3.2
  refine ⟨.ref s.heap.objs.size, upd H s.heap.objs.size (.lst (kvs.map (·.2))), I.laid (t' := tk) keep (Nat.le_refl _) ⟨by rw [List.length_map]; exact z, acc.toList, c', vals, by rw [Array.toArray_toList]; exact at_⟩, rfl, q _ (I.hok.fresh (Nat.le_refl _))⟩
end
end L2
set_option Elab.async false
set_option linter.all false
set_option maxRecDepth 100000
set_option maxHeartbeats 1000000
namespace L2
open PySem PySem.Spec PyProof.Rows
section
variable {X : Cx}
/-- {(.., ..): v}, a dict of one entry whose key is a tuple -/
def tDispT (tk tv : TE) : TE := fun σ H Q => ∀ p, H p = none → tk σ (upd H p (.dT [])) fun kx H1 => tv σ H1 fun vx H2 => H2 p = some (.dT []) ∧ ∃ b k, kx = .ref b ∧ H2 b = some (.tup (k.map kV)) ∧ Q (.ref p) (upd H2 p (.dT [(k, vx)]))
theorem pe_dispT {ke ve : Expr} {tk tv : TE} {pos : Pos} (hu : X.A.units + 1 < cLine) (hk : PE X ke tk) (hv : PE X ve tv) : PE X (.Dict [some ke] [ve] pos) (tDispT tk tv) := by
  refine ⟨fun pins s σ H Q I q => ?_⟩
  have f0 := I.hok.fresh (Nat.le_refl s.heap.objs.size)
  have I1 := I.laid (a := s.heap.objs.size) (o := .dT []) (h' := s.heap.push { cls := .type "dict", data := .dict #[] }) (t' := s.toks) (fun _ _ q => Heap.get?_push_of_some _ q) (Nat.le_refl _) (dt_empty s.heap I.big)
  have shape := zip_pairTrees [some ke] [ve] X.env pos rfl rfl
  have len := pairTrees_length [some ke] [ve] X.env pos rfl rfl
  rw [arm_eval_Dict, shape, dictDisplay_pairs _ (fun z => by rw [z] at len; cases len) (len ▸ (by decide : (1 : Nat) < 17))]
  refine wpAny_bind (wpAny_standAt (wpAny_bind ?_))
  unfold subDict
  refine wpAny_bind (wpAny_alloc (wpAny_bind (wpAny_holding ?_)))
  rw [if_pos (len ▸ (by decide : (1 : Nat) ≤ 15))]
  refine wpAny_bind (pairTrees_cons_walk (thn (hk.run pins _ σ _ _ I1 (q _ f0)) fun kv s1 ⟨kx, H1, I1, rk, q1⟩ => thn (hv.run pins s1 σ H1 _ I1 q1) fun vv s2 ⟨vx, H2, I2, rv, at_, b, k, ek, hb, q2⟩ => pairTrees_nil_walk ?_))
  subst ek
  obtain rfl : kv = .ref b := rk
  refine wpAny_holding ?_
  rw [List.forIn_cons]
  refine wpAny_bind (wpAny_bind (wpAny_bind ?_))
  obtain ⟨z, hd, xs, rel, dd⟩ := dt_of I2.hok at_
  have hz : xs.length ≤ sizeLine := by
    have := Paired.length rel
    rw [← this]
    exact Nat.zero_le _
  refine wpAny_dictSet_heap (hsz := hz) (knd := tupleKind (mixKind X.prog X.w)) (Nat.lt_of_succ_lt hu) (key_of I2.hok hb) dd fun h' dd' hs => wpAny_pure ?_
  dsimp only
  rw [List.forIn_nil]
  refine wpAny_pure (wpAny_pure (wpAny_pure (wpAny_pure ⟨.ref s.heap.objs.size, _, ?_, rfl, q2⟩)))
  obtain ⟨o, es, ep, ho, h2, h3, h4, _, h5⟩ := dd'
  refine d_write I2 (by rw [at_]; exact True.intro) hs ⟨o, ho⟩ ⟨by show 1 ≤ sizeLine; decide, hd, _, (rel.put k hb rv).keeps fun c ys ec => ?_, o, es, ep, ho, h2, h3, h4, h5⟩
  rw [upd_ne (ne_of ec at_ (fun z => nomatch z))]
  exact ec
end
end L2
set_option Elab.async false
set_option linter.all false
set_option maxRecDepth 100000
set_option maxHeartbeats 2000000
namespace L2
namespace Pl
open PySem PySem.Spec PyProof.Rows
section
variable {P : Program} {w : World} {K : PySem.W.Frag} {mg : Str → Option Value} {base : Heap}
/-- a def without defaults, called by position and by keyword -/
theorem kbn_of {x qual : Str} {params : Arguments} {body : List Stmt} {scope : Scope} {f : Addr} {fd : FuncData} {ps : List Str} (F : FunD K x qual params body scope [] [] f fd) (n : Nat) (ks : List Str)
    (h : ∀ (kV doc pm : Value) (an : Option Addr) (cdv ct : Value) (us ws : List Value), us.length = n → ws.length = ks.length → bindArgs (PySem.W.fnOf x qual params body scope .none kV doc pm an cdv ct) ⟨us, ks.zip ws⟩ = pure (ps.zip (us ++ ws))) :
    KBn K fd ps n ks (fun us ws => us ++ ws) (fun vs zs => vs ++ zs) := by
  obtain ⟨oc, od, dV, kV, doc, pm, an, cdv, ct, osl, rfl, _, _, hD, _⟩ := F.ex
  rcases hD with ⟨_, rfl⟩ | ⟨e, _⟩
  · exact ⟨fun s us ws _ h1 h2 => .of_eq (h kV doc pm an cdv ct us ws h1 h2), fun r1 r2 => r1.append r2⟩
  · exact absurd rfl e
/-- the whole of such an __init__ -/
theorem ini_ok {qual f : Str} {params : Arguments} {scope : Scope} {C fI : Addr} {fd : FuncData} {q1 q2 q3 q4 : Pos} (F : FunD K "__init__" qual params [.Assign [.Attribute (.Name "self" q1) f q2] (.Name f q3) q4] scope [] [] fI fd) (S : FnScope ["self", f] ["self", f] scope)
    (v1 : scope.names.lookup ("self" : Str) = some NameKind.local) (v2 : scope.names.lookup f = some NameKind.local) (d1 : (f == ("__debug__" : Str)) = false) (d2 : (f == ("__classdict__" : Str)) = false) (T : OexC K C) (nf : PySem.W.findIn K (.ref C) f = some none) : FnOk P w K mg base CX0 1 fI fd ["self", f] (spIni C f) := by
  refine F.ok S (fun vs H Q E h => ?_) (fun cdv A outer s H vs Q E hr h => ?_)
  · obtain ⟨_, _, rfl, _⟩ := h
    rfl
  · obtain ⟨a, v, rfl, ha, q⟩ := h
    refine ⟨_, PSs.nox (pss_one (ps_ost (pe_var (i := 0) rfl (.inl v1)) (pe_var (i := 1) rfl (.inl v2) d1 d2))), ?_⟩
    exact ⟨_, rfl, _, rfl, a, C, rfl, T, nf, .inl ⟨ha, fun d hd hne => q d hd hne⟩⟩
end
end Pl
end L2
namespace L2
namespace Pl
open PySem PySem.Spec PyProof.Rows
/-- an own error class x, made by place, its field f -/
structure RaF (P : Program) (w : World) (K : PySem.W.Frag) (mg : Str → Option Value) (base : Heap) (x f : Str) (C : Addr) : Prop where
  o : OexC K C
  xf : XfC K C
  nf : PySem.W.findIn K (.ref C) f = some none
  g : mg x = some (.ref C)
  ini : ∃ fI fd, PySem.W.findIn K (.ref C) "__init__" = some (some (.ref fI)) ∧ PySem.W.typeIn K (.ref fI) = some (.type "function") ∧ FnOk P w K mg base CX0 1 fI fd ["self", f] (spIni C f) ∧ L2.Binds K fd ["self", f] []
theorem raised_heap {H : Hp} {a d C : Addr} {f : Str} {v : V} (h : H a = none) (n : d ≠ a) : upd (del (exH (upd H a (exo a C none)) a d C f v) a) d (.xd [(f, v)]) = upd H d (.xd [(f, v)]) := by
  funext b
  by_cases hd : b = d
  · rw [hd, upd_same, upd_same]
  · rw [upd_ne hd, upd_ne hd]
    by_cases ha : b = a
    · rw [ha, del_same, h]
    · rw [del_ne ha]
      unfold exH
      simp only [upd, ha, hd, if_false]
end Pl
end L2
set_option Elab.async false
set_option linter.all false
set_option maxRecDepth 100000
set_option maxHeartbeats 1000000
namespace L2
open PySem PySem.Spec PyProof.Rows
section
variable {X : Cx}
/-- tuple(xs), xs a list: a new tuple of which it is known that it has no dict of its own (so that its methods can be called) -/
def rTupF (K : PySem.W.Frag) : List V → Hp → VK → Prop := fun xs H Q => ∃ p ys, xs = [.ref p] ∧ SqL K H p ys ∧ ∀ (o : Obj) l, o.dict = none → o.cls = .type "tuple" → H l = none → Q (.ref l) (upd H l (.frz o (.tup ys)))
theorem call_tupleF : CallR X (.type "tuple") (rTupF X.K) := by
  intro pins s σ H xs us Q I r q
  obtain ⟨p, ys, rfl, hp, q⟩ := q
  obtain ⟨u, rfl, rx⟩ := vals1 r
  obtain rfl : u = .ref p := rx
  obtain ⟨its, rv, pl, hz⟩ := I.list hp
  refine call_tuple_list pl.isList (fun h' keep => ?_) (by rw [List.size_toArray, ← rv.length]; exact hz)
  have I1 : Inv X pins σ H { s with heap := h' } := I.kept (t' := s.toks) keep
  have new : (h'.push { cls := .type "tuple", data := .seq its.toArray }).get? h'.objs.size = some { cls := .type "tuple", data := .seq its.toArray } := Heap.get?_push_size _ rfl
  refine ⟨.ref h'.objs.size, upd H h'.objs.size (.frz { cls := .type "tuple", data := .seq its.toArray } (.tup ys)), I1.laid (t' := s.toks) (fun b o e => Heap.get?_push_of_some _ e) (Nat.le_refl _) ⟨new, hz, its, rv, _, new, rfl, _, rfl⟩, rfl, q _ _ rfl rfl (I1.hok.fresh (Nat.le_refl _))⟩
/-- t.index(z) of such a tuple of texts, z in it -/
def tTupIdx (to te : TE) : TE := fun σ H Q => to σ H fun x H1 => ∃ a ob ys, x = .ref a ∧ H1 a = some (.frz ob (.tup (List.map V.str ys))) ∧ ob.dict = none ∧ te σ H1 fun y H2 => ∃ z j, y = .str z ∧ H2 a = some (.frz ob (.tup (List.map V.str ys))) ∧ ys[j]? = some z ∧ (∀ m, m < j → ys[m]? ≠ some z) ∧ Q (.int (j : Nat)) H2
theorem pe_tupIdx {o e : Expr} {to te : TE} {apos cpos : Pos} (ho : PE X o to) (he : PE X e te) (hbase : attributeBase o "index" X.env (eval o X.env) = eval o X.env := by rfl)
    (hfew : ((backTo cpos (starEach [e] X.env)).all (fun x => !x.1) && (backToKw cpos (keywordEach [] X.env)).all (fun x => x.1.isSome) && decide (([e] : List Expr).length + ([] : List Keyword).length + (if ([] : List Keyword).isEmpty then 0 else 1) < 30)) = true := by rfl)
    (hline : (apos.endLine == cpos.line) = true := by rfl) (hs : starEach [e] X.env = (false, eval e X.env) :: starEach [] X.env := by rfl) : PE X (.Call (.Attribute o "index" apos) [e] [] cpos) (tTupIdx to te) := by
  refine ⟨fun pins s σ H Q I h => ?_⟩
  refine wpAny_Call_method_late hbase hfew hline rfl (thn (ho.run pins s σ H _ I h) fun v s1 ⟨x, H1, I1, r1, a, ob, ys, ex, ha, hd, q1⟩ => ?_)
  subst ex
  obtain rfl : v = .ref a := r1
  obtain ⟨g1, _, its, _, o2, g2, hc, _⟩ := (show ObjOk X.prog X.w H1 s1.heap a (.frz ob (.tup (List.map V.str ys))) from I1.hok a _ ha)
  obtain rfl : ob = o2 := Option.some.inj (g1.symm.trans g2)
  refine ⟨"tuple", "tuple.index", PySem.F.plainAttrs_tuple, PySem.F.slot_tuple_index, PySem.F.type_tuple_index, ⟨ob, g1, hc⟩, fun b e => by cases e; exact ⟨ob, g1, hd⟩, ?_⟩
  have hA := (pa_cons he pa_nil (hs := hs)).run cpos pins s1 σ H1 (fun vs H2 => match vs with
    | [y] => ∃ z j, y = .str z ∧ H2 a = some (.frz ob (.tup (List.map V.str ys))) ∧ ys[j]? = some z ∧ (∀ m, m < j → ys[m]? ≠ some z) ∧ Q (.int (j : Nat)) H2
    | _ => False) I1 q1
  rw [hs] at hA ⊢
  refine Calls.callWith_builtin rfl (Calls.evalArgs_plain ?_)
  refine thn hA fun us s2 ⟨vs, H2, I2, r2, q2⟩ => ?_
  match vs, q2 with
  | [y], ⟨z, j, ey, h2, hj, first, q2⟩ =>
    subst ey
    exact mt_tup_index pins s2 σ H2 (.ref a) [.str z] (.ref a) us Q I2 rfl r2 ⟨a, ys, z, j, rfl, rfl, .inl (.inr ⟨ob, h2⟩), hj, first, q2⟩
end
end L2
set_option Elab.async false
set_option linter.all false
set_option maxRecDepth 100000
set_option maxHeartbeats 2000000
namespace L2
namespace Pl
open PySem PySem.Spec PyProof.Rows
/-- a comprehension over one walk of the items xs: which are kept, and what each of them gives; M holds of all heaps on the way -/
theorem lc_gen {J : It} {G : Hp → Prop} {xs : List V} (w : Walk J xs.length G (YAt xs)) {g : TG} {tt : TT} {te : TE} {vs : List Nat} {σ : St} {H1 : Hp} {D : Addr} {Qd : Hp → Prop}
    (M : Hp → Prop) (keep : V → Bool) (R : V → V → Prop) (h0 : M (upd H1 D (.lst []))) (hw : ∀ H acc, M H → H D = some (.lst acc) → ∀ y, M (upd H D (.lst (acc ++ [y])))) (hG : ∀ H, M H → G H) (hlen : xs.length ≤ 1000)
    (step : ∀ (x : V) (H' : Hp) (N : Hp → Prop) (Y : VK), x ∈ xs → M H' → (keep x = false → ∀ H3, M H3 → H3 D = H' D → N H3) → (keep x = true → ∀ y H4, M H4 → H4 D = H' D → R x y → Y y H4) →
      g x (wipe σ vs) H' fun σ2 H2 => wipe σ2 vs = wipe σ vs ∧ tt σ2 H2 fun b H3 => if b = true then te σ2 H3 Y else N H3)
    (hd : ∀ H ys, M H → H D = some (.lst ys) → Paired R (xs.filter keep) ys → Qd H) :
    ∃ W : Nat → Nat → Hp → Prop, (∃ m, W 0 m (upd H1 D (.lst []))) ∧ ∀ i m H, W i m H →
      (J.stop i H ∧ Qd H) ∨ (J.go i H ∧ ∃ Nx : Hp → Prop, (∀ H', Nx H' → ∃ m', m' < m ∧ W (i + 1) m' H') ∧ ∀ x H', J.yld i H x H' → g x (wipe σ vs) H' fun σ2 H2 => wipe σ2 vs = wipe σ vs ∧ tt σ2 H2 fun b H3 =>
        if b = true then te σ2 H3 fun y H4 => ∃ acc, H4 D = some (.lst acc) ∧ acc.length < sizeLine ∧ Nx (upd H4 D (.lst (acc ++ [y]))) else Nx H3) := by
  refine lc_it w (fun i H => M H ∧ ∃ ys, H D = some (.lst ys) ∧ Paired R ((xs.take i).filter keep) ys) ⟨h0, [], upd_same, by rw [List.take_zero]; exact .nil⟩ (fun i H _ p => hG H p.1) ?_ ?_
  · rintro i x H H' hi ⟨hm, ys, hy, hp⟩ ⟨rfl, hx⟩
    have hin := List.mem_of_getElem? hx
    have ht : xs.take (i + 1) = xs.take i ++ [x] := by
      rw [List.take_succ, hx]
      rfl
    have hle : ys.length ≤ 1000 := by
      rw [← hp.length]
      have := List.length_filter_le keep (xs.take i)
      rw [List.length_take] at this
      omega
    refine step x H' _ _ hin hm (fun hk H3 m3 e3 => ⟨m3, ys, e3.trans hy, ?_⟩) (fun hk y H4 m4 e4 r => ⟨ys, e4.trans hy, by rw [sizeLine_eq]; omega, hw _ _ m4 (e4.trans hy) y, ys ++ [y], upd_same, ?_⟩)
    · rw [ht, List.filter_append, List.filter_cons_of_neg (by rw [hk]; decide), List.filter_nil, List.append_nil]
      exact hp
    · rw [ht, List.filter_append, List.filter_cons_of_pos hk, List.filter_nil]
      exact hp.snoc r
  · rintro H ⟨hm, ys, hy, hp⟩
    rw [List.take_of_length_le (Nat.le_refl _)] at hp
    exact hd H ys hm hy hp
theorem paired_eq {α β : Type} {f : α → β} : ∀ {xs : List α} {ys : List β}, Paired (fun x y => y = f x) xs ys → ys = xs.map f
  | _, _, .nil => rfl
  | _, _, .cons h t => by rw [List.map_cons, h, paired_eq t]
theorem filt_all {α : Type} {xs : List α} : xs.filter (fun _ => true) = xs := List.filter_eq_self.mpr fun _ _ => rfl
theorem paired_strs {P : V → Str → Prop} : ∀ {xs ys : List V}, Paired (fun x y => ∃ z : Str, y = .str z ∧ P x z) xs ys → ∃ zs : List Str, ys = zs.map V.str ∧ Paired P xs zs
  | _, _, .nil => ⟨[], rfl, .nil⟩
  | _, _, .cons ⟨z, e, p⟩ t => by
    obtain ⟨zs, e2, p2⟩ := paired_strs t
    exact ⟨z :: zs, by rw [e, e2]; rfl, .cons p p2⟩
theorem paired_all {α β : Type} {P : α → β → Prop} {S : β → Prop} (h : ∀ a b, P a b → S b) : ∀ {xs : List α} {zs : List β}, Paired P xs zs → ∀ z ∈ zs, S z
  | _, _, .nil, z, hz => by cases hz
  | _, _, .cons p t, z, hz => by
    rcases List.mem_cons.mp hz with rfl | hz
    · exact h _ _ p
    · exact paired_all h t z hz
/-! ### a drawn store: names, deeds with their leads, looks -/
structure Bd where
  names : List Str
  deeds : List (Str × List Str)
  looks : List Str
structure Bd.Ok (b : Bd) : Prop where
  n1 : 1 ≤ b.names.length
  n5 : b.names.length ≤ 5
  nd : b.names.Nodup
  nn : ∀ x ∈ b.names, IsName x
  d1 : 1 ≤ b.deeds.length
  d4 : b.deeds.length ≤ 4
  dd : (b.deeds.map (·.1)).Nodup
  dn : ∀ x ∈ b.deeds, IsName x.1
  dl : ∀ x ∈ b.deeds, x.2.length = b.names.length
  di : ∀ x ∈ b.deeds, ∀ y ∈ x.2, y ∈ b.names
  ll : b.looks.length = b.names.length
  ln : ∀ x ∈ b.looks, IsName x
abbrev sV (ws : List Str) : List V := ws.map V.str
def PairAt (K : PySem.W.Frag) (H : Hp) (v : V) (p : Str × List Str) : Prop := ∃ t l, v = .ref t ∧ SqT K H t [.str p.1, .ref l] ∧ SqT K H l (sV p.2)
def BdAt (K : PySem.W.Frag) (H : Hp) (a : Addr) (b : Bd) : Prop := ∃ n d l ps, SqT K H a [.ref n, .ref d, .ref l] ∧ (∃ o : Obj, H n = some (.frz o (.tup (sV b.names))) ∧ o.dict = none) ∧ SqT K H d ps ∧ Paired (PairAt K H) ps b.deeds ∧ SqT K H l (sV b.looks)
theorem seqT_same {K : PySem.W.Frag} {H H' : Hp} {l : Addr} {xs : List V} (h : SqT K H l xs) (e : Same H H') : SqT K H' l xs := by
  rcases h with (h | ⟨o, h⟩) | h
  · exact .inl (.inl (e _ _ h))
  · exact .inl (.inr ⟨o, e _ _ h⟩)
  · exact .inr h
theorem PairAt.same {K : PySem.W.Frag} {H H' : Hp} {v : V} {p : Str × List Str} (h : PairAt K H v p) (e : Same H H') : PairAt K H' v p :=
  let ⟨t, l, z, a, b⟩ := h
  ⟨t, l, z, seqT_same a e, seqT_same b e⟩
theorem BdAt.same {K : PySem.W.Frag} {H H' : Hp} {a : Addr} {b : Bd} (h : BdAt K H a b) (e : Same H H') : BdAt K H' a b :=
  let ⟨n, d, l, ps, h1, h2, h3, h4, h5⟩ := h
  ⟨n, d, l, ps, seqT_same h1 e, (let ⟨o, q, r⟩ := h2; ⟨o, e _ _ q, r⟩), seqT_same h3 e, h4.mono fun _ _ q => q.same e, seqT_same h5 e⟩
def spBase (K : PySem.W.Frag) : Sp := fun vs H Q _ => ∃ (s : Addr) (most : Nat), vs = [.ref s, .int (most : Int)] ∧ Src H s ∧ 1 ≤ most ∧ most ≤ 5 ∧ ∀ p H' b, Mv s H H' → b.Ok → b.names.length ≤ most → BdAt K (del H' s) p b → Q (.ref p) H'
theorem del_mono {H H' : Hp} {p : Addr} (h : Same H H') : Same (del H p) (del H' p) := fun b o z => by
  obtain ⟨n, z⟩ := del_some z
  exact del_of n (h _ _ z)
theorem del_upd {H : Hp} {a p : Addr} {o : HO} : Same (del (del H a) p) (del (del (upd H p o) a) p) := fun b x z => by
  obtain ⟨n, z⟩ := del_some z
  obtain ⟨n2, z⟩ := del_some z
  exact del_of n (del_of n2 ((upd_ne n).trans z))
/-- the same while the source is drawn from -/
theorem lc_mv {J : It} {G : Hp → Prop} {xs : List V} (w : Walk J xs.length G (YAt xs)) {g : TG} {tt : TT} {te : TE} {vs : List Nat} {σ : St} {H1 : Hp} {D s : Addr} {Qd : Hp → Prop}
    (keep : V → Bool) (R : V → V → Prop) (hS : Src H1 s) (hD : H1 D = none) (hG : ∀ H, Mv s H1 H → G H) (hlen : xs.length ≤ 1000)
    (step : ∀ (x : V) (H' : Hp) (N : Hp → Prop) (Y : VK), x ∈ xs → Mv s H1 H' → (∃ o, H' D = some o) → (keep x = false → ∀ H3, Mv s H1 H3 → H3 D = H' D → N H3) → (keep x = true → ∀ y H4, Mv s H1 H4 → H4 D = H' D → R x y → Y y H4) →
      g x (wipe σ vs) H' fun σ2 H2 => wipe σ2 vs = wipe σ vs ∧ tt σ2 H2 fun b H3 => if b = true then te σ2 H3 Y else N H3)
    (hd : ∀ H ys, Mv s H1 H → H D = some (.lst ys) → Paired R (xs.filter keep) ys → Qd H) :
    ∃ W : Nat → Nat → Hp → Prop, (∃ m, W 0 m (upd H1 D (.lst []))) ∧ ∀ i m H, W i m H →
      (J.stop i H ∧ Qd H) ∨ (J.go i H ∧ ∃ Nx : Hp → Prop, (∀ H', Nx H' → ∃ m', m' < m ∧ W (i + 1) m' H') ∧ ∀ x H', J.yld i H x H' → g x (wipe σ vs) H' fun σ2 H2 => wipe σ2 vs = wipe σ vs ∧ tt σ2 H2 fun b H3 =>
        if b = true then te σ2 H3 fun y H4 => ∃ acc, H4 D = some (.lst acc) ∧ acc.length < sizeLine ∧ Nx (upd H4 D (.lst (acc ++ [y]))) else Nx H3) :=
  lc_gen w (fun H => Mv s H1 H ∧ ∃ o, H D = some o) keep R ⟨.new hS hD, _, upd_same⟩ (fun H acc p _ y => ⟨p.1.write hD (hS.ne hD), _, upd_same⟩) (fun H p => hG H p.1) hlen
    (fun x H' N Y hx p kn ky => step x H' N Y hx p.1 p.2 (fun e H3 m3 e3 => kn e H3 ⟨m3, p.2.elim fun o q => ⟨o, e3.trans q⟩⟩ e3) (fun e y H4 m4 e4 r => ky e y H4 ⟨m4, p.2.elim fun o q => ⟨o, e4.trans q⟩⟩ e4 r))
    (fun H ys p => hd H ys p.1)
theorem SqT.up {K : PySem.W.Frag} {H : Hp} {l : Addr} {xs : List V} (h : H l = some (.tup xs)) : SqT K H l xs := .inl (.inl h)
abbrev six : List Str := ["x", "y", "dark", "day", "xx", "xxx"]
theorem looks_three : ∀ x ∈ (["x", "y", "dark"] : List Str), IsName x := by
  have h : (["x", "y", "dark"] : List Str).all isNameB = true := by decide +kernel
  exact fun w hw => isName_of (List.all_eq_true.mp h w hw)
theorem looks_names : ∀ x ∈ (["x", "y", "dark", "day", "xx", "xxx"] : List Str), IsName x := by
  have h : (["x", "y", "dark", "day", "xx", "xxx"] : List Str).all isNameB = true := by decide +kernel
  exact fun w hw => isName_of (List.all_eq_true.mp h w hw)
end Pl
end L2
set_option Elab.async false
set_option linter.all false
set_option maxRecDepth 100000
set_option maxHeartbeats 2000000
namespace Bs
open PySem PySem.Spec PyProof.Rows L2 L2.Pl
section
variable {P : Program} {w : World} {K : PySem.W.Frag} {mg : Str → Option Value} {base : Heap} {f : Addr} {fd : FuncData}
abbrev NBs : List Str := ["source", "most", "many", "names", "deeds", "name", "some", "looks", "at"]
theorem scBase : FnScope NBs ["source", "most"] (defScope sBase) := ⟨rfl, rfl, rfl, by decide +kernel, rfl, by decide +kernel, by decide +kernel⟩
theorem ok_base (G : Gn mg) (F : FnP K "_law_base" sBase f fd) (hD : Has P w K mg base CX0 "_law_draw" 1 ["source", "span"] spDraw) (hP : Has P w K mg base CX0 "_law_pick" 2 ["source", "things"] (spPick K)) (hM : Has P w K mg base CX0 "_law_mixed" 2 ["source", "things"] (spMixed K))
    (hN : Has P w K mg base CX0 "_law_names" 4 ["source", "many"] spNames) (hL : Has P w K mg base CX0 "_law_leads" 3 ["source", "many"] spLeads) : FnOk P w K mg base CX0 5 f fd ["source", "most"] (spBase K) := by
  obtain ⟨fD, dD, oD, bD, gD, kD⟩ := hD.ex
  obtain ⟨fP, dP, oP, bP, gP, kP⟩ := hP.ex
  obtain ⟨fM, dM, oM, bM, gM, kM⟩ := hM.ex
  obtain ⟨fN, dN, oN, bN, gN, kN⟩ := hN.ex
  obtain ⟨fL, dL, oL, bL, gL, kL⟩ := hL.ex
  refine F.ok scBase (fun vs H Q E h => ?_) (fun cdv A outer s H vs Q E hr h => ?_)
  · obtain ⟨_, _, rfl, _⟩ := h
    rfl
  · obtain ⟨a, most, rfl, hS, h1, h5, q⟩ := h
    have hr1 := hr.mono (j := 1) (by decide)
    have hr2 := hr.mono (j := 2) (by decide)
    have hr3 := hr.mono (j := 3) (by decide)
    refine ⟨_, PSs.nox (pss_cons (ps_set (i := 2) scBase.nd rfl (.inl rfl) (pe_op op_add pe_int (pe_call oD hr1 (by rfl) gD kD bD .nil pass0 (pa_cons (pv 0) (pa_cons (pv 1) pa_nil)))))
      (pss_cons (ps_asg (pe_tup (pa_cons (pe_call oN hr (by rfl) gN kN bN .nil pass0 (pa_cons (pv 0) (pa_cons (pv 2) pa_nil))) (pa_cons (pe_lst pa_nil) pa_nil))) (pg_tup rfl (pgs_cons (pg_name (i := 3) scBase.nd rfl (.inr rfl)) (pgs_cons (pg_name (i := 4) scBase.nd rfl (.inl rfl)) pgs_nil))))
      (pss_cons (ps_for PassesOwn.never rfl (pi_list (pe_call oN hr (by rfl) gN kN bN .nil pass0 (pa_cons (pv 0) (pa_cons (pe_op op_add pe_int (pe_call oD hr1 (by rfl) gD kD bD .nil pass0 (pa_cons (pv 0) (pa_cons pe_int pa_nil)))) pa_nil)))) (pg_name (i := 5) scBase.nd rfl (.inl rfl))
        (pss_one (ps_expr (pe_bm PySem.F.plainAttrs_list PySem.F.slot_list_append PySem.F.type_list_append mt_append (pv 4) (pa_cons (pe_tup (pa_cons (pv 5) (pa_cons (pe_callTy call_tuple_of (by rfl) G.tuple bTuple
          (pa_cons (pe_lc (own := [("at", 8)]) (g := gName 8) (tt := tYes) (te := tOp (rIxL K) (tVar 3) (tVar 8)) rfl scBase.nd (pi_list (pe_call oL hr3 (by rfl) gL kL bL .nil pass0 (pa_cons (pv 0) (pa_cons (pv 2) pa_nil)))) (blkOk_by (N := NBs) (sc := defScope sBase) (by decide +kernel)) (fun _ _ _ _ _ => pg_name (i := 8) scBase.nd rfl (.inl rfl)) (fun _ _ _ _ _ => pts_nil) (fun _ _ _ _ _ => pe_ix ix_list (pv 3) (pv 8) (fun _ _ => rfl))) pa_nil)) pa_nil))) pa_nil)))))
      (pss_cons (ps_set (i := 6) scBase.nd rfl (.inr rfl) (pe_lst (pa_cons pe_str (pa_cons pe_str (pa_cons pe_str (pa_cons pe_str (pa_cons pe_str (pa_cons pe_str pa_nil))))))))
      (pss_cons (ps_setLc (i := 7) (own := [("name", 5)]) (g := gName 5) (tt := tYes) (te := tCall (spPick K) [] E0 (tCons (tVar 0) (tCons (tSl (rSlL K) (tVar 6) tNoPart (tPart (tC (.int 3)))) tNil))) rfl scBase.nd rfl rfl (sw_true rfl rfl rfl (by decide +kernel)) (pi_list (pv 3)) (blkOk_by (N := NBs) (sc := defScope sBase) (by decide +kernel)) (fun _ _ _ _ _ => pg_name (i := 5) scBase.nd rfl (.inl rfl)) (fun _ _ _ _ _ => pts_nil)
          (fun _ _ _ _ _ => pe_call oP hr2 (by rfl) gP kP bP .nil pass0 (pa_cons (pv 0) (pa_cons (pe_slice sl_list (pv 6) po_none (po_some pe_int)) pa_nil))))
      (pss_cons (ps_if (pt_cmpR op_eq (pe_call oD hr1 (by rfl) gD kD bD .nil pass0 (pa_cons (pv 0) (pa_cons pe_int pa_nil))) pe_int (nomark _))
          (pss_one (ps_set (i := 7) scBase.nd rfl (.inl rfl) (pe_slice sl_list (pe_call oM hr2 (by rfl) gM kM bM .nil pass0 (pa_cons (pv 0) (pa_cons (pv 6) pa_nil))) po_none (po_some (pv 2))))) pss_nil)
      (pss_one (ps_ret (pe_tup (pa_cons (pe_callTy call_tupleF (by rfl) G.tuple bTuple (pa_cons (pv 3) pa_nil)) (pa_cons (pe_callTy call_tuple_of (by rfl) G.tuple bTuple (pa_cons (pv 4) pa_nil)) (pa_cons (pe_callTy call_tuple_of (by rfl) G.tuple bTuple (pa_cons (pv 7) pa_nil)) pa_nil)))))))))))), ?_⟩
    refine ⟨_, rfl, _, rfl, a, (most : Int), rfl, hS, by omega, by omega, fun H1 k1 m1 _ ka kb => ?_⟩
    obtain ⟨k, rfl⟩ : ∃ k : Nat, k1 = (k : Int) := ⟨k1.toNat, by omega⟩
    refine ⟨1, _, rfl, rfl, ?_⟩
    refine ⟨_, rfl, _, rfl, a, 1 + k, rfl, m1.src, by omega, by omega, fun pn H2 ws m2 nn hn wl wd wi => ⟨Nat.zero_le _, fun pd hd => ⟨by show 2 ≤ sizeLine; decide, fun t ht => ?_⟩⟩⟩
    refine ⟨t, _, rfl, .inl (.inl upd_same), rfl, _, [.ref pd], rfl, _, [], rfl, rfl, ?_⟩
    have nnd : pn ≠ pd := ne_of_none hn hd
    have m2d := m2.trans (.new (o := .lst []) m2.src hd)
    have m3 := m2d.trans (.new (o := .tup [.ref pn, .ref pd]) m2d.src ht)
    have M3 := m1.trans m3
    have nna : pn ≠ a := m1.src.ne nn
    have nda : pd ≠ a := m2.src.ne hd
    have n0 : H pn = none := m1.free hS nn
    have d0 : H pd = none := (m1.trans m2).free hS hd
    have nt : pd ≠ t := Ne.symm (ne_new ht)
    have hn3 := ((Mv.new (o := .lst []) m2.src hd).trans (.new (o := .tup [.ref pn, .ref pd]) m2d.src ht)).get nna hn
    have hd3 : (upd (upd H2 pd (.lst [])) t (.tup [.ref pn, .ref pd])) pd = some (.lst []) := (upd_ne nt).trans upd_same
    generalize eH3 : upd (upd H2 pd (.lst [])) t (.tup [.ref pn, .ref pd]) = H3 at *
    -- for name in names
    refine ⟨_, rfl, _, rfl, a, 4, rfl, M3.src, by decide, by decide, fun H4 k2 m4 _ kc kd => ?_⟩
    obtain ⟨k4, rfl⟩ : ∃ k : Nat, k2 = (k : Int) := ⟨k2.toNat, by omega⟩
    refine ⟨1, _, rfl, rfl, a, 1 + k4, rfl, m4.src, by omega, by omega, fun pw H5 wds m5 nw hw wl2 wd2 wi2 => ⟨pw, rfl, ⟨_, SqL.of hw⟩, ?_⟩⟩
    have M5 := M3.trans (m4.trans m5)
    have hn5 := (m4.trans m5).get nna hn3
    have hd5 := (m4.trans m5).get nda hd3
    have nwa : pw ≠ a := m4.src.ne nw
    have nwd : pw ≠ pd := fun z => by
      rw [z, m4.get nda hd3] at nw
      cases nw
    refine for_list (K := K) (a := pw) (xs := sV wds) (fun i σ H' => ∃ c ps ds, σ = [some (.ref a), some (.int (most : Int)), some (.int (1 + (k : Int))), some (.ref pn), some (.ref pd), c, none, none, none] ∧ Mv a H H' ∧ H' pn = some (.lst (sV ws)) ∧ H' pw = some (.lst (sV wds)) ∧ H' pd = some (.lst ps) ∧ Paired (PairAt K (del (del H' a) pd)) ps ds ∧ ds.map (·.1) = wds.take i ∧ ∀ x ∈ ds, x.2.length = ws.length ∧ ∀ y ∈ x.2, y ∈ ws)
      ⟨none, [], [], rfl, M5, hn5, hw, hd5, .nil, rfl, fun x hx => by cases hx⟩ (fun i σ H' _ ⟨_, _, _, _, _, _, e, _⟩ => SqL.of e) ?_ ?_
    · rintro i x σ H6 hx ⟨c, ps, ds, rfl, m6, hn6, hw6, hd6, pp, pe, pq⟩
      obtain ⟨z, hz, rfl⟩ : ∃ z, wds[i]? = some z ∧ x = .str z := by
        rw [List.getElem?_map] at hx
        cases e : wds[i]? with
        | none =>
          rw [e] at hx
          cases hx
        | some u =>
          rw [e] at hx
          exact ⟨u, rfl, (Option.some.inj hx).symm⟩
      refine ⟨_, rfl, .inl ⟨rfl, _, SqL.of hd6⟩, _, rfl, _, rfl, _, rfl, a, 1 + k, rfl, m6.src, by omega, by omega, fun pl H7 ks m7 nl hl kl kk => ⟨pl, rfl, ⟨_, SqL.of hl⟩, fun D hD => ?_⟩⟩
      have hn7 := m7.get nna hn6
      have hd7 := m7.get nda hd6
      have hw7 := m7.get nwa hw6
      have nla := m6.src.ne nl
      refine lc_mv (s := a) (walk_list (K := K) (a := pl)) (fun _ => true) (fun _ y => ∃ z : Str, y = .str z ∧ z ∈ ws) m7.src hD (fun H h => SqL.of (h.get nla hl)) (by rw [List.length_map, kl]; omega) (fun x H' N Y hx m8 _ _ ky => ?_) (fun H8 ys m8 hy py => ?_)
      · obtain ⟨j, hj, rfl⟩ := List.mem_map.mp hx
        have hj2 := kk j hj
        obtain ⟨u, hu⟩ : ∃ u, ws[j]? = some u := ⟨_, List.getElem?_eq_getElem (by omega)⟩
        refine ⟨rfl, iteT (B := N H') ⟨_, rfl, _, rfl, pn, sV ws, _, .str u, rfl, rfl, SqL.of (m8.get nna hn7), atI_nat (by rw [List.getElem?_map, hu]; rfl), ky rfl _ _ m8 rfl ⟨u, rfl, List.mem_of_getElem? hu⟩⟩⟩
      · rw [filt_all] at py
        obtain ⟨zs, rfl, pz⟩ := paired_strs py
        have zl := pz.length
        rw [List.length_map, kl] at zl
        refine ⟨D, _, rfl, .inl ⟨SqL.of hy, fun l hl8 => ⟨by show 2 ≤ sizeLine; decide, fun t2 ht2 => ?_⟩⟩⟩
        have hd8 := m8.get nda hd7
        have hn8 := m8.get nna hn7
        have hw8 := m8.get nwa hw7
        have e8 := Mv.new (o := .tup (sV zs)) m8.src hl8
        have e9 := Mv.new (o := .tup [.str z, .ref l]) e8.src ht2
        have m9 := m7.trans (m8.trans (e8.trans e9))
        have k9 := e8.trans e9
        have ntl : l ≠ t2 := Ne.symm (ne_new ht2)
        have nta : t2 ≠ a := e8.src.ne ht2
        have nla8 : l ≠ a := m8.src.ne hl8
        have nlp : l ≠ pd := fun e => by
          rw [e, hd8] at hl8
          cases hl8
        have ntp : t2 ≠ pd := fun e => by
          rw [e, e8.get nda hd8] at ht2
          cases ht2
        have psl : ps.length ≤ 4 := by
          have h1 := pp.length
          have h2 := congrArg List.length pe
          rw [List.length_map, List.length_take] at h2
          have h3 : i < wds.length := (List.getElem?_eq_some_iff.mp hz).1
          omega
        refine ⟨pd, ps, _, rfl, rfl, k9.get nda hd8, small1000 (by omega), ?_⟩
        refine ⟨_, ps ++ [.ref t2], ds ++ [(z, zs)], rfl, (m6.trans m9).write d0 nda, (upd_ne nnd).trans (k9.get nna hn8), (upd_ne nwd).trans (k9.get nwa hw8), upd_same, ?_, ?_, ?_⟩
        · refine (pp.mono fun _ _ q => q.same ((del_mono m9.same).trans del_upd)).snoc ⟨t2, l, rfl, SqT.up (del_of ntp (del_of nta ((upd_ne ntp).trans upd_same))), SqT.up (del_of nlp (del_of nla8 ((upd_ne nlp).trans ((upd_ne ntl).trans upd_same))))⟩
        · rw [List.map_append, pe, List.take_succ, hz]
          rfl
        · intro y hy2
          rcases List.mem_append.mp hy2 with hy2 | hy2
          · exact pq y hy2
          · rw [List.mem_singleton.mp hy2]
            exact ⟨by rw [← zl, wl], paired_all (S := fun z => z ∈ ws) (fun _ _ h => h) pz⟩
    · rintro σ H6 ⟨c, ps, ds, rfl, m6, hn6, hw6, hd6, pp, pe, pq⟩
      have dl : ds.length = wds.length := by
        have := congrArg List.length pe
        rwa [List.length_map, List.length_take, List.length_map, Nat.min_self] at this
      have pe' : ds.map (·.1) = wds := by rw [pe, List.length_map, List.take_length]
      have p6 := pp.mono fun _ _ q => q.same del_all
      -- the end, whatever the looks' list
      have fin : ∀ (H7 : Hp) (lo : Addr) (us : List Str), Mv a H6 H7 → H7 lo = some (.lst (sV us)) → us.length = 1 + k → (∀ x ∈ us, IsName x) → ∀ (o1 : Obj) l1, o1.dict = none → H7 l1 = none → ∀ l2, (upd H7 l1 (.frz o1 (.tup (sV ws)))) l2 = none → ∀ l3, (upd (upd H7 l1 (.frz o1 (.tup (sV ws)))) l2 (.tup ps)) l3 = none →
          ∀ r, (upd (upd (upd H7 l1 (.frz o1 (.tup (sV ws)))) l2 (.tup ps)) l3 (.tup (sV us))) r = none → Q (.ref r) (upd (upd (upd (upd H7 l1 (.frz o1 (.tup (sV ws)))) l2 (.tup ps)) l3 (.tup (sV us))) r (.tup [.ref l1, .ref l2, .ref l3])) := by
        intro H7 lo us m7 hl ul ui o1 l1 ho1 h1 l2 h2 l3 h3 r hr
        have e1 := Mv.new (o := .frz o1 (.tup (sV ws))) m7.src h1
        have e2 := Mv.new (o := .tup ps) e1.src h2
        have e3 := Mv.new (o := .tup (sV us)) e2.src h3
        have e4 := Mv.new (o := .tup [.ref l1, .ref l2, .ref l3]) e3.src hr
        have s1 := m7.src.ne h1
        have s2 := e1.src.ne h2
        have s3 := e2.src.ne h3
        have s4 := e3.src.ne hr
        have g1 := (e2.trans (e3.trans e4)).get s1 upd_same
        have g2 := (e3.trans e4).get s2 upd_same
        have g3 := e4.get s3 upd_same
        have mm := m6.trans (m7.trans (e1.trans (e2.trans (e3.trans e4))))
        refine q r _ ⟨ws, ds, us⟩ mm ⟨by rw [wl]; omega, by rw [wl]; omega, wd, wi, by rw [dl, wl2]; omega, by rw [dl, wl2]; omega, by rw [pe']; exact wd2, fun x hx => wi2 _ (by rw [← pe']; exact List.mem_map_of_mem hx), fun x hx => (pq x hx).1, fun x hx => (pq x hx).2, by rw [ul, wl], ui⟩ (by rw [wl]; omega) ?_
        exact ⟨l1, l2, l3, ps, SqT.up (del_of s4 upd_same), ⟨o1, del_of s1 g1, ho1⟩, SqT.up (del_of s2 g2), p6.mono fun _ _ q => q.same (m7.trans (e1.trans (e2.trans (e3.trans e4)))).same, SqT.up (del_of s3 g3)⟩
      refine ⟨by show 6 ≤ sizeLine; decide, fun ls hls => ?_⟩
      have e7 := Mv.new (o := .lst (sV ["x", "y", "dark", "day", "xx", "xxx"])) m6.src hls
      have nls := m6.src.ne hls
      have hn7 := e7.get nna hn6
      have hd7 := e7.get nda hd6
      have hs7 : (upd H6 ls (.lst (sV ["x", "y", "dark", "day", "xx", "xxx"]))) ls = some (.lst (sV ["x", "y", "dark", "day", "xx", "xxx"])) := upd_same
      refine ⟨_, rfl, pn, rfl, ⟨_, SqL.of hn7⟩, fun D hD => ?_⟩
      refine lc_mv (s := a) (walk_list (K := K) (a := pn) (xs := sV ws)) (fun _ => true) (fun _ y => ∃ z : Str, y = .str z ∧ IsName z) e7.src hD (fun H h => SqL.of (h.get nna hn7)) (by rw [List.length_map, wl]; omega) (fun x H' N Y hx m8 iD _ ky => ?_) (fun H8 ys m8 hy py => ?_)
      · obtain ⟨j, hj, rfl⟩ := List.mem_map.mp hx
        refine ⟨rfl, iteT (B := N H') ⟨_, rfl, _, rfl, _, rfl, ls, _, rfl, SqL.of (m8.get nls hs7), fun c hc => ?_⟩⟩
        have e9 := Mv.new (o := .lst (cutV (sV ["x", "y", "dark", "day", "xx", "xxx"]) none (some 3))) m8.src hc
        have nca := m8.src.ne hc
        refine ⟨a, .ref c, sV ["x", "y", "dark"], rfl, e9.src, .inl ⟨c, rfl, SqL.of (del_of nca upd_same)⟩, (fun z => by cases z), by decide, fun H9 x m9 eqs hx9 => ?_⟩
        obtain ⟨z, hz, rfl⟩ := List.mem_map.mp hx9
        obtain ⟨oD, hoD⟩ := iD
        have nDc : D ≠ c := ne_of_none hoD hc
        refine ky rfl _ _ (m8.trans (e9.trans m9)) ?_ ⟨z, rfl, looks_three z hz⟩
        rw [eqs D (e7.src.ne hD), upd_ne nDc]
      · rw [filt_all] at py
        obtain ⟨zs, rfl, pz⟩ := paired_strs py
        have zl := pz.length
        rw [List.length_map, wl] at zl
        have zi := paired_all (S := IsName) (fun _ _ h => h) pz
        have hn8 := m8.get nna hn7
        have hd8 := m8.get nda hd7
        have hs8 := m8.get nls hs7
        have m68 := e7.trans m8
        refine ⟨_, rfl, a, 3, rfl, m8.src, by decide, by decide, fun H9 u m9 _ hu0 hu1 => ⟨rfl, _, rfl, ite2 (fun _ => ?_) (fun _ => ?_)⟩⟩
        · have hs9 := m9.get nls hs8
          refine ⟨_, rfl, _, rfl, a, ls, _, rfl, m9.src, SqL.of (del_of nls hs9), by decide, fun p H10 ys m10 np hp pyy => ⟨_, rfl, _, rfl, p, _, rfl, SqL.of hp, fun c hc => ?_⟩⟩
          obtain ⟨vs, pv, rfl⟩ := perm_map pyy (l := six) rfl
          have vl : vs.length = 6 := pv.length_eq
          have ec := Mv.new (o := .lst (cutV (List.map V.str vs) none (some (1 + (k : Int))))) m10.src hc
          have mc := m68.trans (m9.trans (m10.trans ec))
          have hcut : cutV (List.map V.str vs) none (some (1 + (k : Int))) = sV (vs.take (1 + k)) := by
            have e : (1 + (k : Int)) = ((1 + k : Nat) : Int) := by omega
            rw [e, cut_to _ (by rw [List.length_map, vl]; omega)]; exact List.map_take.symm
          exact ⟨_, rfl, pn, _, rfl, SqL.of (mc.get nna hn6), fun o1 l1 ho1 _ h1 => ⟨_, rfl, pd, _, rfl, .inl ⟨SqL.of ((mc.trans (.new mc.src h1)).get nda hd6), fun l2 h2 => ⟨_, rfl, c, _, rfl, .inl ⟨SqL.of ((((Mv.new mc.src h1).trans (.new (Mv.new mc.src h1).src h2))).get (m10.src.ne hc) (by rw [upd_same, hcut])), fun l3 h3 => ⟨by show 3 ≤ sizeLine; decide, fun r hr => fin _ c _ mc (by rw [upd_same, hcut]) (by rw [List.length_take, vl]; omega) (fun x hx => looks_names x (pv.mem_iff.mp (List.mem_of_mem_take hx))) o1 l1 ho1 h1 l2 h2 l3 h3 r hr⟩⟩⟩⟩⟩⟩
        · have mc := m68.trans m9
          have hy9 := m9.get (e7.src.ne hD) hy
          exact ⟨_, rfl, pn, _, rfl, SqL.of (mc.get nna hn6), fun o1 l1 ho1 _ h1 => ⟨_, rfl, pd, _, rfl, .inl ⟨SqL.of ((mc.trans (.new mc.src h1)).get nda hd6), fun l2 h2 => ⟨_, rfl, D, _, rfl, .inl ⟨SqL.of ((((Mv.new mc.src h1).trans (.new (Mv.new mc.src h1).src h2))).get (e7.src.ne hD) hy9), fun l3 h3 => ⟨by show 3 ≤ sizeLine; decide, fun r hr => fin _ D _ mc hy9 zl.symm zi o1 l1 ho1 h1 l2 h2 l3 h3 r hr⟩⟩⟩⟩⟩⟩
end
end Bs
set_option Elab.async false
set_option linter.all false
set_option maxRecDepth 100000
set_option maxHeartbeats 2000000
namespace L2
namespace Pl
open PySem PySem.Spec PyProof.Rows
theorem same_wr {H H' : Hp} {p : Addr} {o : HO} (m : Same H H') (hp : H p = none) : Same H (upd H' p o) := fun b x e => (upd_ne (ne_of_none e hp)).trans (m b x e)
/-- a comprehension over n turns, none left out; M holds of all heaps on the way -/
theorem lc_ix {J : It} {n : Nat} {G : Hp → Prop} {Y : Nat → Hp → V → Hp → Prop} (w : Walk J n G Y) {g : TG} {tt : TT} {te : TE} {vs : List Nat} {σ : St} {H1 : Hp} {D : Addr} {Qd : Hp → Prop}
    (R : Nat → V → Prop) (hD : H1 D = none) (hG : ∀ H, Same H1 H → G H) (hlen : n ≤ 1000)
    (step : ∀ (i : Nat) (x : V) (H H' : Hp) (N : Hp → Prop) (YK : VK), i < n → Same H1 H → (∃ o, H D = some o) → Y i H x H' → (∀ y H4, Same H1 H4 → H4 D = H D → R i y → YK y H4) →
      g x (wipe σ vs) H' fun σ2 H2 => wipe σ2 vs = wipe σ vs ∧ tt σ2 H2 fun b H3 => if b = true then te σ2 H3 YK else N H3)
    (hd : ∀ H ys, Same H1 H → H D = some (.lst ys) → ys.length = n → (∀ (i : Nat) y, ys[i]? = some y → R i y) → Qd H) :
    ∃ W : Nat → Nat → Hp → Prop, (∃ m, W 0 m (upd H1 D (.lst []))) ∧ ∀ i m H, W i m H →
      (J.stop i H ∧ Qd H) ∨ (J.go i H ∧ ∃ Nx : Hp → Prop, (∀ H', Nx H' → ∃ m', m' < m ∧ W (i + 1) m' H') ∧ ∀ x H', J.yld i H x H' → g x (wipe σ vs) H' fun σ2 H2 => wipe σ2 vs = wipe σ vs ∧ tt σ2 H2 fun b H3 =>
        if b = true then te σ2 H3 fun y H4 => ∃ acc, H4 D = some (.lst acc) ∧ acc.length < sizeLine ∧ Nx (upd H4 D (.lst (acc ++ [y]))) else Nx H3) := by
  refine lc_it w (fun i H => Same H1 H ∧ ∃ ys, H D = some (.lst ys) ∧ ys.length = i ∧ ∀ (j : Nat) y, ys[j]? = some y → R j y) ⟨same_new hD, [], upd_same, rfl, fun j y h => by cases h⟩ (fun i H _ p => hG H p.1) ?_ ?_
  · rintro i x H H' hi ⟨hm, ys, hy, hl, hp⟩ hx
    refine step i x H H' _ _ hi hm ⟨_, hy⟩ hx fun y H4 m4 e4 r => ⟨ys, e4.trans hy, by rw [sizeLine_eq]; omega, same_wr m4 hD, ys ++ [y], upd_same, by rw [List.length_append, hl]; rfl, fun j z hj => ?_⟩
    by_cases hji : j < ys.length
    · rw [List.getElem?_append_left hji] at hj
      exact hp j z hj
    · have hlt := (List.getElem?_eq_some_iff.mp hj).1
      rw [List.length_append, List.length_singleton] at hlt
      obtain rfl : j = ys.length := by omega
      rw [List.getElem?_append_right (Nat.le_refl _), Nat.sub_self] at hj
      obtain rfl := Option.some.inj hj
      rw [hl]
      exact r
  · rintro H ⟨hm, ys, hy, hl, hp⟩
    exact hd H ys hm hy hl hp
/-- all of them: when each is a Bool -/
theorem bools_of : ∀ {ys : List V} {f : Nat → Bool}, (∀ (i : Nat) y, ys[i]? = some y → y = V.bl (f i)) → ys = ((List.range ys.length).map f).map V.bl := by
  intro ys f h
  apply List.ext_getElem?
  intro i
  cases e : ys[i]? with
  | none =>
    have := List.getElem?_eq_none_iff.mp e
    rw [List.getElem?_eq_none (by simp; omega)]
  | some y =>
    have hlt := (List.getElem?_eq_some_iff.mp e).1
    rw [h i y e, List.getElem?_map, List.getElem?_map, List.getElem?_range hlt]
    rfl
theorem all_range {n : Nat} {f : Nat → Bool} (h : ∀ i, i < n → f i = true) : ((List.range n).map f).all id = true := by
  rw [List.all_map, List.all_eq_true]
  exact fun i hi => h i (List.mem_range.mp hi)
theorem range_all {l : List Nat} {p : Nat → Bool} : ((List.range l.length).map fun i => p (l[i]?.getD 0)).all id = l.all p := by
  rw [Bool.eq_iff_iff, List.all_map, List.all_eq_true, List.all_eq_true]
  constructor
  · intro h x hx
    obtain ⟨i, hi⟩ := List.mem_iff_getElem?.mp hx
    have := h i (List.mem_range.mpr (List.getElem?_eq_some_iff.mp hi).1)
    simpa [hi] using this
  · intro h i hi
    have lt := List.mem_range.mp hi
    have := h l[i] (List.getElem_mem lt)
    simpa [List.getElem?_eq_getElem lt] using this
/-- the module's constants -/
structure Cst (mg : Str → Option Value) : Prop where
  longest : ∃ t, mg "LONGEST" = some (.int 8 t)
  letters : ∃ t, mg "LETTERS" = some (.str "abcdefghijklmnopqrstuvwxyz" t)
  most : ∃ t, mg "MOST_STANDINGS" = some (.int 5 t)
  many : ∃ t, mg "MOST_DEEDS" = some (.int 4 t)
def NotStr (K : PySem.W.Frag) (H : Hp) (v : V) : Prop := ∃ t, TyX K H v t ∧ PySem.W.kitOne K t (.type "str") = some false
def spIsName (K : PySem.W.Frag) : Sp := fun vs H Q _ => ∃ v, vs = [v] ∧ ((∃ w, v = .str w ∧ w.length ≤ sizeLine ∧ ∀ H', Same H H' → Q (.bl (isNameB w)) H') ∨ (NotStr K H v ∧ Q (.bl false) H))
theorem tyS {K : PySem.W.Frag} {H : Hp} (w : Str) : TyX K H (.str w) (.type "str") := .base (.str w)
theorem kitS {K : PySem.W.Frag} : PySem.W.kitOne K (.type "str") (.type "str") = some true := kit_ty (by decide +kernel)
theorem letter_iff (c : Nat) : decide (c ∈ ("abcdefghijklmnopqrstuvwxyz" : Str).cps.toList) = (decide (97 ≤ c) && decide (c ≤ 122)) := by
  have h : ("abcdefghijklmnopqrstuvwxyz" : Str).cps.toList = (List.range 26).map (97 + ·) := by decide +kernel
  rw [h, Bool.eq_iff_iff, Bool.and_eq_true, decide_eq_true_iff, decide_eq_true_iff, decide_eq_true_iff, List.mem_map]
  constructor
  · rintro ⟨k, hk, rfl⟩
    have := List.mem_range.mp hk
    omega
  · rintro ⟨h1, h2⟩
    exact ⟨c - 97, List.mem_range.mpr (by omega), by omega⟩
end Pl
end L2
namespace Bs
open PySem PySem.Spec PyProof.Rows L2 L2.Pl
section
variable {P : Program} {w : World} {K : PySem.W.Frag} {mg : Str → Option Value} {base : Heap} {f : Addr} {fd : FuncData}
theorem scIsName : FnScope ["value", "letter"] ["value"] (defScope sIsName) := ⟨rfl, rfl, rfl, by decide +kernel, rfl, by decide +kernel, by decide +kernel⟩
theorem ok_isName (G : Gn mg) (C : Cst mg) (F : FnP K "is_name" sIsName f fd) : FnOk P w K mg base CX0 1 f fd ["value"] (spIsName K) := by
  obtain ⟨tl, hl⟩ := C.longest
  obtain ⟨ta, ha⟩ := C.letters
  refine F.ok scIsName (fun vs H Q E h => ?_) (fun cdv A outer s H vs Q E hr h => ?_)
  · obtain ⟨_, rfl, _⟩ := h
    rfl
  · obtain ⟨v, rfl, h⟩ := h
    refine ⟨_, PSs.nox (pss_cons (ps_if (PW.pt (pw_or (pt_not (pt_val (pe_callB call_isi (by rfl) G.isi bIsi (pa_cons (pv 0) (pa_cons (pe_bltn (v := .ty "str") (by rfl) G.str bStr rfl) pa_nil))))) (pw_or1 (pt_not (pt_chain op_le op_le pe_int (pe_callB call_len (by rfl) G.len bLen (pa_cons (pv 0) pa_nil)) (pe_glob (v := .int 8) (by rfl) hl ⟨_, rfl⟩))))))
        (pss_one (ps_ret pe_bl)) pss_nil)
      (pss_one (ps_ret (pe_callB (cr_all rfl) (by rfl) G.all bAll (pa_cons (pe_lc (own := [("letter", 1)]) (g := gName 1) (tt := tYes) (te := tOp (fun x y H Q => ∃ (c : Nat) (z : Str), x = .str ⟨#[c]⟩ ∧ y = .str z ∧ Q (.bl (decide (c ∈ z.cps.toList))) H) (tVar 1) (tC (.str "abcdefghijklmnopqrstuvwxyz"))) rfl scIsName.nd (pi_str (pv 0)) (blkOk_by (N := ["value", "letter"]) (sc := defScope sIsName) (by decide +kernel)) (fun _ _ _ _ _ => pg_name (i := 1) scIsName.nd rfl (.inl rfl)) (fun _ _ _ _ _ => pts_nil) (fun _ _ _ _ _ => pe_cmpR op_in_sign (pv 1) (pe_glob (v := .str "abcdefghijklmnopqrstuvwxyz") (by rfl) ha ⟨_, rfl⟩) (by rfl))) pa_nil))))), ?_⟩
    rcases h with ⟨w, rfl, hw, q⟩ | ⟨⟨t, ty, kt⟩, q⟩
    · refine ⟨_, rfl, .str w, .ty "str", _, _, true, rfl, .ty _, tyS w, kitS, true, rfl, iteF ⟨_, rfl, _, w.length, rfl, ⟨hw, rfl⟩, _, _, rfl, rfl, _, rfl, ?_⟩⟩
      by_cases h1 : 1 ≤ w.length
      · rw [show decide ((1 : Int) ≤ ((w.length : Nat) : Int)) = true from decide_eq_true (by omega)]
        refine iteT ⟨_, _, rfl, rfl, _, rfl, ?_⟩
        by_cases h8 : w.length ≤ 8
        · rw [show decide (((w.length : Nat) : Int) ≤ (8 : Int)) = true from decide_eq_true (by omega)]
          refine iteF ⟨_, rfl, w, rfl, fun D hD => ?_⟩
          refine lc_ix walk_str (fun i y => ∃ c, w.cps[i]? = some c ∧ y = .bl (decide (97 ≤ c) && decide (c ≤ 122))) hD (fun _ _ => trivial) (by show w.length ≤ 1000; omega) (fun i x H2 H3 N YK hi m2 _ hx ky => ?_) (fun H2 ys m2 hy ly ry => ?_)
          · obtain ⟨rfl, c, hc, rfl⟩ := hx
            refine ⟨rfl, iteT (B := N H3) ⟨_, rfl, c, _, rfl, rfl, ?_⟩⟩
            rw [letter_iff]
            exact ky _ _ m2 rfl ⟨c, hc, rfl⟩
          · have e := bools_of (f := fun i => (decide (97 ≤ w.cps[i]?.getD 0) && decide (w.cps[i]?.getD 0 ≤ 122))) fun i y hi => by
              obtain ⟨c, hc, rfl⟩ := ry i y hi
              rw [hc]
              rfl
            refine ⟨D, _, rfl, SqL.of (hy.trans (congrArg (fun z => some (HO.lst z)) e)), ?_⟩
            have e2 : ((List.range ys.length).map fun i => (decide (97 ≤ w.cps[i]?.getD 0) && decide (w.cps[i]?.getD 0 ≤ 122))).all id = isNameB w := by
              unfold isNameB
              rw [decide_eq_true h1, decide_eq_true h8, Bool.true_and, Bool.true_and, ← range_all, ly]
              simp only [Array.getElem?_toList, Array.length_toList]
            rw [e2]
            exact q H2 m2
        · rw [show decide (((w.length : Nat) : Int) ≤ (8 : Int)) = false from decide_eq_false (by omega)]
          have e : isNameB w = false := by
            unfold isNameB
            rw [decide_eq_false h8, Bool.false_and, Bool.and_false]
          rw [e] at q
          exact iteT (q H (Same.refl H))
      · rw [show decide ((1 : Int) ≤ ((w.length : Nat) : Int)) = false from decide_eq_false (by omega)]
        have e : isNameB w = false := by
          unfold isNameB
          rw [decide_eq_false h1, Bool.false_and]
        rw [e] at q
        exact iteF ⟨_, rfl, iteT (q H (Same.refl H))⟩
    · exact ⟨_, rfl, v, .ty "str", t, _, false, rfl, .ty _, ty, kt, false, rfl, iteT (iteT q)⟩
end
end Bs
set_option Elab.async false
set_option linter.all false
set_option maxRecDepth 100000
set_option maxHeartbeats 2000000
namespace L2
namespace Pl
open PySem PySem.Spec PyProof.Rows
/-! ### dicts from names to names -/
abbrev kvS (ps : List (Str × Str)) : List (Key × V) := ps.map fun p => (Sum.inr p.1, V.str p.2)
theorem valV_kvS {x : Str} : ∀ {ps : List (Str × Str)}, valV (kvS ps) (Sum.inr x : Key) = (ps.lookup x).map V.str
  | [] => rfl
  | p :: r => by
    have ih := valV_kvS (x := x) (ps := r)
    unfold valV at ih ⊢
    rw [show kvS (p :: r) = ((Sum.inr p.1, V.str p.2) : Key × V) :: kvS r from rfl, List.find?_cons, List.lookup_cons]
    by_cases h : p.1 = x
    · subst h
      simp
    · have h1 : decide ((Sum.inr p.1 : Key) = Sum.inr x) = false := decide_eq_false fun e => h (Sum.inr.inj e)
      have h2 : (x == p.1) = false := beq_eq_false_iff_ne.mpr (Ne.symm h)
      rw [h2]
      dsimp only
      rw [h1]
      exact ih
theorem kV_str {x : Str} : kV (Sum.inr x) = V.str x := rfl
theorem dget_str {H : Hp} {a : Addr} {kvs : List (Key × V)} {x : Str} (e : Rd H a (.dK kvs)) : DGet H a (.str x) (valV kvs (Sum.inr x)) := .inl ⟨kvs, Sum.inr x, e, rfl, rfl⟩
theorem kit_list {K : PySem.W.Frag} : PySem.W.kitAny K (.type "list") [.type "list", .type "tuple"] = some true := kitAny_cons (b := true) (kit_ty (by decide +kernel)) (fun z => by cases z) (fun _ => rfl)
theorem kit_dict {K : PySem.W.Frag} : PySem.W.kitOne K (.type "dict") (.type "dict") = some true := kit_ty (by decide +kernel)
/-- all of ys are True -/
theorem trues_of : ∀ {ys : List V}, (∀ (i : Nat) y, ys[i]? = some y → y = V.bl true) → ys = (List.replicate ys.length true).map V.bl
  | [], _ => rfl
  | y :: r, h => by
    rw [List.length_cons, List.replicate_succ, List.map_cons, h 0 y rfl, ← trues_of fun i z hi => h (i + 1) z hi]
theorem trues_all (n : Nat) : (List.replicate n true).all id = true := List.all_eq_true.mpr fun b hb => List.eq_of_mem_replicate hb
theorem mut_dK {kvs : List (Key × V)} : Mut (some (HO.dK kvs)) := trivial
theorem same_unlock {H H' : Hp} {d : Addr} {u o : HO} (e : H d = some u) (m : Same (upd H d o) H') : Same H (upd H' d u) := fun b x z => by
  by_cases h : b = d
  · rw [h, upd_same]
    rw [h, e] at z
    exact z
  · exact (upd_ne h).trans (m b x ((upd_ne h).trans z))
/-- ps tells something for each of ws, and for no others -/
structure Full (ps : List (Str × Str)) (ws : List Str) : Prop where
  len : ps.length = ws.length
  has : ∀ x ∈ ws, (ps.lookup x).isSome = true
def spRStand (K : PySem.W.Frag) : Sp := fun vs H Q _ => ∃ a ws, vs = [.ref a] ∧ H a = some (.lst (sV ws)) ∧ 1 ≤ ws.length ∧ ws.length ≤ 5 ∧ ws.Nodup ∧ (∀ x ∈ ws, IsName x) ∧ ∀ H', Same H H' → Q (.bl true) H'
def spFromAll (K : PySem.W.Frag) : Sp := fun vs H Q _ => ∃ d a ps ws, vs = [.ref d, .ref a] ∧ H d = some (.dK (kvS ps)) ∧ SqL K H a (sV ws) ∧ ws.length ≤ 5 ∧ Full ps ws ∧ ∀ H', Same H H' → Q (.bl true) H'
def spRLeads (K : PySem.W.Frag) : Sp := fun vs H Q _ => ∃ d a ps ws, vs = [.ref d, .ref a] ∧ H d = some (.dK (kvS ps)) ∧ SqL K H a (sV ws) ∧ ws.length ≤ 5 ∧ Full ps ws ∧ (∀ p ∈ ps, p.2 ∈ ws) ∧ ∀ H', Same H H' → Q (.bl true) H'
def spRLooks (K : PySem.W.Frag) : Sp := fun vs H Q _ => ∃ d a ps ws, vs = [.ref d, .ref a] ∧ H d = some (.dK (kvS ps)) ∧ SqL K H a (sV ws) ∧ ws.length ≤ 5 ∧ Full ps ws ∧ (∀ p ∈ ps, IsName p.2) ∧ ∀ H', Same H H' → Q (.bl true) H'
theorem nameB_of {w : Str} (h : IsName w) : isNameB w = true := by
  unfold isNameB
  rw [decide_eq_true h.pos, decide_eq_true h.len, Bool.true_and, Bool.true_and, List.all_eq_true]
  intro c hc
  obtain ⟨h1, h2⟩ := h.low c hc
  rw [decide_eq_true h1, decide_eq_true h2]
  rfl
theorem nameLine {w : Str} (h : IsName w) : w.length ≤ sizeLine := Nat.le_trans h.len (by decide)
end Pl
end L2
namespace Bs
open PySem PySem.Spec PyProof.Rows L2 L2.Pl
section
variable {P : Program} {w : World} {K : PySem.W.Frag} {mg : Str → Option Value} {base : Heap} {f : Addr} {fd : FuncData}
theorem scRStand : FnScope ["value", "entry"] ["value"] (defScope sRStand) := ⟨rfl, rfl, rfl, by decide +kernel, rfl, by decide +kernel, by decide +kernel⟩
theorem ok_rstand (G : Gn mg) (C : Cst mg) (F : FnP K "right_standings" sRStand f fd) (hN : Has P w K mg base CX0 "is_name" 1 ["value"] (spIsName K)) : FnOk P w K mg base CX0 2 f fd ["value"] (spRStand K) := by
  obtain ⟨tl, hl⟩ := C.most
  obtain ⟨fN, dN, oN, bN, gN, kN⟩ := hN.ex
  refine F.ok scRStand (fun vs H Q E h => ?_) (fun cdv A outer s H vs Q E hr h => ?_)
  · obtain ⟨_, _, rfl, _⟩ := h
    rfl
  · obtain ⟨a, ws, rfl, ha, h1, h5, hnd, hnm, q⟩ := h
    refine ⟨_, PSs.nox (pss_cons (ps_if (PW.pt (pw_or (pt_not (pt_val (pe_callB call_isiT (by rfl) G.isi bIsi (pa_cons (pv 0) (pa_cons (pe_tup (pa_cons (pe_bltn (v := .ty "list") (by rfl) G.list bList rfl) (pa_cons (pe_bltn (v := .ty "tuple") (by rfl) G.tuple bTuple rfl) pa_nil))) pa_nil))))) (pw_or1 (pt_not (pt_chain op_le op_le pe_int (pe_callB call_len (by rfl) G.len bLen (pa_cons (pv 0) pa_nil)) (pe_glob (v := .int 5) (by rfl) hl ⟨_, rfl⟩))))))
        (pss_one (ps_ret pe_bl)) pss_nil)
      (pss_one (ps_ret (pe_and (pe_callB (cr_all rfl) (by rfl) G.all bAll (pa_cons (pe_lc (own := [("entry", 1)]) (g := gName 1) (tt := tYes) (te := tCall (spIsName K) [] E0 (tCons (tVar 1) tNil)) rfl scRStand.nd (pi_list (pv 0)) (blkOk_by (N := ["value", "entry"]) (sc := defScope sRStand) (by decide +kernel)) (fun _ _ _ _ _ => pg_name (i := 1) scRStand.nd rfl (.inl rfl)) (fun _ _ _ _ _ => pts_nil) (fun _ _ _ _ _ => pe_call oN hr (by rfl) gN kN bN .nil pass0 (pa_cons (pv 1) pa_nil))) pa_nil))
        (pe_one (pe_cmpR op_eq (pe_lenSetS rfl (by rfl) G.len (by rfl) G.set (pv 0)) (pe_callB call_len (by rfl) G.len bLen (pa_cons (pv 0) pa_nil)) (nomark _))))))), ?_⟩
    refine ⟨_, rfl, by show 2 ≤ sizeLine; decide, fun t ht => ⟨.ref a, t, _, _, _, true, rfl, upd_same, .cons (.ty _) (.cons (.ty _) .nil), .base (.lst ((upd_ne (ne_of_none ha ht)).trans ha)), kit_list, true, rfl, iteF ?_⟩⟩
    have ha1 : (upd H t (.tup [.ty "list", .ty "tuple"])) a = some (.lst (sV ws)) := (upd_ne (ne_of_none ha ht)).trans ha
    have lws : (sV ws).length = ws.length := List.length_map _
    have m1 : Same H (upd H t (.tup [.ty "list", .ty "tuple"])) := same_new ht
    refine ⟨_, rfl, _, (sV ws).length, rfl, .inl ⟨_, SqL.of ha1, rfl⟩, _, _, rfl, rfl, _, rfl, ?_⟩
    rw [lws, show decide ((1 : Int) ≤ ((ws.length : Nat) : Int)) = true from decide_eq_true (by omega)]
    refine iteT ⟨_, _, rfl, rfl, _, rfl, ?_⟩
    rw [show decide (((ws.length : Nat) : Int) ≤ (5 : Int)) = true from decide_eq_true (by omega)]
    refine iteF ⟨_, rfl, a, rfl, ⟨_, SqL.of ha1⟩, fun D hD => ?_⟩
    refine lc_ix (walk_list (K := K) (a := a) (xs := sV ws)) (fun _ y => y = .bl true) hD (fun H2 m2 => SqL.of (m2 _ _ ha1)) (by rw [lws]; omega) (fun i x H2 H3 N YK hi m2 iD hx ky => ?_) (fun H2 ys m2 hy ly ry => ?_)
    · obtain ⟨rfl, hx⟩ := hx
      obtain ⟨z, hz, rfl⟩ := List.mem_map.mp (List.mem_of_getElem? hx)
      refine ⟨rfl, iteT (B := N H3) ⟨_, rfl, .str z, rfl, .inl ⟨z, rfl, nameLine (hnm z hz), fun H4 m4 => ?_⟩⟩⟩
      rw [nameB_of (hnm z hz)]
      obtain ⟨o, ho⟩ := iD
      exact ky _ _ (m2.trans m4) (by rw [ho, m4 _ _ ho]) rfl
    · refine ⟨D, _, rfl, SqL.of (hy.trans (congrArg (fun z => some (HO.lst z)) (trues_of ry))), ?_⟩
      rw [trues_all]
      refine ⟨_, rfl, iteT ⟨_, rfl, a, ws, rfl, SqL.of (m2 _ _ ha1), by omega, _, rfl, _, (sV ws).length, rfl, .inl ⟨_, SqL.of (m2 _ _ ha1), rfl⟩, rfl, ?_⟩⟩
      show Q (.bl (decide (V.int ((PlayL.metS ws).length : Nat) = V.int ((sV ws).length : Nat)))) H2
      rw [(PlayL.metS_nd _ ws rfl).mpr hnd, lws, decide_eq_true rfl]
      exact q H2 (m1.trans m2)
theorem scFromAll : FnScope ["value", "standings", "standing"] ["value", "standings"] (defScope sFromAll) := ⟨rfl, rfl, rfl, by decide +kernel, rfl, by decide +kernel, by decide +kernel⟩
theorem ok_fromAll (G : Gn mg) (F : FnP K "from_all" sFromAll f fd) : FnOk P w K mg base CX0 1 f fd ["value", "standings"] (spFromAll K) := by
  refine F.ok scFromAll (fun vs H Q E h => ?_) (fun cdv A outer s H vs Q E hr h => ?_)
  · obtain ⟨_, _, _, _, rfl, _⟩ := h
    rfl
  · obtain ⟨d, a, ps, ws, rfl, hd, ha, h5, fu, q⟩ := h
    refine ⟨_, PSs.nox (pss_cons (ps_if (PW.pt (pw_or (pt_not (pt_val (pe_callB call_isi (by rfl) G.isi bIsi (pa_cons (pv 0) (pa_cons (pe_bltn (v := .ty "dict") (by rfl) G.dict bDict rfl) pa_nil))))) (pw_or1 (pt_cmpR op_ne (pe_callB call_lenD (by rfl) G.len bLen (pa_cons (pv 0) pa_nil)) (pe_callB call_len_seq (by rfl) G.len bLen (pa_cons (pv 1) pa_nil)) (nomark _)))))
        (pss_one (ps_ret pe_bl)) pss_nil)
      (pss_one (ps_ret (pe_callB (cr_all rfl) (by rfl) G.all bAll (pa_cons (pe_lc (own := [("standing", 2)]) (g := gName 2) (tt := tYes) (te := tDIn (tVar 2) (tVar 0)) rfl scFromAll.nd (pi_list (pv 1)) (blkOk_by (N := ["value", "standings", "standing"]) (sc := defScope sFromAll) (by decide +kernel)) (fun _ _ _ _ _ => pg_name (i := 2) scFromAll.nd rfl (.inl rfl)) (fun _ _ _ _ _ => pts_nil) (fun _ _ _ _ _ => pe_cmp (pc_din (hu_of hr) (pv 2) (pv 0)) rfl)) pa_nil))))), ?_⟩
    refine ⟨_, rfl, .ref d, .ty "dict", _, _, true, rfl, .ty _, .base (.dK hd), kit_dict, true, rfl, iteF ⟨_, rfl, d, _, rfl, hd, _, rfl, a, _, rfl, .inl ha, rfl, _, rfl, ?_⟩⟩
    have e : V.int ((kvS ps).length : Nat) = V.int ((sV ws).length : Nat) := by rw [List.length_map, List.length_map, fu.len]
    refine iteNS e ⟨_, rfl, a, rfl, ⟨_, ha⟩, fun D hD => ?_⟩
    refine lc_ix (walk_list (K := K) (a := a) (xs := sV ws)) (fun _ y => y = .bl true) hD (fun H2 m2 => m2.seq ha) (by rw [List.length_map]; omega) (fun i x H2 H3 N YK hi m2 iD hx ky => ?_) (fun H2 ys m2 hy ly ry => ?_)
    · obtain ⟨rfl, hx⟩ := hx
      obtain ⟨z, hz, rfl⟩ := List.mem_map.mp (List.mem_of_getElem? hx)
      refine ⟨rfl, iteT (B := N H3) ⟨_, rfl, _, rfl, d, _, rfl, dget_str (.inl (m2 _ _ hd)), ?_⟩⟩
      rw [valV_kvS, Option.isSome_map, fu.has z hz]
      exact ky _ _ m2 rfl rfl
    · refine ⟨D, _, rfl, SqL.of (hy.trans (congrArg (fun z => some (HO.lst z)) (trues_of ry))), ?_⟩
      rw [trues_all]
      exact q H2 m2
theorem scRLeads : FnScope ["value", "standings", "behind"] ["value", "standings"] (defScope sRLeads) := ⟨rfl, rfl, rfl, by decide +kernel, rfl, by decide +kernel, by decide +kernel⟩
theorem ok_rleads (G : Gn mg) (F : FnP K "right_leads" sRLeads f fd) (hA : Has P w K mg base CX0 "from_all" 1 ["value", "standings"] (spFromAll K)) : FnOk P w K mg base CX0 2 f fd ["value", "standings"] (spRLeads K) := by
  obtain ⟨fA, dA, oA, bA, gA, kA⟩ := hA.ex
  refine F.ok scRLeads (fun vs H Q E h => ?_) (fun cdv A outer s H vs Q E hr h => ?_)
  · obtain ⟨_, _, _, _, rfl, _⟩ := h
    rfl
  · obtain ⟨d, a, ps, ws, rfl, hd, ha, h5, fu, hin, q⟩ := h
    refine ⟨_, PSs.nox (pss_cons (ps_if (pt_not (pt_val (pe_call oA hr (by rfl) gA kA bA .nil pass0 (pa_cons (pv 0) (pa_cons (pv 1) pa_nil))))) (pss_one (ps_ret pe_bl)) pss_nil)
      (pss_one (ps_ret (pe_callB (cr_all rfl) (by rfl) G.all bAll (pa_cons (pe_lock (pe_lc (own := [("behind", 2)]) (g := gName 2) (tt := tYes) (te := tAndV (tCB (rIsi K) (tCons (tVar 2) (tCons (tC (.ty "str")) tNil))) (tOp (rIn K false) (tVar 2) (tVar 1))) rfl scRLeads.nd (pi_values (pv 0)) (blkOk_by (N := ["value", "standings", "behind"]) (sc := defScope sRLeads) (by decide +kernel)) (fun _ _ _ _ _ => pg_name (i := 2) scRLeads.nd rfl (.inl rfl)) (fun _ _ _ _ _ => pts_nil)
        (fun _ _ _ _ _ => pe_and (pe_callB call_isi (by rfl) G.isi bIsi (pa_cons (pv 2) (pa_cons (pe_bltn (v := .ty "str") (by rfl) G.str bStr rfl) pa_nil))) (pe_one (pe_cmpR op_in_seq (pv 2) (pv 1) (by with_unfolding_all rfl)))))) pa_nil))))), ?_⟩
    refine ⟨_, rfl, _, rfl, d, a, ps, ws, rfl, hd, ha, h5, fu, fun H1 m1 => ⟨true, rfl, iteF ?_⟩⟩
    refine ⟨d, _, m1 _ _ hd, mut_dK, fun od => ⟨_, rfl, d, od, kvS ps, rfl, upd_same, fun D hD => ?_⟩⟩
    have ha2 : SqL K (upd H1 d (.frz od (.dK (kvS ps)))) a (sV ws) := by
      rcases m1.seq ha with (h | ⟨o, h⟩) | h
      · exact .inl (.inl ((upd_ne (fun z => by rw [z, m1 _ _ hd] at h; cases h)).trans h))
      · exact .inl (.inr ⟨o, (upd_ne (fun z => by rw [z, m1 _ _ hd] at h; cases h)).trans h⟩)
      · exact .inr h
    refine lc_ix (walk_values (d := d) (o := od) (kvs := kvS ps)) (fun _ y => y = .bl true) hD (fun H2 m2 => m2 _ _ upd_same) (by rw [List.length_map, fu.len]; omega) (fun i x H2 H3 N YK hi m2 iD hx ky => ?_) (fun H2 ys m2 hy ly ry => ?_)
    · obtain ⟨rfl, k, hx⟩ := hx
      obtain ⟨p, hp, e⟩ := List.mem_map.mp (List.mem_of_getElem? hx)
      obtain rfl : V.str p.2 = x := congrArg Prod.snd e
      refine ⟨rfl, iteT (B := N H3) ⟨_, rfl, .str p.2, .ty "str", _, _, true, rfl, .ty _, tyS _, kitS, true, rfl, iteT ⟨_, rfl, _, rfl, a, sV ws, rfl, .inl (m2.seq ha2), rfl, L2.flat_strs ws, ?_⟩⟩⟩
      show YK (.bl (inV (V.str p.2) (sV ws))) H3
      rw [inV_strs, decide_eq_true (hin p hp)]
      exact ky _ _ m2 rfl rfl
    · refine ⟨m2 _ _ upd_same, D, _, rfl, SqL.of ((upd_ne ?_).trans (hy.trans (congrArg (fun z => some (HO.lst z)) (trues_of ry)))), ?_⟩
      · intro z
        rw [z, upd_same] at hD
        cases hD
      · rw [trues_all]
        exact q _ (m1.trans (same_unlock (m1 _ _ hd) m2))
theorem scRLooks : FnScope ["value", "standings", "seen"] ["value", "standings"] (defScope sRLooks) := ⟨rfl, rfl, rfl, by decide +kernel, rfl, by decide +kernel, by decide +kernel⟩
theorem ok_rlooks (G : Gn mg) (F : FnP K "right_looks" sRLooks f fd) (hA : Has P w K mg base CX0 "from_all" 1 ["value", "standings"] (spFromAll K)) (hN : Has P w K mg base CX0 "is_name" 1 ["value"] (spIsName K)) : FnOk P w K mg base CX0 2 f fd ["value", "standings"] (spRLooks K) := by
  obtain ⟨fA, dA, oA, bA, gA, kA⟩ := hA.ex
  obtain ⟨fN, dN, oN, bN, gN, kN⟩ := hN.ex
  refine F.ok scRLooks (fun vs H Q E h => ?_) (fun cdv A outer s H vs Q E hr h => ?_)
  · obtain ⟨_, _, _, _, rfl, _⟩ := h
    rfl
  · obtain ⟨d, a, ps, ws, rfl, hd, ha, h5, fu, hin, q⟩ := h
    refine ⟨_, PSs.nox (pss_cons (ps_if (pt_not (pt_val (pe_call oA hr (by rfl) gA kA bA .nil pass0 (pa_cons (pv 0) (pa_cons (pv 1) pa_nil))))) (pss_one (ps_ret pe_bl)) pss_nil)
      (pss_one (ps_ret (pe_callB (cr_all rfl) (by rfl) G.all bAll (pa_cons (pe_lock (pe_lc (own := [("seen", 2)]) (g := gName 2) (tt := tYes) (te := tCall (spIsName K) [] E0 (tCons (tVar 2) tNil)) rfl scRLooks.nd (pi_values (pv 0)) (blkOk_by (N := ["value", "standings", "seen"]) (sc := defScope sRLooks) (by decide +kernel)) (fun _ _ _ _ _ => pg_name (i := 2) scRLooks.nd rfl (.inl rfl)) (fun _ _ _ _ _ => pts_nil)
        (fun _ _ _ _ _ => pe_call oN hr (by rfl) gN kN bN .nil pass0 (pa_cons (pv 2) pa_nil)))) pa_nil))))), ?_⟩
    refine ⟨_, rfl, _, rfl, d, a, ps, ws, rfl, hd, ha, h5, fu, fun H1 m1 => ⟨true, rfl, iteF ?_⟩⟩
    refine ⟨d, _, m1 _ _ hd, mut_dK, fun od => ⟨_, rfl, d, od, kvS ps, rfl, upd_same, fun D hD => ?_⟩⟩
    refine lc_ix (walk_values (d := d) (o := od) (kvs := kvS ps)) (fun _ y => y = .bl true) hD (fun H2 m2 => m2 _ _ upd_same) (by rw [List.length_map, fu.len]; omega) (fun i x H2 H3 N YK hi m2 iD hx ky => ?_) (fun H2 ys m2 hy ly ry => ?_)
    · obtain ⟨rfl, k, hx⟩ := hx
      obtain ⟨p, hp, e⟩ := List.mem_map.mp (List.mem_of_getElem? hx)
      obtain rfl : V.str p.2 = x := congrArg Prod.snd e
      refine ⟨rfl, iteT (B := N H3) ⟨_, rfl, .str p.2, rfl, .inl ⟨p.2, rfl, nameLine (hin p hp), fun H4 m4 => ?_⟩⟩⟩
      rw [nameB_of (hin p hp)]
      obtain ⟨o, ho⟩ := iD
      exact ky _ _ (m2.trans m4) (by rw [ho, m4 _ _ ho]) rfl
    · refine ⟨m2 _ _ upd_same, D, _, rfl, SqL.of ((upd_ne ?_).trans (hy.trans (congrArg (fun z => some (HO.lst z)) (trues_of ry)))), ?_⟩
      · intro z
        rw [z, upd_same] at hD
        cases hD
      · rw [trues_all]
        exact q _ (m1.trans (same_unlock (m1 _ _ hd) m2))
end
end Bs
set_option Elab.async false
set_option linter.all false
set_option maxRecDepth 100000
set_option maxHeartbeats 2000000
namespace L2
namespace Pl
open PySem PySem.Spec PyProof.Rows
abbrev kvR (es : List (Str × Addr)) : List (Key × V) := es.map fun e => (Sum.inr e.1, V.ref e.2)
/-- a deed's entry: its name, the dict of its leads -/
def DeedAt (H : Hp) (e : Str × Addr) (p : Str × List (Str × Str)) : Prop := e.1 = p.1 ∧ H e.2 = some (.dK (kvS p.2))
theorem DeedAt.same {H H' : Hp} {e : Str × Addr} {p : Str × List (Str × Str)} (h : DeedAt H e p) (m : Same H H') : DeedAt H' e p := ⟨h.1, m _ _ h.2⟩
theorem putK_end {kvs : List (Key × V)} {k : Key} {v : V} (h : ∀ p ∈ kvs, p.1 ≠ k) : putK kvs k v = kvs ++ [(k, v)] := by
  unfold putK
  rw [if_neg]
  intro z
  obtain ⟨p, hp, e⟩ := List.any_eq_true.mp z
  exact h p hp (of_decide_eq_true e)
def spRDeeds (K : PySem.W.Frag) : Sp := fun vs H Q _ => ∃ d a es ds ws, vs = [.ref d, .ref a] ∧ H d = some (.dK (kvR es)) ∧ Paired (DeedAt H) es ds ∧ (∀ e ∈ es, e.2 ≠ d) ∧ SqL K H a (sV ws) ∧ ws.length ≤ 5 ∧ 1 ≤ ds.length ∧ ds.length ≤ 4 ∧ (∀ p ∈ ds, IsName p.1 ∧ Full p.2 ws ∧ ∀ q ∈ p.2, q.2 ∈ ws) ∧ ∀ H', Same H H' → Q (.bl true) H'
end Pl
end L2
namespace Bs
open PySem PySem.Spec PyProof.Rows L2 L2.Pl
section
variable {P : Program} {w : World} {K : PySem.W.Frag} {mg : Str → Option Value} {base : Heap} {f : Addr} {fd : FuncData}
abbrev NRD : List Str := ["value", "standings", "deed", "leads"]
theorem scRDeeds : FnScope NRD ["value", "standings"] (defScope sRDeeds) := ⟨rfl, rfl, rfl, by decide +kernel, rfl, by decide +kernel, by decide +kernel⟩
theorem seqL_frz {K : PySem.W.Frag} {H : Hp} {a d : Addr} {kvs : List (Key × V)} {o : HO} {xs : List V} (h : SqL K H a xs) (hd : H d = some (.dK kvs)) : SqL K (upd H d o) a xs := by
  rcases h with (h | ⟨o, h⟩) | h
  · exact .inl (.inl ((upd_ne (fun z => by rw [z, hd] at h; cases h)).trans h))
  · exact .inl (.inr ⟨o, (upd_ne (fun z => by rw [z, hd] at h; cases h)).trans h⟩)
  · exact .inr h
theorem ok_rdeeds (G : Gn mg) (C : Cst mg) (F : FnP K "right_deeds" sRDeeds f fd) (hL : Has P w K mg base CX0 "right_leads" 2 ["value", "standings"] (spRLeads K)) (hN : Has P w K mg base CX0 "is_name" 1 ["value"] (spIsName K)) : FnOk P w K mg base CX0 3 f fd ["value", "standings"] (spRDeeds K) := by
  obtain ⟨tl, hl⟩ := C.many
  obtain ⟨fL, dL, oL, bL, gL, kL⟩ := hL.ex
  obtain ⟨fN, dN, oN, bN, gN, kN⟩ := hN.ex
  refine F.ok scRDeeds (fun vs H Q E h => ?_) (fun cdv A outer s H vs Q E hr h => ?_)
  · obtain ⟨_, _, _, _, _, rfl, _⟩ := h
    rfl
  · obtain ⟨d, a, es, ds, ws, rfl, hd, hp, hne, ha, h5, h1, h4, hin, q⟩ := h
    have hr1 := hr.mono (j := 1) (by decide)
    refine ⟨_, PSs.nox (pss_cons (ps_if (PW.pt (pw_or (pt_not (pt_val (pe_callB call_isi (by rfl) G.isi bIsi (pa_cons (pv 0) (pa_cons (pe_bltn (v := .ty "dict") (by rfl) G.dict bDict rfl) pa_nil))))) (pw_or1 (pt_not (pt_chain op_le op_le pe_int (pe_callB call_lenD (by rfl) G.len bLen (pa_cons (pv 0) pa_nil)) (pe_glob (v := .int 4) (by rfl) hl ⟨_, rfl⟩))))))
        (pss_one (ps_ret pe_bl)) pss_nil)
      (pss_one (ps_ret (pe_callB (cr_all rfl) (by rfl) G.all bAll (pa_cons (pe_lock (pe_lc (own := [("deed", 2), ("leads", 3)]) (g := gTup K 2 (gCons (gName 2) (gCons (gName 3) gNil))) (tt := tYes) (te := tAndV (tCall (spIsName K) [] E0 (tCons (tVar 2) tNil)) (tCall (spRLeads K) [] E0 (tCons (tVar 3) (tCons (tVar 1) tNil)))) rfl scRDeeds.nd (pi_items (pv 0)) (blkOk_by (N := NRD) (sc := defScope sRDeeds) (by decide +kernel))
          (fun _ _ _ _ _ => pg_tup rfl (pgs_cons (pg_name (i := 2) scRDeeds.nd rfl (.inl rfl)) (pgs_cons (pg_name (i := 3) scRDeeds.nd rfl (.inl rfl)) pgs_nil))) (fun _ _ _ _ _ => pts_nil)
          (fun _ _ _ _ _ => pe_and (pe_call oN hr1 (by rfl) gN kN bN .nil pass0 (pa_cons (pv 2) pa_nil)) (pe_one (pe_call oL hr (by rfl) gL kL bL .nil pass0 (pa_cons (pv 3) (pa_cons (pv 1) pa_nil))))))) pa_nil))))), ?_⟩
    have hle : es.length = ds.length := hp.length
    have lkv : (kvR es).length = ds.length := (List.length_map _).trans hle
    refine ⟨_, rfl, .ref d, .ty "dict", _, _, true, rfl, .ty _, .base (.dK hd), kit_dict, true, rfl, iteF ⟨_, rfl, d, _, rfl, hd, _, _, rfl, rfl, _, rfl, ?_⟩⟩
    rw [lkv, show decide ((1 : Int) ≤ ((ds.length : Nat) : Int)) = true from decide_eq_true (by omega)]
    refine iteT ⟨_, _, rfl, rfl, _, rfl, ?_⟩
    rw [show decide (((ds.length : Nat) : Int) ≤ (4 : Int)) = true from decide_eq_true (by omega)]
    refine iteF ⟨d, _, hd, mut_dK, fun od => ⟨_, rfl, d, od, kvR es, rfl, upd_same, fun D hD => ?_⟩⟩
    have ha2 : SqL K (upd H d (.frz od (.dK (kvR es)))) a (sV ws) := seqL_frz ha hd
    refine lc_ix (walk_items (d := d) (o := od) (kvs := kvR es)) (fun _ y => y = .bl true) hD (fun H2 m2 => m2 _ _ upd_same) (by rw [lkv]; omega) (fun i x H2 H3 N YK hi m2 iD hx ky => ?_) (fun H2 ys m2 hy ly ry => ?_)
    · obtain ⟨T, x1, x2, rfl, nT, rfl, e1, e2⟩ := hx
      rw [List.length_map] at hi
      obtain ⟨e, he⟩ : ∃ e, es[i]? = some e := ⟨_, List.getElem?_eq_getElem hi⟩
      obtain ⟨p, hpi, hpe, hpd⟩ := L2.paired_get hp he
      have g : (kvR es)[i]? = some (Sum.inr e.1, V.ref e.2) := by
        rw [List.getElem?_map, he]
        rfl
      dsimp only at e1 e2
      rw [g] at e1 e2
      obtain rfl := Option.some.inj e1
      obtain rfl := Option.some.inj e2
      obtain ⟨n1, n2, n3⟩ := hin p (List.mem_of_getElem? hpi)
      obtain ⟨o, ho⟩ := iD
      have mT : Same H2 (upd H2 T (.tup [kV (Sum.inr e.1), .ref e.2])) := same_new nT
      refine ⟨T, _, rfl, .inl (.inl upd_same), rfl, _, [.ref e.2], rfl, _, [], rfl, rfl, rfl, iteT (B := N (upd H2 T (.tup [kV (Sum.inr e.1), .ref e.2]))) ?_⟩
      refine ⟨_, rfl, .str e.1, rfl, .inl ⟨e.1, rfl, nameLine (hpe ▸ n1), fun H4 m4 => ?_⟩⟩
      rw [nameB_of (hpe ▸ n1)]
      have nd : e.2 ≠ d := hne e (List.mem_of_getElem? he)
      have m24 := mT.trans m4
      refine ⟨true, rfl, iteT ⟨_, rfl, _, rfl, e.2, a, p.2, ws, rfl, m24 _ _ (m2 _ _ ((upd_ne nd).trans hpd)), m24.seq (m2.seq ha2), h5, n2, n3, fun H5 m5 => ky _ _ (m2.trans (m24.trans m5)) ?_ rfl⟩⟩
      rw [ho, (m24.trans m5) _ _ ho]
    · refine ⟨m2 _ _ upd_same, D, _, rfl, SqL.of ((upd_ne ?_).trans (hy.trans (congrArg (fun z => some (HO.lst z)) (trues_of ry)))), ?_⟩
      · intro z
        rw [z, upd_same] at hD
        cases hD
      · rw [trues_all]
        exact q _ (same_unlock hd m2)
end
end Bs
set_option Elab.async false
set_option linter.all false
set_option maxRecDepth 100000
set_option maxHeartbeats 2000000
namespace L2
namespace Pl
open PySem PySem.Spec PyProof.Rows
/-- a dict comprehension: Pv by the turn and the heap, the new dict at D within -/
theorem dc_turns {J : It} {n : Nat} {G : Hp → Prop} {Y : Nat → Hp → V → Hp → Prop} (w : Walk J n G Y) {g : TG} {tt : TT} {tk tv : TE} {vs : List Nat} {σ : St} {H1 : Hp} {D : Addr} {Qd : Hp → Prop} (Pv : Nat → Hp → Prop) (h0 : Pv 0 (upd H1 D (.dK []))) (hG : ∀ i H, i ≤ n → Pv i H → G H)
    (hs : ∀ i x H H', i < n → Pv i H → Y i H x H' → g x (wipe σ vs) H' fun σ2 H2 => wipe σ2 vs = wipe σ vs ∧ tt σ2 H2 fun b H3 =>
      if b = true then tk σ2 H3 fun y H4 => tv σ2 H4 fun z H5 => ∃ kvs k, y = kV k ∧ H5 D = some (.dK kvs) ∧ kvs.length < sizeLine ∧ Pv (i + 1) (upd H5 D (.dK (putK kvs k z))) else Pv (i + 1) H3) (hd : ∀ H, Pv n H → Qd H) :
    ∃ W : Nat → Nat → Hp → Prop, (∃ m, W 0 m (upd H1 D (.dK []))) ∧ ∀ i m H, W i m H →
      (J.stop i H ∧ Qd H) ∨ (J.go i H ∧ ∃ Nx : Hp → Prop, (∀ H', Nx H' → ∃ m', m' < m ∧ W (i + 1) m' H') ∧ ∀ x H', J.yld i H x H' → g x (wipe σ vs) H' fun σ2 H2 => wipe σ2 vs = wipe σ vs ∧ tt σ2 H2 fun b H3 =>
        if b = true then tk σ2 H3 fun y H4 => tv σ2 H4 fun z H5 => ∃ kvs k, y = kV k ∧ H5 D = some (.dK kvs) ∧ kvs.length < sizeLine ∧ Nx (upd H5 D (.dK (putK kvs k z))) else Nx H3) := by
  refine ⟨fun i m H => m = n - i ∧ i ≤ n ∧ Pv i H, ⟨n, rfl, Nat.zero_le _, h0⟩, fun i m H ⟨e, hi, p⟩ => ?_⟩
  by_cases lt : i < n
  · exact .inr ⟨w.goes i H lt (hG i H hi p), Pv (i + 1), fun H' p' => ⟨n - (i + 1), by omega, rfl, lt, p'⟩, fun x H' y => hs i x H H' lt p (w.yields i H x H' lt (hG i H hi p) y)⟩
  · obtain rfl : i = n := by omega
    exact .inl ⟨w.stops H (hG i H hi p), hd H p⟩
/-! ### a store -/
structure Sd where
  names : List Str
  ds : List (Str × List (Str × Str))
  ls : List (Str × Str)
structure Sd.Ok (b : Sd) : Prop where
  n1 : 1 ≤ b.names.length
  n5 : b.names.length ≤ 5
  nd : b.names.Nodup
  nn : ∀ x ∈ b.names, IsName x
  d1 : 1 ≤ b.ds.length
  d4 : b.ds.length ≤ 4
  dd : (b.ds.map (·.1)).Nodup
  di : ∀ p ∈ b.ds, IsName p.1 ∧ Full p.2 b.names ∧ ∀ q ∈ p.2, q.2 ∈ b.names
  lf : Full b.ls b.names
  ln : ∀ p ∈ b.ls, IsName p.2
theorem del_upd0 {H : Hp} {p : Addr} {o : HO} : Same (del H p) (del (upd H p o) p) := fun b x z => by
  obtain ⟨n, z⟩ := del_some z
  exact del_of n ((upd_ne n).trans z)
theorem paired_left {α β : Type} {F : α → β → Prop} : ∀ {xs : List α} {ys : List β}, Paired F xs ys → ∀ {x : α}, x ∈ xs → ∃ y, y ∈ ys ∧ F x y
  | _, _, .cons h t, x, hx => by
    rcases List.mem_cons.mp hx with rfl | hx
    · exact ⟨_, List.mem_cons_self .., h⟩
    · obtain ⟨y, hy, f⟩ := paired_left t hx
      exact ⟨y, List.mem_cons_of_mem _ hy, f⟩
abbrev stFs (ts td dl dk : Addr) : List (Str × V) := [("_standings", .ref ts), ("_deeds", .ref td), ("_leads", .ref dl), ("_looks", .ref dk)]
def StAt (C : Addr) (H : Hp) (x : Addr) (b : Sd) : Prop := ∃ dx ts td dl dk es, H x = some (.ins C dx (stFs ts td dl dk)) ∧ H ts = some (.tup (sV b.names)) ∧ H td = some (.tup (sV (b.ds.map (·.1)))) ∧ H dl = some (.dK (kvR es)) ∧ Paired (DeedAt H) es b.ds ∧ H dk = some (.dK (kvS b.ls))
theorem StAt.same {C : Addr} {H H' : Hp} {x : Addr} {b : Sd} (h : StAt C H x b) (m : Same H H') : StAt C H' x b :=
  let ⟨dx, ts, td, dl, dk, es, h1, h2, h3, h4, h5, h6⟩ := h
  ⟨dx, ts, td, dl, dk, es, m _ _ h1, m _ _ h2, m _ _ h3, m _ _ h4, h5.mono fun _ _ q => q.same m, m _ _ h6⟩
structure StF (K : PySem.W.Frag) (mg : Str → Option Value) (C : Addr) : Prop where
  cl : Cls K C
  n1 : NoAttr K C "_standings"
  n2 : NoAttr K C "_deeds"
  n3 : NoAttr K C "_leads"
  n4 : NoAttr K C "_looks"
  gC : mg "Store" = some (.ref C)
def LdInv (H5 : Hp) (D : Addr) (ds : List (Str × List (Str × Str))) (i : Nat) (H : Hp) : Prop := Same H5 H ∧ ∃ es', H D = some (.dK (kvR es')) ∧ Paired (DeedAt (del H D)) es' (ds.take i)
def spInit (C : Addr) : Sp := fun vs H Q _ => ∃ (H0 : Hp) (x dx a d l : Addr) (es : List (Str × Addr)) (b : Sd), vs = [.ref x, .ref a, .ref d, .ref l] ∧ Same H0 H ∧ H0 x = none ∧ H x = some (.ins C dx []) ∧ H a = some (.lst (sV b.names)) ∧ H d = some (.dK (kvR es)) ∧ Paired (DeedAt H) es b.ds ∧ (∀ e ∈ es, e.2 ≠ d) ∧
  H l = some (.dK (kvS b.ls)) ∧ b.Ok ∧ ∀ H', Same H0 H' → StAt C H' x b → Q .non H'
end Pl
end L2
namespace Bs
open PySem PySem.Spec PyProof.Rows L2 L2.Pl
section
variable {P : Program} {w : World} {K : PySem.W.Frag} {mg : Str → Option Value} {base : Heap} {f : Addr} {fd : FuncData}
theorem putF_end {f : Str} {v : V} : ∀ {fs : List (Str × V)}, (∀ p ∈ fs, p.1 ≠ f) → putF f v fs = fs ++ [(f, v)]
  | [], _ => rfl
  | (g, x) :: r, h => by
    show (if g = f then (g, v) :: r else (g, x) :: putF f v r) = _
    rw [if_neg (h (g, x) (List.mem_cons_self ..)), putF_end fun p hp => h p (List.mem_cons_of_mem _ hp)]
    rfl
def noneB (f : Str) (gs : List Str) : Bool := gs.all fun g => decide (g ≠ f)
theorem putF_new {f : Str} {v : V} {fs : List (Str × V)} (h : noneB f (fs.map (·.1)) = true) : putF f v fs = fs ++ [(f, v)] :=
  putF_end fun p hp => of_decide_eq_true (List.all_eq_true.mp h p.1 (List.mem_map_of_mem hp))
theorem st_put2 {a b : V} : putF ("_deeds" : Str) b [(("_standings" : Str), a)] = [(("_standings" : Str), a), (("_deeds" : Str), b)] := putF_new (by show noneB ("_deeds" : Str) ["_standings"] = true; decide +kernel)
theorem st_put3 {a b c : V} : putF ("_leads" : Str) c [(("_standings" : Str), a), (("_deeds" : Str), b)] = [(("_standings" : Str), a), (("_deeds" : Str), b), (("_leads" : Str), c)] := putF_new (by show noneB ("_leads" : Str) ["_standings", "_deeds"] = true; decide +kernel)
theorem st_put4 {a b c d : V} : putF ("_looks" : Str) d [(("_standings" : Str), a), (("_deeds" : Str), b), (("_leads" : Str), c)] = [(("_standings" : Str), a), (("_deeds" : Str), b), (("_leads" : Str), c), (("_looks" : Str), d)] := putF_new (by show noneB ("_looks" : Str) ["_standings", "_deeds", "_leads"] = true; decide +kernel)
theorem keys_of {H : Hp} {es : List (Str × Addr)} {ds : List (Str × List (Str × Str))} (h : Paired (DeedAt H) es ds) : ((kvR es).map fun kv => kV kv.1) = sV (ds.map (·.1)) := by
  induction h with
  | nil => rfl
  | @cons e p es ds q _ ih =>
    show V.str e.1 :: ((kvR es).map fun kv => kV kv.1) = V.str p.1 :: sV (ds.map (·.1))
    rw [ih, q.1]
abbrev NIn : List Str := ["self", "standings", "deeds", "looks", "deed", "leads"]
abbrev sInit : Stmt := sStore 0
theorem scInit : FnScope NIn ["self", "standings", "deeds", "looks"] (defScope sInit) := ⟨rfl, rfl, rfl, by decide +kernel, rfl, by decide +kernel, by decide +kernel⟩
abbrev FnM (K : PySem.W.Frag) (x q : Str) (st : Stmt) (f : Addr) (fd : FuncData) : Prop := FunD K x q (defArgs st) (defBody st) (defScope st) [] [] f fd
theorem ok_init {C : Addr} (G : Gn mg) (T : StF K mg C) (F : FnM K "__init__" "Store.__init__" sInit f fd) (hS : Has P w K mg base CX0 "right_standings" 2 ["value"] (spRStand K)) (hD : Has P w K mg base CX0 "right_deeds" 3 ["value", "standings"] (spRDeeds K)) (hL : Has P w K mg base CX0 "right_looks" 2 ["value", "standings"] (spRLooks K)) :
    FnOk P w K mg base CX0 4 f fd ["self", "standings", "deeds", "looks"] (spInit C) := by
  obtain ⟨fS, dS, oS, bS, gS, kS⟩ := hS.ex
  obtain ⟨fD, dD, oD, bD, gD, kD⟩ := hD.ex
  obtain ⟨fL, dL, oL, bL, gL, kL⟩ := hL.ex
  refine F.ok scInit (fun vs H Q E h => ?_) (fun cdv A outer s H vs Q E hr h => ?_)
  · obtain ⟨_, _, _, _, _, _, _, _, rfl, _⟩ := h
    rfl
  · obtain ⟨H0, x, dx, a, d, l, es, b, rfl, s0, x0, hx, ha, hd, hp, hne, hl, ok, q⟩ := h
    have hr2 := hr.mono (j := 2) (by decide)
    refine ⟨_, PSs.nox (pss_cons (ps_if (pt_not (pt_val (pe_call oS hr2 (by rfl) gS kS bS .nil pass0 (pa_cons (pv 1) pa_nil)))) (pss_one ps_never) pss_nil)
      (pss_cons (ps_if (pt_not (pt_val (pe_call oD hr (by rfl) gD kD bD .nil pass0 (pa_cons (pv 2) (pa_cons (pv 1) pa_nil))))) (pss_one ps_never) pss_nil)
      (pss_cons (ps_if (pt_not (pt_val (pe_call oL hr2 (by rfl) gL kL bL .nil pass0 (pa_cons (pv 3) (pa_cons (pv 1) pa_nil))))) (pss_one ps_never) pss_nil)
      (pss_cons (ps_fld (pv 0) (pe_callTy call_tuple_of (by rfl) G.tuple bTuple (pa_cons (pv 1) pa_nil)) rfl)
      (pss_cons (ps_fld (pv 0) (pe_callTy (call_tupD rfl) (by rfl) G.tuple bTuple (pa_cons (pv 2) pa_nil)) rfl)
      (pss_cons (ps_fld (pv 0) (pe_lock (pe_dc (own := [("deed", 4), ("leads", 5)]) (g := gTup K 2 (gCons (gName 4) (gCons (gName 5) gNil))) (tt := tYes) (tk := tVar 4) (tv := tCB (fun xs H Q => ∃ (a : Addr) (kvs : List (Key × V)), xs = [.ref a] ∧ Rd H a (.dK kvs) ∧ ∀ p, H p = none → Q (.ref p) (upd H p (.dK kvs))) (tCons (tVar 5) tNil)) rfl scInit.nd (pi_items (pv 2)) (blkOk_by (N := NIn) (sc := defScope sInit) (by decide +kernel))
          (fun _ _ _ _ _ => pg_tup rfl (pgs_cons (pg_name (i := 4) scInit.nd rfl (.inl rfl)) (pgs_cons (pg_name (i := 5) scInit.nd rfl (.inl rfl)) pgs_nil))) (fun _ _ _ _ _ => pts_nil) (fun _ _ _ _ _ => pv 4) (fun _ _ _ _ _ => pe_callTy call_dictD (by rfl) G.dict bDict (pa_cons (pv 5) pa_nil)))) rfl)
      (pss_one (ps_fld (pv 0) (pe_callTy call_dictD (by rfl) G.dict bDict (pa_cons (pv 3) pa_nil)) rfl)))))))), ?_⟩
    refine ⟨_, rfl, a, b.names, rfl, ha, ok.n1, ok.n5, ok.nd, ok.nn, fun H1 m1 => ⟨true, rfl, iteF ?_⟩⟩
    refine ⟨_, rfl, _, rfl, d, a, es, b.ds, b.names, rfl, m1 _ _ hd, hp.mono (fun _ _ q => q.same m1), hne, SqL.of (m1 _ _ ha), ok.n5, ok.d1, ok.d4, ok.di, fun H2 m2 => ⟨true, rfl, iteF ?_⟩⟩
    have m12 := m1.trans m2
    refine ⟨_, rfl, _, rfl, l, a, b.ls, b.names, rfl, m12 _ _ hl, SqL.of (m12 _ _ ha), ok.n5, ok.lf, ok.ln, fun H3 m3 => ⟨true, rfl, iteF ?_⟩⟩
    have m13 := m12.trans m3
    have s3 := s0.trans m13
    have hx3 := m13 _ _ hx
    refine ⟨_, rfl, a, _, rfl, .inl ⟨SqL.of (m13 _ _ ha), fun ts hts => ?_⟩⟩
    have nts : x ≠ ts := ne_of_none hx3 hts
    refine ⟨_, rfl, x, C, dx, [], rfl, (upd_ne nts).trans hx3, T.cl, T.n1, by decide, ?_⟩
    have e4 : ∀ c o, c ≠ x → H3 c = some o → (upd (upd H3 ts (.tup (sV b.names))) x (.ins C dx (putF "_standings" (.ref ts) []))) c = some o := fun c o n e => (upd_ne n).trans ((upd_ne (ne_of_none e hts)).trans e)
    have s4 : Same H0 (upd (upd H3 ts (.tup (sV b.names))) x (.ins C dx (putF "_standings" (.ref ts) []))) := same_wr (same_wr s3 (s3.free hts)) x0
    have t4 : (upd (upd H3 ts (.tup (sV b.names))) x (.ins C dx (putF "_standings" (.ref ts) []))) ts = some (.tup (sV b.names)) := (upd_ne nts.symm).trans upd_same
    have x4 : (upd (upd H3 ts (.tup (sV b.names))) x (.ins C dx (putF "_standings" (.ref ts) []))) x = some (.ins C dx [("_standings", .ref ts)]) := upd_same
    generalize upd (upd H3 ts (.tup (sV b.names))) x (.ins C dx (putF "_standings" (.ref ts) [])) = H4 at *
    have nxd : d ≠ x := fun z => by
      rw [z, hx] at hd
      cases hd
    have nxl : l ≠ x := fun z => by
      rw [z, hx] at hl
      cases hl
    have d4 := e4 _ _ nxd (m13 _ _ hd)
    have l4 := e4 _ _ nxl (m13 _ _ hl)
    have nxe : ∀ (e : Str × Addr) (p : Str × List (Str × Str)), DeedAt H e p → e.2 ≠ x := fun e p h z => by
      have := h.2
      rw [z, hx] at this
      cases this
    have p4 : Paired (DeedAt H4) es b.ds := hp.mono fun e p h => ⟨h.1, e4 _ _ (nxe e p h) (m13 _ _ h.2)⟩
    refine ⟨_, rfl, d, _, rfl, .inl d4, fun td htd => ?_⟩
    have ntd : x ≠ td := ne_of_none x4 htd
    refine ⟨_, rfl, x, C, dx, _, rfl, (upd_ne ntd).trans x4, T.cl, T.n2, (by show 1 < 1000; decide), ?_⟩
    have e5 : ∀ c o, c ≠ x → H4 c = some o → (upd (upd H4 td (.tup ((kvR es).map fun kv => kV kv.1))) x (.ins C dx (putF "_deeds" (.ref td) [("_standings", .ref ts)]))) c = some o := fun c o n e => (upd_ne n).trans ((upd_ne (ne_of_none e htd)).trans e)
    have s5 : Same H0 (upd (upd H4 td (.tup ((kvR es).map fun kv => kV kv.1))) x (.ins C dx (putF "_deeds" (.ref td) [("_standings", .ref ts)]))) := same_wr (same_wr s4 (s4.free htd)) x0
    have td5 : (upd (upd H4 td (.tup ((kvR es).map fun kv => kV kv.1))) x (.ins C dx (putF "_deeds" (.ref td) [("_standings", .ref ts)]))) td = some (.tup (sV (b.ds.map (·.1)))) := by
      rw [upd_ne ntd.symm, upd_same, keys_of p4]
    have x5 : (upd (upd H4 td (.tup ((kvR es).map fun kv => kV kv.1))) x (.ins C dx (putF "_deeds" (.ref td) [("_standings", .ref ts)]))) x = some (.ins C dx [("_standings", .ref ts), ("_deeds", .ref td)]) := by
      rw [upd_same, st_put2]
    generalize upd (upd H4 td (.tup ((kvR es).map fun kv => kV kv.1))) x (.ins C dx (putF "_deeds" (.ref td) [("_standings", .ref ts)])) = H5 at *
    have nts5 : ts ≠ x := nts.symm
    have t5 := e5 _ _ nts5 t4
    have d5 := e5 _ _ nxd d4
    have l5 := e5 _ _ nxl l4
    have p5 : Paired (DeedAt H5) es b.ds := p4.mono fun e p h => ⟨h.1, e5 _ _ (fun z => by have := h.2; rw [z, x4] at this; cases this) h.2⟩
    -- the leads
    refine ⟨d, _, d5, mut_dK, fun od => ⟨_, rfl, d, od, kvR es, rfl, upd_same, fun D hD => ?_⟩⟩
    have hle : es.length = b.ds.length := hp.length
    refine dc_turns (walk_items (d := d) (o := od) (kvs := kvR es)) (LdInv (upd H5 d (.frz od (.dK (kvR es)))) D b.ds) ⟨same_new hD, [], upd_same, .nil⟩ (fun i H _ p => p.1 _ _ upd_same) (fun i y H6 H7 hi pv hx => ?_) (fun H6 pv => ?_)
    · obtain ⟨m6, es', hD6, pp⟩ := pv
      obtain ⟨T1, x1, x2, rfl, nT, rfl, e1, e2⟩ := hx
      rw [List.length_map] at hi
      obtain ⟨e, he⟩ : ∃ e, es[i]? = some e := ⟨_, List.getElem?_eq_getElem hi⟩
      obtain ⟨p, hpi, hpe, hpd⟩ := L2.paired_get p5 he
      have g : (kvR es)[i]? = some (Sum.inr e.1, V.ref e.2) := by
        rw [List.getElem?_map, he]
        rfl
      dsimp only at e1 e2
      rw [g] at e1 e2
      obtain rfl := Option.some.inj e1
      obtain rfl := Option.some.inj e2
      have nd : e.2 ≠ d := hne e (List.mem_of_getElem? he)
      have mT : Same H6 (upd H6 T1 (.tup [kV (Sum.inr e.1), .ref e.2])) := same_new nT
      have hDs : D ≠ T1 := ne_of_none hD6 nT
      refine ⟨T1, _, rfl, .inl (.inl upd_same), rfl, _, [.ref e.2], rfl, _, [], rfl, rfl, rfl, iteT (B := LdInv (upd H5 d (.frz od (.dK (kvR es)))) D b.ds (i + 1) (upd H6 T1 (.tup [kV (Sum.inr e.1), .ref e.2]))) ⟨_, rfl, _, rfl, e.2, kvS p.2, rfl, .inl (mT _ _ (m6 _ _ ((upd_ne nd).trans hpd))), fun r hr => ⟨kvR es', Sum.inr e.1, rfl, ?_, ?_, ?_⟩⟩⟩
      · have nr : D ≠ r := ne_of_none ((upd_ne hDs).trans hD6) hr
        exact (upd_ne nr).trans ((upd_ne hDs).trans hD6)
      · have := pp.length
        have h4 := ok.d4
        rw [List.length_take] at this
        rw [List.length_map]
        exact small1000 (by omega)
      · have nr : D ≠ r := ne_of_none ((upd_ne hDs).trans hD6) hr
        have m7 : Same H6 (upd (upd H6 T1 (.tup [kV (Sum.inr e.1), .ref e.2])) r (.dK (kvS p.2))) := same_wr mT (mT.free hr)
        have hk : putK (kvR es') (Sum.inr e.1 : Key) (.ref r) = kvR (es' ++ [(e.1, r)]) := by
          rw [putK_end]
          · show kvR es' ++ [(Sum.inr e.1, V.ref r)] = List.map _ (es' ++ [(e.1, r)])
            rw [List.map_append]
            rfl
          · intro q hq z
            obtain ⟨e3, h3, rfl⟩ := List.mem_map.mp hq
            obtain ⟨p3, hp3, e4⟩ := paired_left pp h3
            have e5 : p3.1 = p.1 := (e4.1.symm.trans (Sum.inr.inj z)).trans hpe
            obtain ⟨j, hj⟩ := List.mem_iff_getElem?.mp hp3
            rw [List.getElem?_take] at hj
            split at hj
            · rename_i hji
              have a1 : (b.ds.map (·.1))[j]? = some p.1 := by rw [List.getElem?_map, hj]; exact congrArg some e5
              have a2 : (b.ds.map (·.1))[i]? = some p.1 := by rw [List.getElem?_map, hpi]; rfl
              have := (List.getElem?_inj (List.getElem?_eq_some_iff.mp a1).1 ok.dd).mp (a1.trans a2.symm)
              omega
            · cases hj
        rw [hk]
        refine ⟨same_wr (m6.trans m7) hD, es' ++ [(e.1, r)], upd_same, ?_⟩
        rw [List.take_succ, hpi]
        exact (pp.mono fun _ _ q => q.same ((del_mono m7).trans del_upd0)).snoc ⟨hpe, del_of nr.symm ((upd_ne nr.symm).trans upd_same)⟩
    · obtain ⟨m6, es', hD6, pp⟩ := pv
      rw [List.length_map, hle, List.take_length] at pp
      have nDd : D ≠ d := fun z => by
        rw [z, upd_same] at hD
        cases hD
      have D0 : H5 D = none := (upd_ne nDd).symm.trans hD
      have m7 := same_unlock d5 m6
      refine ⟨m6 _ _ upd_same, ?_⟩
      have x7 := m7 _ _ x5
      refine ⟨_, rfl, x, C, dx, _, rfl, x7, T.cl, T.n3, (by show 2 < 1000; decide), ?_⟩
      have nxD : D ≠ x := fun z => by
        rw [z, x5] at D0
        cases D0
      have D7 : (upd H6 d (.dK (kvR es))) D = some (.dK (kvR es')) := (upd_ne nDd).trans hD6
      have p7 : Paired (DeedAt (del (upd H6 d (.dK (kvR es))) x)) es' b.ds := pp.mono fun e p h => by
        obtain ⟨n1, h2⟩ := del_some h.2
        have n2 : e.2 ≠ d := fun z => by
          rw [z, m6 _ _ upd_same] at h2
          cases h2
        have n3 : e.2 ≠ x := fun z => by
          have := m6 _ _ ((upd_ne nxd.symm).trans x5)
          rw [z, this] at h2
          cases h2
        exact ⟨h.1, del_of n3 ((upd_ne n2).trans h2)⟩
      generalize upd H6 d (.dK (kvR es)) = H7 at *
      have e8 : ∀ c o, c ≠ x → H7 c = some o → (upd H7 x (.ins C dx (putF "_leads" (.ref D) [("_standings", .ref ts), ("_deeds", .ref td)]))) c = some o := fun c o n e => (upd_ne n).trans e
      refine ⟨_, rfl, l, kvS b.ls, rfl, .inl (e8 _ _ nxl (m7 _ _ l5)), fun dk hdk => ?_⟩
      have x8 : (upd H7 x (.ins C dx (putF "_leads" (.ref D) [("_standings", .ref ts), ("_deeds", .ref td)]))) x = some (.ins C dx [("_standings", .ref ts), ("_deeds", .ref td), ("_leads", .ref D)]) := by rw [upd_same, st_put3]
      have nk : x ≠ dk := ne_of_none x8 hdk
      refine ⟨_, rfl, x, C, dx, _, rfl, (upd_ne nk).trans x8, T.cl, T.n4, (by show 3 < 1000; decide), ?_⟩
      have s7 : Same H0 H7 := s5.trans m7
      have dk0 : H7 dk = none := (upd_ne nk.symm).symm.trans hdk
      refine q _ (same_wr (same_wr (same_wr s7 x0) (s7.free dk0)) x0) ?_
      have old : ∀ c o, c ≠ x → H7 c = some o → (upd (upd (upd H7 x (.ins C dx (putF "_leads" (.ref D) [("_standings", .ref ts), ("_deeds", .ref td)]))) dk (.dK (kvS b.ls))) x (.ins C dx (putF "_looks" (.ref dk) [("_standings", .ref ts), ("_deeds", .ref td), ("_leads", .ref D)]))) c = some o := fun c o n e => (upd_ne n).trans ((upd_ne (ne_of_none e dk0)).trans ((upd_ne n).trans e))
      refine ⟨dx, ts, td, D, dk, es', ?_, old _ _ nts5 (m7 _ _ t5), old _ _ ntd.symm (m7 _ _ td5), old _ _ nxD D7, p7.mono fun e p h => ⟨h.1, ?_⟩, (upd_ne nk.symm).trans upd_same⟩
      · rw [upd_same, st_put4]
      · obtain ⟨n1, h2⟩ := del_some h.2
        exact old _ _ n1 h2
end
end Bs
set_option Elab.async false
set_option linter.all false
set_option maxRecDepth 100000
set_option maxHeartbeats 2000000
namespace L2
namespace Pl
open PySem PySem.Spec PyProof.Rows
/-- a value that is no standing of the store -/
def NoSt (K : PySem.W.Frag) (H : Hp) (b : Sd) (v : V) : Prop := NotStr K H v ∨ ∃ z, v = .str z ∧ z ∉ b.names
def spGetF (C : Addr) (f : Str) : Sp := fun vs H Q _ => ∃ x dx fs v, vs = [.ref x] ∧ H x = some (.ins C dx fs) ∧ fs.lookup f = some v ∧ Q v H
def spCheck (K : PySem.W.Frag) (C CN : Addr) : Sp := fun vs H Q E => ∃ x b v, vs = [.ref x, v] ∧ StAt C H x b ∧ b.Ok ∧ ((∃ z, v = .str z ∧ z ∈ b.names) → Q .non H) ∧ ((∃ z, v = .str z ∧ z ∈ b.names) ∨ NoSt K H b v) ∧ (NoSt K H b v → ∀ d, H d = none → E (.ref CN) (some d) (upd H d (.xd [("value", v)])))
def Sd.look (b : Sd) (z : Str) : Str := (b.ls.lookup z).getD z
def spLook (K : PySem.W.Frag) (C CN : Addr) : Sp := fun vs H Q E => ∃ x b v, vs = [.ref x, v] ∧ StAt C H x b ∧ b.Ok ∧ ((∃ z, v = .str z ∧ z ∈ b.names) ∨ NoSt K H b v) ∧ (∀ z, v = .str z → z ∈ b.names → Q (.str (b.look z)) H) ∧ (NoSt K H b v → ∀ d, H d = none → E (.ref CN) (some d) (upd H d (.xd [("value", v)])))
def Sd.lead1 (b : Sd) (d z : Str) : Str := match b.ds.lookup d with
  | some ps => (ps.lookup z).getD z
  | none => z
def Sd.lead (b : Sd) (z : Str) (row : List Str) : Str := row.foldl (fun z d => b.lead1 d z) z
theorem lead_at {H : Hp} {es : List (Str × Addr)} {ds : List (Str × List (Str × Str))} (h : Paired (DeedAt H) es ds) (nd : (ds.map (·.1)).Nodup) {d : Str} (hd : d ∈ ds.map (·.1)) :
    ∃ e ps, (d, ps) ∈ ds ∧ ds.lookup d = some ps ∧ valV (kvR es) (Sum.inr d : Key) = some (.ref e) ∧ H e = some (.dK (kvS ps)) := by
  induction h with
  | nil => cases hd
  | @cons e p es ds q _ ih =>
    rw [List.map_cons] at nd hd
    obtain ⟨n1, n2⟩ := List.nodup_cons.mp nd
    rw [List.lookup_cons]
    unfold valV at ih ⊢
    rw [show kvR (e :: es) = ((Sum.inr e.1, V.ref e.2) : Key × V) :: kvR es from rfl, List.find?_cons]
    by_cases hdp : d = p.1
    · have e1 : (d == p.1) = true := beq_iff_eq.mpr hdp
      have e2 : decide ((Sum.inr e.1 : Key) = Sum.inr d) = true := decide_eq_true (by rw [q.1, hdp])
      rw [e1]
      dsimp only
      rw [e2]
      exact ⟨e.2, p.2, by rw [hdp]; exact List.mem_cons_self .., rfl, rfl, q.2⟩
    · have e1 : (d == p.1) = false := beq_eq_false_iff_ne.mpr hdp
      have e2 : decide ((Sum.inr e.1 : Key) = Sum.inr d) = false := decide_eq_false fun z => hdp ((Sum.inr.inj z).symm.trans q.1)
      rw [e1]
      dsimp only
      rw [e2]
      obtain ⟨e3, ps, a1, a2, a3, a4⟩ := ih n2 ((List.mem_cons.mp hd).resolve_left hdp)
      exact ⟨e3, ps, List.mem_cons_of_mem _ a1, a2, a3, a4⟩
theorem mem_lookup {x y : Str} : ∀ {ps : List (Str × Str)}, ps.lookup x = some y → (x, y) ∈ ps
  | p :: r, h => by
    rw [List.lookup_cons] at h
    split at h
    · rename_i e
      have e := eq_of_beq e
      rw [← Option.some.inj h, e]
      exact List.mem_cons_self ..
    · exact List.mem_cons_of_mem _ (mem_lookup h)
def spLead (K : PySem.W.Frag) (C CN : Addr) : Sp := fun vs H Q E => ∃ x b v r row, vs = [.ref x, v, .ref r] ∧ StAt C H x b ∧ b.Ok ∧ SqL K H r (sV row) ∧ row.length ≤ 1000 ∧ (∀ d ∈ row, d ∈ b.ds.map (·.1)) ∧ ((∃ z, v = .str z ∧ z ∈ b.names) ∨ NoSt K H b v) ∧ (∀ z, v = .str z → z ∈ b.names → ∀ H', Same H H' → Q (.str (b.lead z row)) H') ∧
  (NoSt K H b v → ∀ d, H d = none → E (.ref CN) (some d) (upd H d (.xd [("value", v)])))
theorem st_noattr {ts td dl dk : Addr} : (stFs ts td dl dk).lookup ("_check_standing" : Str) = none := by with_unfolding_all rfl
theorem st_look1 {ts td dl dk : Addr} : (stFs ts td dl dk).lookup ("_standings" : Str) = some (.ref ts) := by with_unfolding_all rfl
theorem st_look2 {ts td dl dk : Addr} : (stFs ts td dl dk).lookup ("_deeds" : Str) = some (.ref td) := by with_unfolding_all rfl
theorem st_look3 {ts td dl dk : Addr} : (stFs ts td dl dk).lookup ("_leads" : Str) = some (.ref dl) := by with_unfolding_all rfl
theorem st_look4 {ts td dl dk : Addr} : (stFs ts td dl dk).lookup ("_looks" : Str) = some (.ref dk) := by with_unfolding_all rfl
theorem nd_le {α : Type} [BEq α] [LawfulBEq α] : ∀ {l m : List α}, l.Nodup → (∀ z ∈ l, z ∈ m) → l.length ≤ m.length
  | [], _, _, _ => Nat.zero_le _
  | a :: l, m, nd, h => by
    have ha := h a (List.mem_cons_self ..)
    obtain ⟨n1, n2⟩ := List.nodup_cons.mp nd
    have := nd_le (m := m.erase a) n2 fun z hz => (List.mem_erase_of_ne (fun e : z = a => n1 (e ▸ hz))).mpr (h z (List.mem_cons_of_mem _ hz))
    rw [List.length_erase_of_mem ha] at this
    have := List.length_pos_of_mem ha
    rw [List.length_cons]
    omega
theorem Full.none {ps : List (Str × Str)} {ws : List Str} (h : Full ps ws) (nd : ws.Nodup) {x : Str} (hx : x ∉ ws) : ps.lookup x = none := by
  cases e : ps.lookup x with
  | none => rfl
  | some y =>
    exfalso
    have hin : ∀ (qs : List (Str × Str)) (z u : Str), qs.lookup z = some u → z ∈ qs.map (·.1) := by
      intro qs
      induction qs with
      | nil => intro z u h; cases h
      | cons q r ih =>
        intro z u h
        rw [List.lookup_cons] at h
        rw [List.map_cons, List.mem_cons]
        split at h
        · rename_i heq
          exact .inl (eq_of_beq heq)
        · exact .inr (ih z u h)
    have sub : ∀ z ∈ x :: ws, z ∈ ps.map (·.1) := fun z hz => by
      rcases List.mem_cons.mp hz with rfl | hz
      · exact hin ps z y e
      · obtain ⟨u, hu⟩ := Option.isSome_iff_exists.mp (h.has z hz)
        exact hin ps z u hu
    have nd2 : (x :: ws).Nodup := List.nodup_cons.mpr ⟨hx, nd⟩
    have := nd_le nd2 sub
    rw [List.length_cons, List.length_map, h.len] at this
    omega
end Pl
end L2
namespace Bs
open PySem PySem.Spec PyProof.Rows L2 L2.Pl
section
variable {P : Program} {w : World} {K : PySem.W.Frag} {mg : Str → Option Value} {base : Heap} {f : Addr} {fd : FuncData}
abbrev sStd : Stmt := sStore 2
abbrev sDds : Stmt := sStore 3
abbrev sLook : Stmt := sStore 4
abbrev sLead : Stmt := sStore 5
abbrev sCome : Stmt := sStore 6
abbrev sCheck : Stmt := sStore 7
abbrev sEq : Stmt := sStore 1
theorem scStd : FnScope ["self"] ["self"] (defScope sStd) := ⟨rfl, rfl, rfl, by decide +kernel, rfl, by decide +kernel, by decide +kernel⟩
theorem scDds : FnScope ["self"] ["self"] (defScope sDds) := ⟨rfl, rfl, rfl, by decide +kernel, rfl, by decide +kernel, by decide +kernel⟩
theorem ok_std {C : Addr} (T : StF K mg C) (F : FnM K "standings" "Store.standings" sStd f fd) : FnOk P w K mg base CX0 1 f fd ["self"] (spGetF C "_standings") := by
  refine F.ok scStd (fun vs H Q E h => ?_) (fun cdv A outer s H vs Q E hr h => ?_)
  · obtain ⟨_, _, _, _, rfl, _⟩ := h
    rfl
  · obtain ⟨x, dx, fs, v, rfl, hx, hv, q⟩ := h
    refine ⟨_, PSs.nox (pss_one (ps_ret (pe_fld (pv 0) rfl))), ?_⟩
    exact ⟨_, rfl, x, C, dx, fs, v, rfl, hx, T.cl, T.n1, hv, q⟩
theorem ok_dds {C : Addr} (T : StF K mg C) (F : FnM K "deeds" "Store.deeds" sDds f fd) : FnOk P w K mg base CX0 1 f fd ["self"] (spGetF C "_deeds") := by
  refine F.ok scDds (fun vs H Q E h => ?_) (fun cdv A outer s H vs Q E hr h => ?_)
  · obtain ⟨_, _, _, _, rfl, _⟩ := h
    rfl
  · obtain ⟨x, dx, fs, v, rfl, hx, hv, q⟩ := h
    refine ⟨_, PSs.nox (pss_one (ps_ret (pe_fld (pv 0) rfl))), ?_⟩
    exact ⟨_, rfl, x, C, dx, fs, v, rfl, hx, T.cl, T.n2, hv, q⟩
end
end Bs
set_option Elab.async false
set_option linter.all false
set_option maxRecDepth 100000
set_option maxHeartbeats 2000000
namespace L2
namespace Pl
open PySem PySem.Spec PyProof.Rows
/-! ### the store that a drawn base makes -/
def sdOf (b : Bd) : Sd := ⟨b.names, b.deeds.map fun d => (d.1, (b.names.zip d.2).reverse), (b.names.zip b.looks).reverse⟩
theorem zip_keys : ∀ {ws us : List Str}, us.length = ws.length → (ws.zip us).map (·.1) = ws
  | [], _, _ => by simp
  | _ :: _, [], h => by cases h
  | a :: ws, c :: us, h => by rw [List.zip_cons_cons, List.map_cons, zip_keys (Nat.succ.inj h)]
theorem lookup_some {x : Str} : ∀ {ps : List (Str × Str)}, x ∈ ps.map (·.1) → (ps.lookup x).isSome = true
  | p :: r, h => by
    rw [List.lookup_cons]
    split
    · rfl
    · rename_i e
      rcases List.mem_cons.mp h with h | h
      · rw [h, beq_self_eq_true] at e
        cases e
      · exact lookup_some h
theorem full_zip {ws us : List Str} (h : us.length = ws.length) : Full (ws.zip us).reverse ws where
  len := by rw [List.length_reverse, List.length_zip, h, Nat.min_self]
  has := fun x hx => lookup_some (by rw [List.map_reverse, List.mem_reverse, zip_keys h]; exact hx)
theorem zip_right {ws us : List Str} {p : Str × Str} (h : p ∈ (ws.zip us).reverse) : p.2 ∈ us := (List.of_mem_zip (List.mem_reverse.mp h)).2
theorem sdOf_ok {b : Bd} (ok : b.Ok) : (sdOf b).Ok where
  n1 := ok.n1
  n5 := ok.n5
  nd := ok.nd
  nn := ok.nn
  d1 := by show 1 ≤ (b.deeds.map _).length; rw [List.length_map]; exact ok.d1
  d4 := by show (b.deeds.map _).length ≤ 4; rw [List.length_map]; exact ok.d4
  dd := by
    show ((b.deeds.map fun d => (d.1, (b.names.zip d.2).reverse)).map (·.1)).Nodup
    rw [List.map_map]
    exact ok.dd
  di := fun p hp => by
    obtain ⟨d, hd, rfl⟩ := List.mem_map.mp hp
    exact ⟨ok.dn d hd, full_zip (ok.dl d hd), fun q hq => ok.di d hd q.2 (zip_right hq)⟩
  lf := full_zip ok.ll
  ln := fun p hp => ok.ln p.2 (zip_right hp)
theorem mergeK_kvS : ∀ {ps qs : List (Str × Str)}, ((qs ++ ps).map (·.1)).Nodup → mergeK (kvS qs) (kvS ps) = kvS (qs ++ ps)
  | [], qs, _ => by rw [List.append_nil]; rfl
  | p :: ps, qs, h => by
    have e : putK (kvS qs) (Sum.inr p.1 : Key) (.str p.2) = kvS (qs ++ [p]) := by
      rw [Pl.putK_end]
      · show kvS qs ++ [(Sum.inr p.1, V.str p.2)] = List.map _ (qs ++ [p])
        rw [List.map_append]
        rfl
      · intro q hq z
        obtain ⟨u, hu, rfl⟩ := List.mem_map.mp hq
        rw [List.map_append, List.nodup_append] at h
        exact h.2.2 u.1 (List.mem_map_of_mem hu) p.1 (List.mem_cons_self ..) (Sum.inr.inj z)
    show mergeK (putK (kvS qs) (Sum.inr p.1) (.str p.2)) (kvS ps) = _
    rw [e, mergeK_kvS (qs := qs ++ [p]) (by rw [List.append_assoc]; exact h), List.append_assoc]
    rfl
theorem zip_sV {ws us : List Str} : (sV ws).zip (sV us) = (ws.zip us).map fun p => (V.str p.1, V.str p.2) := by
  induction ws generalizing us with
  | nil => rfl
  | cons a ws ih =>
    cases us with
    | nil => rfl
    | cons c us =>
      show (V.str a, V.str c) :: (sV ws).zip (sV us) = _
      rw [ih]
      rfl
theorem paired_rev {α β : Type} {F : α → β → Prop} : ∀ {xs : List α} {ys : List β}, Paired F xs ys → Paired F xs.reverse ys.reverse
  | _, _, .nil => .nil
  | _, _, .cons h t => by
    rw [List.reverse_cons, List.reverse_cons]
    exact (paired_rev t).snoc h
/-- the pairs that were laid, the other way round, as a dict's entries -/
theorem pairs_rev {K : PySem.W.Frag} {H : Hp} {ts : List Addr} {ws us : List Str} (h : Paired (fun t (q : V × V) => H t = some (.tup [q.1, q.2])) ts ((sV ws).zip (sV us))) : Paired (fun p (kv : Key × V) => SqT K H p [kV kv.1, kv.2]) ts.reverse (kvS (ws.zip us).reverse) := by
  rw [zip_sV] at h
  have h2 : ∀ {ts : List Addr} {ps : List (Str × Str)}, Paired (fun t (q : V × V) => H t = some (.tup [q.1, q.2])) ts (ps.map fun p => (V.str p.1, V.str p.2)) → Paired (fun p (kv : Key × V) => SqT K H p [kV kv.1, kv.2]) ts (kvS ps) := by
    intro ts ps
    induction ps generalizing ts with
    | nil =>
      intro h
      cases h
      exact .nil
    | cons p r ih =>
      intro h
      cases h with
      | cons a t => exact .cons (SqT.up a) (ih t)
  have h3 := paired_rev (h2 h)
  rw [show (kvS (ws.zip us)).reverse = kvS (ws.zip us).reverse from List.map_reverse.symm] at h3
  exact h3
def spMade (K : PySem.W.Frag) (C : Addr) : Sp := fun vs H Q _ => ∃ a b, vs = [.ref a] ∧ BdAt K H a b ∧ b.Ok ∧ ∀ H' x, Same H H' → H x = none → StAt C H' x (sdOf b) → Q (.ref x) H'
end Pl
end L2
namespace Bs
open PySem PySem.Spec PyProof.Rows L2 L2.Pl
section
variable {P : Program} {w : World} {K : PySem.W.Frag} {mg : Str → Option Value} {base : Heap} {f : Addr} {fd : FuncData}
theorem scMade : FnScope ["base", "deeds", "name", "leads"] ["base"] (defScope sMade) := ⟨rfl, rfl, rfl, by decide +kernel, rfl, by decide +kernel, by decide +kernel⟩
theorem ok_made {C fi : Addr} {fdi : FuncData} (G : Gn mg) (T : StF K mg C) (M : Mk K C fi) (oI : FnOk P w K mg base CX0 4 fi fdi ["self", "standings", "deeds", "looks"] (spInit C)) (bI : L2.Binds K fdi ["self", "standings", "deeds", "looks"] []) (F : FnP K "_law_made" sMade f fd) : FnOk P w K mg base CX0 6 f fd ["base"] (spMade K C) := by
  refine F.ok scMade (fun vs H Q E h => ?_) (fun cdv A outer s H vs Q E hr h => ?_)
  · obtain ⟨_, _, rfl, _⟩ := h
    rfl
  · obtain ⟨a, b, rfl, ⟨an, ad, al, ps, h1, ⟨on, h2n, _⟩, h3, h4, h5⟩, ok, q⟩ := h
    have h2 : SqT K H an (sV b.names) := .inl (.inr ⟨on, h2n⟩)
    refine ⟨_, PSs.nox (pss_cons (ps_set (i := 1) scMade.nd rfl (.inl rfl) pe_dnewK)
      (pss_cons (ps_for PassesOwn.never rfl (pi_tup (pe_ix ix_tup (pv 0) pe_int (fun _ _ => rfl))) (pg_tup rfl (pgs_cons (pg_name (i := 2) scMade.nd rfl (.inl rfl)) (pgs_cons (pg_name (i := 3) scMade.nd rfl (.inl rfl)) pgs_nil)))
        (pss_one (ps_dput (hu_of hr) (pv 1) (pv 2) (pe_callTy (call_dictP rfl) (by rfl) G.dict bDict (pa_cons (pe_revL (pe_listZip rfl (by rfl) G.list (by rfl) G.zip (pa_cons (pe_ix ix_tup (pv 0) pe_int (fun _ _ => rfl)) (pa_cons (pv 3) pa_nil)))) pa_nil)) rfl)))
      (pss_one (ps_ret (pe_make M oI hr (by rfl) T.gC bI .nil pass0 (pa_cons (pe_callTy call_list_of (by rfl) G.list bList (pa_cons (pe_ix ix_tup (pv 0) pe_int (fun _ _ => rfl)) pa_nil)) (pa_cons (pv 1) (pa_cons (pe_callTy (call_dictP rfl) (by rfl) G.dict bDict (pa_cons (pe_revL (pe_listZip rfl (by rfl) G.list (by rfl) G.zip (pa_cons (pe_ix ix_tup (pv 0) pe_int (fun _ _ => rfl)) (pa_cons (pe_ix ix_tup (pv 0) pe_int (fun _ _ => rfl)) pa_nil)))) pa_nil)) pa_nil)))))))), ?_⟩
    have nl : (sV b.names).length = b.names.length := List.length_map _
    have ndD : (b.deeds.map (·.1)).Nodup := ok.dd
    refine fun D hD => ?_
    have m0 : Same H (upd H D (.dK [])) := same_new hD
    refine ⟨_, rfl, a, _, 1, .ref ad, rfl, rfl, seqT_same h1 m0, atI_nat (j := 1) rfl, ad, rfl, ⟨_, seqT_same h3 m0⟩, ?_⟩
    have lps : ps.length = b.deeds.length := h4.length
    refine for_tup (K := K) (a := ad) (xs := ps) (fun i σ H' => ∃ (es : List (Str × Addr)) (c2 c3 : Option V), σ = [some (.ref a), some (.ref D), c2, c3] ∧ Same H H' ∧ H' D = some (.dK (kvR es)) ∧ Paired (DeedAt (del H' D)) es ((sdOf b).ds.take i))
      ⟨[], none, none, rfl, m0, upd_same, .nil⟩ (fun i σ H' _ ⟨_, _, _, _, m, _⟩ => seqT_same h3 m) ?_ ?_
    · rintro i y σ H1 hi ⟨es, c2, c3, rfl, m1, D1, p1⟩
      obtain ⟨d, hd, t, l, rfl, ht, hl⟩ := L2.paired_get h4 hi
      have hdin := List.mem_of_getElem? hd
      refine ⟨t, _, rfl, seqT_same ht m1, rfl, _, [.ref l], rfl, _, [], rfl, rfl, ?_⟩
      have dl := ok.dl d hdin
      have n1 := ok.n1
      have n5 := ok.n5
      refine ⟨_, rfl, a, _, 0, .ref an, rfl, rfl, seqT_same h1 m1, atI_nat (j := 0) rfl, _, rfl, an, l, sV b.names, sV d.2, rfl, seqT_same h2 m1, seqT_same hl m1, by rw [List.length_map, List.length_map, dl], by rw [nl]; omega, by rw [nl]; omega, fun H2 p tss m2 np hp prs => ?_⟩
      refine ⟨p, _, rfl, SqL.of hp, fun p2 hp2 => ?_⟩
      have s3 : Same H2 (upd H2 p2 (.lst (tss.map V.ref).reverse)) := same_new hp2
      refine ⟨p2, tss.reverse, kvS (b.names.zip d.2).reverse, rfl, SqL.of (by rw [upd_same, List.map_reverse]), (pairs_rev prs).mono fun _ _ q => seqT_same q s3, fun d2 hd2 => ?_⟩
      have m3 := m2.trans s3
      have mk : mergeK [] (kvS (b.names.zip d.2).reverse) = kvS (b.names.zip d.2).reverse := mergeK_kvS (qs := []) (by
        rw [List.nil_append, List.map_reverse, zip_keys dl]
        exact (List.reverse_perm _).nodup_iff.mpr ok.nd)
      rw [mk]
      have s4 := m3.trans (same_new (o := .dK (kvS (b.names.zip d.2).reverse)) hd2)
      have D4 := s4 _ _ D1
      have nD : d2 ≠ D := (ne_of_none (m3 _ _ D1) hd2).symm
      have d20 : H1 d2 = none := m3.free hd2
      have at2 : (upd (upd H2 p2 (.lst (tss.map V.ref).reverse)) d2 (.dK (kvS (b.names.zip d.2).reverse))) d2 = some (.dK (kvS (b.names.zip d.2).reverse)) := upd_same
      generalize upd (upd H2 p2 (.lst (tss.map V.ref).reverse)) d2 (.dK (kvS (b.names.zip d.2).reverse)) = H4 at *
      have les : es.length ≤ 1000 := by
        have h8 := p1.length
        rw [List.length_take] at h8
        have h9 : (sdOf b).ds.length = b.deeds.length := List.length_map _
        have := ok.d4
        omega
      refine ⟨_, rfl, _, rfl, D, _, rfl, DPut.k (k := Sum.inr d.1) D4 (small1000 (by rw [List.length_map]; exact les)), ?_⟩
      have hds : (sdOf b).ds[i]? = some (d.1, (b.names.zip d.2).reverse) := by
        show (b.deeds.map _)[i]? = _
        rw [List.getElem?_map, hd]
        rfl
      have tk : (sdOf b).ds.take (i + 1) = (sdOf b).ds.take i ++ [(d.1, (b.names.zip d.2).reverse)] := by
        rw [List.take_succ, hds]
        rfl
      have new : ∀ q ∈ kvR es, q.1 ≠ (Sum.inr d.1 : Key) := fun q hq z => by
        obtain ⟨e, he, rfl⟩ := List.mem_map.mp hq
        obtain ⟨p3, hp3, e4⟩ := paired_left p1 he
        obtain ⟨j, hj⟩ := List.mem_iff_getElem?.mp hp3
        rw [List.getElem?_take] at hj
        split at hj
        · rename_i hji
          have a1 : ((sdOf b).ds.map (·.1))[j]? = some d.1 := by rw [List.getElem?_map, hj]; exact congrArg some (e4.1.symm.trans (Sum.inr.inj z))
          have a2 : ((sdOf b).ds.map (·.1))[i]? = some d.1 := by rw [List.getElem?_map, hds]; rfl
          have := (List.getElem?_inj (List.getElem?_eq_some_iff.mp a1).1 (sdOf_ok ok).dd).mp (a1.trans a2.symm)
          omega
        · cases hj
      rw [Pl.putK_end new]
      refine ⟨es ++ [(d.1, d2)], some (.str d.1), some (.ref l), rfl, same_wr (m1.trans s4) hD, ?_, ?_⟩
      · rw [upd_same]
        show some (HO.dK (kvR es ++ [(Sum.inr d.1, V.ref d2)])) = some (HO.dK (List.map _ (es ++ [(d.1, d2)])))
        rw [List.map_append]
        rfl
      · rw [tk]
        exact (p1.mono fun _ _ q => q.same ((del_mono s4).trans del_upd0)).snoc ⟨rfl, del_of nD ((upd_ne nD).trans at2)⟩
    · rintro σ H1 ⟨es, c2, c3, rfl, m1, D1, p1⟩
      have n1 := ok.n1
      have n5 := ok.n5
      rw [lps, show b.deeds.length = (sdOf b).ds.length from (List.length_map _).symm, List.take_length] at p1
      refine ⟨_, rfl, a, _, 0, .ref an, rfl, rfl, seqT_same h1 m1, atI_nat (j := 0) rfl, an, _, rfl, .inr (seqT_same h2 m1), fun la hla => ?_⟩
      have m2 : Same H1 (upd H1 la (.lst (sV b.names))) := same_new hla
      have la2 : (upd H1 la (.lst (sV b.names))) la = some (.lst (sV b.names)) := upd_same
      generalize upd H1 la (.lst (sV b.names)) = H2 at *
      have m12 := m1.trans m2
      refine ⟨_, rfl, _, rfl, a, _, 0, .ref an, rfl, rfl, seqT_same h1 m12, atI_nat (j := 0) rfl, _, rfl, a, _, 2, .ref al, rfl, rfl, seqT_same h1 m12, atI_nat (j := 2) rfl, an, al, sV b.names, sV b.looks, rfl, seqT_same h2 m12, seqT_same h5 m12, by rw [List.length_map, List.length_map, ok.ll], by rw [nl]; omega, by rw [nl]; omega, fun H3 p tss m3 np hp prs => ?_⟩
      refine ⟨p, _, rfl, SqL.of hp, fun p2 hp2 => ?_⟩
      have s4 : Same H3 (upd H3 p2 (.lst (tss.map V.ref).reverse)) := same_new hp2
      refine ⟨p2, tss.reverse, kvS (b.names.zip b.looks).reverse, rfl, SqL.of (by rw [upd_same, List.map_reverse]), (pairs_rev prs).mono fun _ _ q => seqT_same q s4, fun d2 hd2 => ?_⟩
      have mk : mergeK [] (kvS (b.names.zip b.looks).reverse) = kvS (b.names.zip b.looks).reverse := mergeK_kvS (qs := []) (by
        rw [List.nil_append, List.map_reverse, zip_keys ok.ll]
        exact (List.reverse_perm _).nodup_iff.mpr ok.nd)
      rw [mk]
      have s25 := m3.trans (s4.trans (same_new (o := .dK (kvS (b.names.zip b.looks).reverse)) hd2))
      have at2 : (upd (upd H3 p2 (.lst (tss.map V.ref).reverse)) d2 (.dK (kvS (b.names.zip b.looks).reverse))) d2 = some (.dK (kvS (b.names.zip b.looks).reverse)) := upd_same
      generalize upd (upd H3 p2 (.lst (tss.map V.ref).reverse)) d2 (.dK (kvS (b.names.zip b.looks).reverse)) = H5 at *
      refine fun x dx nx ndx nex => ?_
      have m5 := m12.trans s25
      have s6 : Same H5 (upd (upd H5 dx (.own x)) x (.ins C dx [])) := same_wr (same_new ndx) nx
      have D5 := (m2.trans s25) _ _ D1
      have p5 : Paired (DeedAt (upd (upd H5 dx (.own x)) x (.ins C dx []))) es (sdOf b).ds := p1.mono fun _ _ q => q.same (Same.trans del_all ((m2.trans s25).trans s6))
      refine ⟨H5, x, dx, la, D, d2, es, sdOf b, rfl, s6, nx, upd_same, s6 _ _ (s25 _ _ la2), s6 _ _ D5, p5, fun e he z => ?_, s6 _ _ at2, sdOf_ok ok, fun H6 m6 hst => ⟨rfl, q H6 x (m5.trans m6) (m5.free nx) hst⟩⟩
      obtain ⟨p3, _, e4⟩ := paired_left p1 he
      exact (del_some e4.2).1 z
end
end Bs
set_option Elab.async false
set_option linter.all false
set_option maxRecDepth 100000
set_option maxHeartbeats 2000000
namespace L2
namespace Pl
open PySem PySem.Spec PyProof.Rows
/-- the j-th of a nodup row is looked up as the j-th -/
theorem zip_at {ws us : List Str} (nd : ws.Nodup) (hl : us.length = ws.length) {j : Nat} {z u : Str} (hz : ws[j]? = some z) (hu : us[j]? = some u) : (ws.zip us).reverse.lookup z = some u := by
  have hin : (z, u) ∈ (ws.zip us).reverse := List.mem_reverse.mpr (List.mem_of_getElem? (i := j) (List.getElem?_zip_eq_some.mpr ⟨hz, hu⟩))
  have nd2 : ((ws.zip us).reverse.map (·.1)).Nodup := by
    rw [List.map_reverse, zip_keys hl]
    exact (List.reverse_perm _).nodup_iff.mpr nd
  have : ∀ {ps : List (Str × Str)}, (ps.map (·.1)).Nodup → (z, u) ∈ ps → ps.lookup z = some u := by
    intro ps
    induction ps with
    | nil => intro _ h; cases h
    | cons p r ih =>
      intro nd h
      rw [List.map_cons] at nd
      obtain ⟨n1, n2⟩ := List.nodup_cons.mp nd
      rw [List.lookup_cons]
      rcases List.mem_cons.mp h with h | h
      · rw [← h, beq_self_eq_true]
      · have : (z == p.1) = false := beq_eq_false_iff_ne.mpr fun e => n1 (e ▸ List.mem_map_of_mem (f := (·.1)) h)
        rw [this]
        exact ih n2 h
  exact this nd2 hin
theorem idx_of {ws : List Str} (nd : ws.Nodup) {z : Str} (hz : z ∈ ws) : ∃ j : Nat, ws[j]? = some z ∧ ∀ m : Nat, m < j → ws[m]? ≠ some z := by
  obtain ⟨j, hj⟩ := List.mem_iff_getElem?.mp hz
  refine ⟨j, hj, fun m hm e => ?_⟩
  have := (List.getElem?_inj (List.getElem?_eq_some_iff.mp e).1 nd).mp (e.trans hj.symm)
  omega
theorem look_at {b : Bd} (ok : b.Ok) {j : Nat} {z u : Str} (hz : b.names[j]? = some z) (hu : b.looks[j]? = some u) : (sdOf b).look z = u := by
  show ((b.names.zip b.looks).reverse.lookup z).getD z = u
  rw [zip_at ok.nd ok.ll hz hu]
  rfl
theorem lead1_at {b : Bd} (ok : b.Ok) {d : Str × List Str} (hd : d ∈ b.deeds) {j : Nat} {z u : Str} (hz : b.names[j]? = some z) (hu : d.2[j]? = some u) : (sdOf b).lead1 d.1 z = u := by
  have h : (sdOf b).ds.lookup d.1 = some (b.names.zip d.2).reverse := by
    have : ∀ {ds : List (Str × List Str)}, (ds.map (·.1)).Nodup → d ∈ ds → (ds.map fun d => (d.1, (b.names.zip d.2).reverse)).lookup d.1 = some (b.names.zip d.2).reverse := by
      intro ds
      induction ds with
      | nil => intro _ h; cases h
      | cons p r ih =>
        intro nd h
        rw [List.map_cons] at nd
        obtain ⟨n1, n2⟩ := List.nodup_cons.mp nd
        rw [List.map_cons, List.lookup_cons]
        rcases List.mem_cons.mp h with h | h
        · rw [← h, beq_self_eq_true]
        · have : (d.1 == p.1) = false := beq_eq_false_iff_ne.mpr fun e => n1 (e ▸ List.mem_map_of_mem (f := (·.1)) h)
          rw [this]
          exact ih n2 h
    exact this ok.dd hd
  unfold Sd.lead1
  rw [h]
  show (List.lookup z (b.names.zip d.2).reverse).getD z = u
  rw [zip_at ok.nd (ok.dl d hd) hz hu]
  rfl
def spSeen (K : PySem.W.Frag) : Sp := fun vs H Q _ => ∃ a b z, vs = [.ref a, .str z] ∧ BdAt K H a b ∧ b.Ok ∧ z ∈ b.names ∧ Q (.str ((sdOf b).look z)) H
def spDeeds (K : PySem.W.Frag) : Sp := fun vs H Q _ => ∃ a b, vs = [.ref a] ∧ BdAt K H a b ∧ b.Ok ∧ ∀ H' p, Same H H' → H p = none → H' p = some (.lst (sV (b.deeds.map (·.1)))) → Q (.ref p) H'
def spLed (K : PySem.W.Frag) : Sp := fun vs H Q _ => ∃ a b z r row, vs = [.ref a, .str z, .ref r] ∧ BdAt K H a b ∧ b.Ok ∧ z ∈ b.names ∧ SqL K H r (sV row) ∧ (∀ d ∈ row, d ∈ b.deeds.map (·.1)) ∧ ∀ H', Same H H' → Q (.str ((sdOf b).lead z row)) H'
end Pl
end L2
namespace Bs
open PySem PySem.Spec PyProof.Rows L2 L2.Pl
section
variable {P : Program} {w : World} {K : PySem.W.Frag} {mg : Str → Option Value} {base : Heap} {f : Addr} {fd : FuncData}
theorem scDeeds : FnScope ["base", "name", "leads"] ["base"] (defScope sDeeds) := ⟨rfl, rfl, rfl, by decide +kernel, rfl, by decide +kernel, by decide +kernel⟩
theorem ok_deeds (F : FnP K "_law_deeds" sDeeds f fd) : FnOk P w K mg base CX0 1 f fd ["base"] (spDeeds K) := by
  refine F.ok scDeeds (fun vs H Q E h => ?_) (fun cdv A outer s H vs Q E hr h => ?_)
  · obtain ⟨_, _, rfl, _⟩ := h
    rfl
  · obtain ⟨a, b, rfl, ⟨an, ad, al, ps, h1, ⟨on, h2, hdn⟩, h3, h4, h5⟩, ok, q⟩ := h
    refine ⟨_, PSs.nox (pss_one (ps_ret (pe_lc (own := [("name", 1), ("leads", 2)]) (g := gTup K 2 (gCons (gName 1) (gCons (gName 2) gNil))) (tt := tYes) (te := tVar 1) rfl scDeeds.nd (pi_tup (pe_ix ix_tup (pv 0) pe_int (fun _ _ => rfl))) (blkOk_by (N := ["base", "name", "leads"]) (sc := defScope sDeeds) (by decide +kernel))
      (fun _ _ _ _ _ => pg_tup rfl (pgs_cons (pg_name (i := 1) scDeeds.nd rfl (.inl rfl)) (pgs_cons (pg_name (i := 2) scDeeds.nd rfl (.inl rfl)) pgs_nil))) (fun _ _ _ _ _ => pts_nil) (fun _ _ _ _ _ => pv 1)))), ?_⟩
    refine ⟨_, rfl, a, _, 1, .ref ad, rfl, rfl, h1, atI_nat (j := 1) rfl, ad, rfl, ⟨_, h3⟩, fun D hD => ?_⟩
    refine lc_ix (walk_tup (K := K) (a := ad) (xs := ps)) (fun i y => ∃ d, b.deeds[i]? = some d ∧ y = .str d.1) hD (fun H2 m2 => seqT_same h3 m2) (by have := h4.length; have := ok.d4; omega) (fun i x H2 H3 N YK hi m2 iD hx ky => ?_) (fun H2 ys m2 hy ly ry => ?_)
    · obtain ⟨rfl, hx⟩ := hx
      obtain ⟨d, hd, t, l, rfl, ht, hl⟩ := L2.paired_get h4 hx
      exact ⟨t, _, rfl, seqT_same ht m2, rfl, _, [.ref l], rfl, _, [], rfl, rfl, rfl, iteT (B := N H3) ⟨_, rfl, ky _ _ m2 rfl ⟨d, hd, rfl⟩⟩⟩
    · refine q H2 D m2 hD (hy.trans ?_)
      congr 2
      apply List.ext_getElem?
      intro i
      have hlen := h4.length
      cases e : ys[i]? with
      | none =>
        have := List.getElem?_eq_none_iff.mp e
        rw [List.getElem?_eq_none (by rw [List.length_map, List.length_map]; omega)]
      | some y =>
        obtain ⟨d, hd, rfl⟩ := ry i y e
        rw [List.getElem?_map, List.getElem?_map, hd]
        rfl
end
end Bs
set_option Elab.async false
set_option linter.all false
set_option maxRecDepth 100000
set_option maxHeartbeats 1000000
/-! a dict that is made where it is walked over -/
namespace L2
open PySem PySem.Spec PyProof.Rows
/-- e, a dict, shut from here on -/
def tShut (td : TE) : TE := fun σ H Q => td σ H fun x H1 => ∃ d kvs, x = .ref d ∧ H1 d = some (.dK kvs) ∧ ∀ o, Q (.ref d) (upd H1 d (.frz o (.dK kvs)))
theorem pe_shut {X : Cx} {e : Expr} {td : TE} (he : PE X e td) : PE X e (tShut td) := by
  refine ⟨fun pins s σ H Q I q => wpAny_mono (he.run pins s σ H _ I q) (fun v s1 ⟨x, H1, I1, rv, d, kvs, ex, hd, k⟩ => ?_) fun _ _ z => z⟩
  obtain ⟨od, I2⟩ := I1.lock hd True.intro
  subst ex
  exact ⟨.ref d, _, I2, rv, k od⟩
end L2
set_option Elab.async false
set_option linter.all false
set_option maxRecDepth 100000
set_option maxHeartbeats 2000000
/-! texts beside dicts; whether any value stands in a row of texts -/
namespace PlayL
open PySem PySem.SeqAt PySem.MeetsSeq PySem.AutoSeq1
section
variable {A : Around} {s : Shared}
theorem str_declines_dict (b : Str) (u : Tok) (o : Obj) (l : Addr) (ho : o.cls = .type "dict") {es : Array DictEntry} {ep : Nat} (hd : o.data = .dict es ep) :
    Meets (Builtin.«str.__eq__» ⟨[.str b u, .ref l], []⟩) (fun _ R s => s.heap.get? l = some o ∧ R (.ok (.ret .notImplemented)) s) := by
  obtain ⟨cls, dd, data, sl⟩ := o
  dsimp only at ho hd
  subst ho hd
  exact .of_wp fun prog w A R s h => by
    obtain ⟨hp, g, d, tk, os⟩ := s
    obtain ⟨hl, h⟩ := h
    wp_walk using wpAny_loadPart' hl, wpAny_load hl
    exact ⟨_, rfl, h⟩
theorem dict_declines_str (l : Addr) (o : Obj) (b : Str) (u : Tok) (ho : o.cls = .type "dict") :
    Meets (Builtin.«dict.__eq__» ⟨[.ref l, .str b u], []⟩) (fun _ R s => s.heap.get? l = some o ∧ R (.ok (.ret .notImplemented)) s) := by
  obtain ⟨cls, dd, data, sl⟩ := o
  dsimp only at ho
  subst ho
  exact .of_wp fun prog w A R s h => by
    obtain ⟨hp, g, d, tk, os⟩ := s
    obtain ⟨hl, h⟩ := h
    have f1 := F.sub_str_dict
    wp_walk using wpAny_loadPart' hl, wpAny_load hl
    exact ⟨_, rfl, h⟩
theorem eq_str_dict {l : Addr} {o : Obj} (b : Str) (u : Tok) (hl : s.heap.get? l = some o) (hc : o.cls = .type "dict") {es : Array DictEntry} {ep : Nat} (hd : o.data = .dict es ep) (hu : A.units < cLine) : EqAt A s (.str b u) (.ref l) false := fun prog w E Q h => by
  unfold eqBool
  refine wpAny_holding ?_
  refine wpAny_ite_split (fun hab => absurd (eq_of_beq hab) nofun) (fun _ => ?_)
  refine wpAny_bind (rc_eq_decline_or (k := false) (typeIs_str s b u) ⟨_, hl, hc⟩ (by decide) F.sub_dict_str F.slot_str_eq F.slot_dict_eq_refl ?_ ?_ (fun _ hq => wpAny_of_eq (rfl : isSame (.str b u) (.ref l) = pure false) hq) (.inr hu) (wpAny_truthy_bool h))
  · exact fun _ hq => call_meets F.slot_str_eq (typeIs_str s b u) F.entry_str_eq (F.args_str_eq_2 _ _) (str_declines_dict b u o l hc hd) ⟨hl, hq⟩
  · exact fun _ hq => call_meets F.slot_dict_eq_refl ⟨_, hl, hc⟩ F.entry_dict_eq (F.args_dict_eq_2 _ _) (dict_declines_str l o b u hc) ⟨hl, hq⟩
end
end PlayL
namespace L2
namespace Pl
open PySem PySem.Spec PyProof.Rows
section
variable {X : Cx}
/-- a list, a tuple or a dict -/
def BoxV (K : PySem.W.Frag) (H : Hp) (v : V) : Prop := ∃ a, v = .ref a ∧ ((∃ xs, SqL K H a xs) ∨ (∃ xs, SqT K H a xs) ∨ ∃ kvs, Rd H a (.dK kvs))
theorem box_eq {pins : List (Addr × Obj)} {σ : St} {H : Hp} {s : Shared} {v : V} {u : Value} (I : Inv X pins σ H s) (h : BoxV X.K H v) (r : RelV v u) (z : Str) (t : Tok) (A : Around) (hu : A.units < cLine) : SeqAt.EqAt A s (.str z t) u false := by
  obtain ⟨a, rfl, h⟩ := h
  obtain rfl : u = .ref a := r
  rcases h with ⟨xs, h⟩ | ⟨xs, h⟩ | ⟨kvs, h⟩
  · obtain ⟨its, r, p, _⟩ := I.list h
    exact SeqAt.EqAt.str_list z t p.isList hu
  · obtain ⟨its, r, p, _⟩ := I.tuple h
    exact SeqAt.EqAt.str_tuple z t p hu
  · obtain ⟨_, _, vs, _, o, es, ep, h1, h2, h3, _⟩ := dk_rd I.hok h
    exact PlayL.eq_str_dict z t h1 h2.1 h3 hu
/-- x in a row of texts: x a list, a tuple or a dict -/
def rInB (K : PySem.W.Frag) (neg : Bool) : R2 := fun x y H Q => ∃ (p : Addr) (ws : List Str), y = .ref p ∧ (SqL K H p (ws.map V.str) ∨ SqT K H p (ws.map V.str)) ∧ BoxV K H x ∧ Q (.bl neg) H
theorem no_eq {pins : List (Addr × Obj)} {σ : St} {H : Hp} {s : Shared} {v : V} {u : Value} (I : Inv X pins σ H s) (h : BoxV X.K H v) (r : RelV v u) {A : Around} (hu : A.units < cLine) : ∀ {ws : List Str} {us : List Value}, Vals (ws.map V.str) us → ∀ y ∈ us, SeqAt.EqAt A s y u false
  | [], _, .nil, _, hy => by cases hy
  | w :: ws, y0 :: us, .cons q t, y, hy => by
    rcases List.mem_cons.mp hy with rfl | hy
    · obtain ⟨t, rfl⟩ : ∃ t, y = .str w t := q
      exact box_eq I h r w t A hu
    · exact no_eq I h r hu t y hy
theorem op_inB (hu : X.A.in1.units < cLine) : OpR X (compareOp .In) (rInB X.K false) := by
  intro pins s σ H x y v u Q I rx ry h
  obtain ⟨p, ws, rfl, hq, bx, q⟩ := h
  cases ry
  rcases hq with hq | hq
  · obtain ⟨its, r, pl, hz⟩ := I.list hq
    refine SeqAt.in_listAt (fun _ => false) pl.isList (fun w hw => no_eq I bx rx hu r w (by simpa using hw)) ⟨.bl _, H, I, rfl, ?_⟩
    rw [Array.any_eq_false.mpr (fun _ _ => Bool.false_ne_true)]
    exact q
  · obtain ⟨its, r, pl, hz⟩ := I.tuple hq
    refine SeqAt.in_tupleAt (fun _ => false) pl (fun w hw => no_eq I bx rx hu r w (by simpa using hw)) ⟨.bl _, H, I, rfl, ?_⟩
    rw [Array.any_eq_false.mpr (fun _ _ => Bool.false_ne_true)]
    exact q
theorem op_notInB (hu : X.A.in1.units < cLine) : OpR X (compareOp .NotIn) (rInB X.K true) := by
  intro pins s σ H x y v u Q I rx ry h
  obtain ⟨p, ws, rfl, hq, bx, q⟩ := h
  cases ry
  rcases hq with hq | hq
  · obtain ⟨its, r, pl, hz⟩ := I.list hq
    refine SeqAt.notIn_listAt (fun _ => false) pl.isList (fun w hw => no_eq I bx rx hu r w (by simpa using hw)) ⟨.bl _, H, I, rfl, ?_⟩
    rw [Array.any_eq_false.mpr (fun _ _ => Bool.false_ne_true)]
    exact q
  · obtain ⟨its, r, pl, hz⟩ := I.tuple hq
    refine SeqAt.notIn_tupleAt (fun _ => false) pl (fun w hw => no_eq I bx rx hu r w (by simpa using hw)) ⟨.bl _, H, I, rfl, ?_⟩
    rw [Array.any_eq_false.mpr (fun _ _ => Bool.false_ne_true)]
    exact q
/-- whichever of two rules fits -/
theorem op_or {op : CmpOp} {r1 r2 : R2} (h1 : OpR X (compareOp op) r1) (h2 : OpR X (compareOp op) r2) : OpR X (compareOp op) (fun x y H Q => r1 x y H Q ∨ r2 x y H Q) := fun pins s σ H x y v u Q I rx ry h => h.elim (h1 pins s σ H x y v u Q I rx ry) (h2 pins s σ H x y v u Q I rx ry)
end
end Pl
end L2
set_option Elab.async false
set_option linter.all false
set_option maxRecDepth 100000
set_option maxHeartbeats 2000000
namespace L2
namespace Pl
open PySem PySem.Spec PyProof.Rows
section
variable {X : Cx}
theorem count_eqU {x : V} {v : Value} (fx : flatV x = true) : ∀ {xs : List V} {us : List Value}, Vals xs us → xs.all flatV = true → us.countP (eqU x) = xs.countP (fun y => eqV y x)
  | _, _, .nil, _ => rfl
  | y :: xs, u :: us, .cons r t, f => by
    rw [List.all_cons, Bool.and_eq_true] at f
    rw [List.countP_cons, List.countP_cons, eqU_of r f.1, count_eqU (v := v) fx t f.2]
/-- xs.count(x), flat items -/
def rCntF (K : PySem.W.Frag) : V → List V → Hp → VK → Prop := fun x xs H Q => ∃ (p : Addr) (zs : List V) (k : V), x = .ref p ∧ xs = [k] ∧ SqL K H p zs ∧ flatV k = true ∧ zs.all flatV = true ∧ Q (.int ((zs.countP (fun y => eqV y k) : Nat) : Int)) H
theorem mt_countF : MtR X "list.count" (rCntF X.K) := by
  intro pins s σ H x xs v us Q I rx rxs h
  obtain ⟨p, zs, k, rfl, rfl, hs, fk, fz, q⟩ := h
  cases rx
  obtain ⟨u, rfl, ru⟩ := rxs.one
  obtain ⟨its, rv, ⟨⟨cls, dd, data, sl⟩, n, ho, hc, hdn, hd⟩, hlen⟩ := I.list hs
  simp only at hc hd
  subst hc hd
  refine call_meets PySem.F.slot_list_count ⟨_, ho, rfl⟩ PySem.F.entry_list_count (PySem.F.args_list_count_2 _ _)
    (SeqAt.list_countAt p its.toArray n dd sl u (eqU k)) ⟨ho, fun y hy => mem_eqAt ru fk rv fz y (by simpa using hy), ?_⟩
  refine ⟨.int ((zs.countP (fun y => eqV y k) : Nat) : Int), H, I.tok _, ⟨s.toks, ?_⟩, q⟩
  have ec : its.toArray.toList.countP (eqU k) = zs.countP (fun y => eqV y k) := count_eqU (v := u) fk rv fz
  show Value.int ((its.toArray.toList.countP (eqU k) : Nat) : Int) s.toks = _
  rw [ec]
end
end Pl
end L2
set_option Elab.async false
set_option linter.all false
set_option maxRecDepth 100000
set_option maxHeartbeats 4000000
/-! for i, x in enumerate(xs, start=k) -/
namespace L2
namespace Pl
open PySem PySem.Spec PyProof.Rows
section
variable {M : Model} {A : Around} {E : Value → Shared → Prop} {s : Shared}
theorem callWith_type_kwB {pos : Pos} {id : String} {first : List Value} {args : List (Bool × Sem Value)} {keywords : List (Option Str × Sem Value)} {Q : Value → Shared → Prop}
    (hplain : args.any (·.1) = false) (hkw : keywords.any (·.1.isNone) = false)
    (h : wpAny M A (evalArgs (.type id) true args keywords) (fun a s₁ => wpAny M A (call (.type id) (first ++ a.pos) a.kw) Q E s₁) E s) :
    wpAny M A (callWith pos (.type id) first args keywords) Q E s := by
  unfold callWith
  refine wpAny_bind (wpAny_holding (wpAny_mono h (fun a s₁ h₁ => wpAny_bind (wpAny_standAt ?_)) fun _ _ x => x))
  simp only [hplain, hkw, Bool.or_false]
  refine wpAny_bind (wpAny_pure ?_)
  exact wpAny_bind (wpAny_mono h₁ (fun r s₂ hr => wpAny_bind (wpAny_holding (wpAny_point (wpAny_pure hr)))) fun _ _ x => x)
end
section
variable {prog : Program} {w : World} {A : Around} {E : Value → Shared → Prop} {s : Shared}
theorem enum_endK {e it l : Addr} {i : Nat} {c : Int} {items : Array Value} {old : Value} {Q : Option Value → Shared → Prop} (hh : A.handled = none)
    (he : IsEnum s.heap e it c old) (hit : s.heap.IsListIter it l i) (hl : s.heap.IsList l items) (hx : items[i]? = none)
    (hQ : ∀ h', Heap.ExtBut it s.heap h' → Q none { s with heap := h' }) : wpAny (model prog w) A (pyNext (.ref e)) Q E s := by
  have hT : s.TypeIs (.ref e) "enumerate" := ⟨_, he, rfl⟩
  unfold pyNext
  refine wpAny_bind (wpAny_attempt (wpAny_callSpecial?_slot (name := Str.ofString "__next__") hT PySem.F.slot_enumerate_next
    (wpAny_call_entry PySem.F.slot_enumerate_next hT PySem.F.entry_enumerate_next ?_ (PySem.F.args_enumerate_next_1 _))))
  show wpAny _ _ (field (.ref e) 2 >>= _) _ _ _
  refine wpAny_bind (wpAny_field he rfl (x := .ref it) rfl ?_)
  refine wpAny_bind (wpAny_nextOf_list_end hh hit hl hx fun h' x he' hx' => ?_)
  obtain ⟨o, ho, hc⟩ := hx'
  refine wpAny_bind (wpAny_isInstance (T := "StopIteration") (b := true) ⟨o, ho, hc⟩ isSubtype_stop ?_)
  exact wpAny_pure (hQ _ he')
end
/-- the list at a as it stands at each turn, each item in a new pair, counted from k -/
def IteK (K : PySem.W.Frag) (a : Addr) (k : Int) : It :=
  ⟨fun i H => ∃ (xs : List V) (x : V), SqL K H a xs ∧ xs[i]? = some x, fun i H v H' => ∃ T x, v = .ref T ∧ H T = none ∧ H' = upd H T (.tup [.int (k + (i : Nat)), x]) ∧ ∀ xs, SqL K H a xs → xs[i]? = some x, fun i H => ∃ xs : List V, SqL K H a xs ∧ xs.length ≤ i⟩
theorem turn_enumK {P : Program} {w : World} {K : PySem.W.Frag} {elts : List Expr} {kk : Nat} {tpos : Pos} (a e it : Addr) (k : Int) :
    Turn P w K (.Tuple elts kk tpos) (IteK K a k) [e, it] e (fun i h => (∃ old, IsEnum h e it (k + ((i : Nat) : Int)) old) ∧ h.IsListIter it a i ∧ e ≠ it) where
  mem := by simp
  obj := fun i h st b hb => by
    obtain ⟨⟨old, he⟩, ⟨o, ho, hc, hd⟩, _⟩ := st
    have e' : b = e ∨ b = it := by simpa using hb
    rcases e' with z | z
    · rw [z]; exact ⟨_, he, fun v q => nomatch q⟩
    · rw [z]; exact ⟨o, ho, fun v q => by rw [hd] at q; cases q⟩
  keep := fun i h h' st k => let ⟨⟨old, he⟩, hi, hne⟩ := st; ⟨⟨old, k e (by simp) _ he⟩, hi.at fun o q => k it (by simp) o q, hne⟩
  item := by
    intro X hP hw hK hc i pins s σ H E I hf st hg
    subst hP hw hK
    obtain ⟨⟨old, he⟩, hit, hne⟩ := st
    obtain ⟨xs, x, hq, hx⟩ := hg
    obtain ⟨its, rv, p, hz⟩ := I.list hq
    obtain ⟨u, hu, ru⟩ := rv.get hx
    have hel : e < s.heap.objs.size := Heap.lt_size he
    have hil : it < s.heap.objs.size := by obtain ⟨_, q, _⟩ := hit; exact Heap.lt_size q
    have hle : a ≠ e := fun z => by
      subst z
      obtain ⟨o, ho, hc1, _⟩ := p.isList
      rw [he] at ho
      cases ho
      exact absurd (show Value.type "enumerate" = Value.type "list" from hc1) (by decide +kernel)
    have hli : a ≠ it := fun z => by
      subst z
      obtain ⟨o, ho, hc1, _⟩ := p.isList
      obtain ⟨o2, ho2, hc2, _⟩ := hit
      rw [ho] at ho2
      cases ho2
      rw [hc1] at hc2
      exact absurd hc2 (by decide +kernel)
    have D : Draws X.prog X.w X.A.in1 it [it, a] its.toArray.size (fun i v => its.toArray[i]? = some v) (fun i h => h.IsListIter it a i ∧ h.IsList a its.toArray) := Draws.list (by simpa using I.ok.hd hc) it a hli its.toArray
    have hlt : i < its.toArray.size := by
      have := (List.getElem?_eq_some_iff.mp hu).1
      simpa using this
    refine wpAny_pyNext_enum_itemC D he ⟨hit, p.isList⟩ hlt hne (by simp [hne, Ne.symm hle]) fun x' h' tk hx' ho hit' hT hsz hk => ?_
    have ex : x' = u := by
      have : its.toArray[i]? = some u := by simpa using hu
      rw [this] at hx'
      exact (Option.some.inj hx').symm
    subst ex
    refine ⟨_, rfl, wpAny_letOwnedTupleGo_enum (s := { s with heap := h', toks := tk + 1 }) ho fun h'' he' sb => ?_⟩
    have hT2 : h''.get? s.heap.objs.size = some { cls := .type "tuple", data := .seq #[.int (k + (i : Int)) tk, x'] } := (sb.2 _ (Nat.ne_of_gt hel)).trans hT
    have new : ObjOk X.prog X.w (upd H s.heap.objs.size (.tup [.int (k + (i : Nat)), x])) h'' s.heap.objs.size (.tup [.int (k + (i : Nat)), x]) :=
      ⟨by show 2 ≤ sizeLine; decide, [.int (k + (i : Int)) tk, x'], .cons ⟨_, rfl⟩ (.cons ru .nil), ⟨_, hT2, rfl, _, rfl⟩⟩
    have I1 : Inv X pins σ (upd H s.heap.objs.size (.tup [.int (k + (i : Nat)), x])) { s with heap := h'', toks := tk + 1 } :=
      I.turnedNew (t' := tk + 1) (ch := [e, it]) (fun b ob hb q => (sb.2 b (fun z => hb (by simp [z]))).trans (hk b ob (fun z => hb (by simp [z])) (fun z => hb (by simp [z])) q)) hf (Nat.le_refl _) new
    refine ⟨.ref s.heap.objs.size, _, I1, rfl, ⟨_, x, rfl, I.hok.fresh (Nat.le_refl _), rfl, fun ys hy => by rw [I.list_inj hy hq]; exact hx⟩, ⟨⟨x', ?_⟩, hit'.1.at fun o q => (sb.2 it (Ne.symm hne)).trans q, hne⟩, fun b hb => ?_⟩
    · have e1 : k + ((i + 1 : Nat) : Int) = k + (i : Int) + 1 := by omega
      rw [e1]; exact he'
    · have hb' : b < s.heap.objs.size := by
        have e' : b = e ∨ b = it := by simpa using hb
        rcases e' with z | z
        · rw [z]; exact hel
        · rw [z]; exact hil
      rw [upd_ne (Nat.ne_of_lt hb')]
      exact (hf b hb).1
  done := by
    intro X hP hw hK hc i pins s σ H E I hf st hg
    subst hP hw hK
    obtain ⟨⟨old, he⟩, hit, hne⟩ := st
    obtain ⟨xs, hq, hx⟩ := hg
    obtain ⟨its, rv, p, hz⟩ := I.list hq
    obtain ⟨f0, f1, f2, f3, f4, f5⟩ := hf it (by simp)
    have hl := rv.length
    exact enum_endK (I.ok.hd hc) he hit p.isList (by simp; omega) fun h' eb => ⟨rfl, I.turned (t' := s.toks) (fun b o hb q => eb b o hb q) f0 f1 f3 f4 f5⟩
  self := fun A i s Q E st h => let ⟨⟨_, he⟩, _⟩ := st; wpAny_pyIter_enum he h
def iEnumK (K : PySem.W.Frag) (ta tk : TA) : TI := fun σ H R => ta σ H fun vs H1 => tk σ H1 fun zs H2 => ∃ a xs k, vs = [.ref a] ∧ zs = [.int k] ∧ SqL K H2 a xs ∧ -(2 ^ 60) ≤ k ∧ k < 2 ^ 60 ∧ R (IteK K a k) H2
theorem pi_enumK {X : Cx} {e : Expr} {ta tk : TA} {p pos tpos : Pos} {elts : List Expr} {kk : Nat} {kws : List Keyword} (hg : Gl X "enumerate") (hm : X.mg "enumerate" = none) (ha : PA X [e] ta) (hkw : PK X kws tk)
    (hs : starEach [e] X.env = [(false, eval e X.env)] := by rfl) (hall : (backToKw pos (keywordEach kws X.env)).all (·.1.isSome) = true := by rfl) (hnone : (backToKw pos (keywordEach kws X.env)).any (·.1.isNone) = false := by rfl)
    (hks : (backToKw pos (keywordEach kws X.env)).filterMap (·.1) = [Str.ofString "start"] := by rfl) :
    PI X (.Tuple elts kk tpos) (.Call (.Name "enumerate" p) [e] kws pos) (iEnumK X.K ta tk) := by
  refine ⟨fun pins s σ H R I h => ?_⟩
  refine wpAny_Call_Name_kw (ld_blt I hg hm boot_enumerate ?_)
  have hb : backTo pos (starEach [e] X.env) = [(false, eval e X.env)] := by
    rw [hs]
    simp [backTo]
  refine callWith_type_kwB (by rw [hb]; rfl) hnone ?_
  have hr := fun Q => ha.run pos pins s σ H Q I
  rw [hb] at hr ⊢
  refine evalArgs_kwB hall ?_
  refine thn (hr _ h) fun us s1 ⟨vs, H1, I1, r1, q1⟩ => thn (hkw.run pos pins s1 σ H1 _ I1 q1) fun ws s2 ⟨zs, H2, I2, r2, q2⟩ => ?_
  obtain ⟨a, xs, k, rfl, rfl, hq, k0, k1, q⟩ := q2
  obtain ⟨u, rfl, ru⟩ := vals1 r1
  obtain ⟨u2, rfl, t, rfl⟩ := vals1 r2
  obtain rfl : u = Value.ref a := ru
  obtain ⟨its, rv, p', hz⟩ := I2.list hq
  rw [hks]
  refine enum_begins_start (begins_list a its.toArray) p'.isList (by omega) (by omega) fun h' he hit hsz hk => wpAny_pyIter_enum he ?_
  have I3 : Inv X pins σ H2 { s2 with heap := h' } := I2.kept (t' := s2.toks) hk
  have hit2 : h'.IsListIter s2.heap.objs.size a 0 := ⟨_, hit, rfl, rfl⟩
  refine ⟨s2.heap.objs.size + 1, [s2.heap.objs.size + 1, s2.heap.objs.size], _, _, H2, rfl, I3, turn_enumK a (s2.heap.objs.size + 1) s2.heap.objs.size k, ⟨⟨.none, by simpa using he⟩, hit2, Nat.succ_ne_self _⟩, fun b hb => ?_, q⟩
  have e' : b = s2.heap.objs.size + 1 ∨ b = s2.heap.objs.size := by simpa using hb
  have hle : s2.heap.objs.size ≤ b := by
    rcases e' with z | z
    · rw [z]; exact Nat.le_add_right _ _
    · rw [z]; exact Nat.le_refl _
  exact I2.fpOk hle (I2.hok.fresh hle)
theorem walk_enumK {K : PySem.W.Frag} {a : Addr} {xs : List V} {k : Int} : Walk (IteK K a k) xs.length (fun H => SqL K H a xs) (YPair (fun i => some (.int (k + (i : Nat)))) (fun i => xs[i]?)) := by
  refine ⟨fun i _ hi q => ⟨xs, xs[i], q, by simp [hi]⟩, fun _ q => ⟨xs, q, Nat.le_refl _⟩, fun i H v H' _ q y => ?_⟩
  obtain ⟨T, x, h1, h2, h3, h4⟩ := y
  exact ⟨T, .int (k + (i : Nat)), x, h1, h2, h3, rfl, h4 xs q⟩
end Pl
end L2
set_option Elab.async false
set_option linter.all false
set_option maxRecDepth 100000
set_option maxHeartbeats 4000000
namespace L2
namespace Pl
open PySem PySem.Spec PyProof.Rows
def Sd.deeds (b : Sd) : List Str := b.ds.map (·.1)
def how3 : List Str := ["done", "stops", "fails"]
/-- whether words are those of an event of a store with the deeds ds -/
def evB (ds : List Str) : List Str → Bool
  | [w, h] => decide (w ∈ (["work", "replay"] : List Str)) && decide (h ∈ how3)
  | [w, k, d] => decide (w = "send") && (isNameB k && decide (d ∈ ds))
  | _ => false
def spIsEvT (K : PySem.W.Frag) (C : Addr) : Sp := fun vs H Q _ => ∃ x b t ws, vs = [.ref x, .ref t] ∧ StAt C H x b ∧ SqT K H t (sV ws) ∧ (∀ w ∈ ws, w.length ≤ sizeLine) ∧ ∀ H', Same H H' → Q (.bl (evB b.deeds ws)) H'
structure EvG (K : PySem.W.Frag) (mg : Str → Option Value) : Prop where
  hows : ∃ g, mg "HOWS" = some (.ref g) ∧ ∀ H, SqT K H g (sV how3)
structure StD (P : Program) (w : World) (K : PySem.W.Frag) (mg : Str → Option Value) (base : Heap) (C : Addr) : Prop where
  dds : ∃ p f fd, FnOk P w K mg base CX0 1 f fd ["self"] (spGetF C "_deeds") ∧ L2.Binds K fd ["self"] [] ∧ PropOf K C "deeds" p f
theorem sqt_ty {K : PySem.W.Frag} {H : Hp} {t : Addr} {us : List V} (h : SqT K H t us) : TyX K H (.ref t) (.type "tuple") := by
  rcases h with (h | ⟨o, h⟩) | ⟨o, _, _, h, c, _⟩
  · exact .base (.tup h)
  · exact .fTuple h
  · exact .kTuple h c
theorem kitT_T {K : PySem.W.Frag} : PySem.W.kitOne K (.type "tuple") (.type "tuple") = some true := kit_ty (by decide +kernel)
theorem strVD {x y : Str} : decide (V.str x = V.str y) = decide (x = y) := by
  rw [Bool.eq_iff_iff, decide_eq_true_iff, decide_eq_true_iff]
  exact ⟨fun z => by injection z, fun z => by rw [z]⟩
theorem intVD {x y : Int} : decide (V.int x = V.int y) = decide (x = y) := by
  rw [Bool.eq_iff_iff, decide_eq_true_iff, decide_eq_true_iff]
  exact ⟨fun z => by injection z, fun z => by rw [z]⟩
theorem iteDT {p : Prop} [Decidable p] {A B : Prop} (h : p) (a : A) : if decide p = true then A else B := by
  rw [decide_eq_true h]
  exact iteT a
theorem iteDF {p : Prop} [Decidable p] {A B : Prop} (h : ¬ p) (b : B) : if decide p = true then A else B := by
  rw [decide_eq_false h]
  exact iteF b
end Pl
end L2
namespace Bs
open PySem PySem.Spec PyProof.Rows L2 L2.Pl
section
variable {P : Program} {w : World} {K : PySem.W.Frag} {mg : Str → Option Value} {base : Heap} {f : Addr} {fd : FuncData}
abbrev NIe : List Str := ["store", "value", "word", "key", "deed", "how"]
theorem scIsEvent : FnScope NIe ["store", "value"] (defScope sIsEvent) := ⟨rfl, rfl, rfl, by decide +kernel, rfl, by decide +kernel, by decide +kernel⟩
theorem ok_isEvT {C : Addr} (G : Gn mg) (T : StF K mg C) (D : StD P w K mg base C) (V0 : EvG K mg) (F : FnP K "is_event" sIsEvent f fd) (hN : Has P w K mg base CX0 "is_name" 1 ["value"] (spIsName K)) : FnOk P w K mg base CX0 3 f fd ["store", "value"] (spIsEvT K C) := by
  obtain ⟨fN, dN, oN, bN, gN, kN⟩ := hN.ex
  obtain ⟨pD, fD, dD, oD, bD, mD⟩ := D.dds
  obtain ⟨g, hg, sg⟩ := V0.hows
  refine F.ok scIsEvent (fun vs H Q E h => ?_) (fun cdv A outer s H vs Q E hr h => ?_)
  · obtain ⟨_, _, _, _, rfl, _⟩ := h
    rfl
  · obtain ⟨x, b, t, ws, rfl, hx, ht, hw, q⟩ := h
    have hr1 := hr.mono (j := 1) (by decide)
    refine ⟨_, PSs.nox (pss_cons (ps_if (pt_not (pt_val (pe_callB call_isi (by rfl) G.isi bIsi (pa_cons (pv 1) (pa_cons (pe_bltn (v := .ty "tuple") (by rfl) G.tuple bTuple rfl) pa_nil))))) (pss_one (ps_ret pe_bl)) pss_nil)
      (pss_cons (ps_if (pt_cmpR op_eq (pe_callB call_len_seq (by rfl) G.len bLen (pa_cons (pv 1) pa_nil)) pe_int (nomark _))
        (pss_cons (ps_asg (pv 1) (pg_tup rfl (pgs_cons (pg_name (i := 2) scIsEvent.nd rfl (.inl rfl)) (pgs_cons (pg_name (i := 3) scIsEvent.nd rfl (.inl rfl)) (pgs_cons (pg_name (i := 4) scIsEvent.nd rfl (.inl rfl)) pgs_nil)))))
          (pss_one (ps_ret (pe_and (pe_cmpR op_eq (pv 2) pe_str (by rfl)) (pe_and (pe_call oN hr1 (by rfl) gN kN bN .nil pass0 (pa_cons (pv 3) pa_nil)) (pe_one (pe_cmpR op_in_seq (pv 4) (pe_prop (pv 0) T.cl mD oD hr bD .nil pass0 (by rfl)) (by with_unfolding_all rfl)))))))) pss_nil)
      (pss_cons (ps_if (pt_cmpR op_eq (pe_callB call_len_seq (by rfl) G.len bLen (pa_cons (pv 1) pa_nil)) pe_int (nomark _))
        (pss_cons (ps_asg (pv 1) (pg_tup rfl (pgs_cons (pg_name (i := 2) scIsEvent.nd rfl (.inl rfl)) (pgs_cons (pg_name (i := 5) scIsEvent.nd rfl (.inl rfl)) pgs_nil))))
          (pss_one (ps_ret (pe_and (pe_cmpR op_in_seq (pv 2) (pe_tup (pa_cons pe_str (pa_cons pe_str pa_nil))) (by with_unfolding_all rfl)) (pe_one (pe_cmpR op_in_seq (pv 5) (pe_glob (v := .ref g) (by rfl) hg rfl) (by with_unfolding_all rfl))))))) pss_nil)
      (pss_one (ps_ret pe_bl))))), ?_⟩
    refine ⟨_, rfl, .ref t, .ty "tuple", _, _, true, rfl, .ty _, sqt_ty ht, kitT_T, true, rfl, iteF ?_⟩
    refine ⟨_, rfl, t, sV ws, rfl, .inr ht, rfl, _, rfl, ?_⟩
    rw [intVD]
    obtain ⟨dx, ts, td, dl, dk, es, x1, x2, x3, x4, x5, x6⟩ := id hx
    by_cases h3 : ws.length = 3
    · match ws, h3, hw, ht, q with
      | [w1, k, d], _, hw, ht, q =>
        refine iteDT rfl ⟨_, rfl, t, _, rfl, ht, rfl, _, [.str k, .str d], rfl, _, [.str d], rfl, _, [], rfl, rfl, ?_⟩
        refine ⟨_, rfl, rfl, _, rfl, ?_⟩
        rw [strVD]
        by_cases c1 : w1 = "send"
        · have e1 : evB b.deeds [w1, k, d] = (isNameB k && decide (d ∈ b.deeds)) := by
            show (decide (w1 = "send") && _) = _
            rw [decide_eq_true c1, Bool.true_and]
          rw [e1] at q
          refine iteDT c1 ⟨_, rfl, .str k, rfl, .inl ⟨k, rfl, hw k (by simp), fun H1 m1 => ⟨_, rfl, ?_⟩⟩⟩
          cases c2 : isNameB k with
          | false =>
            rw [c2] at q
            exact iteF (q _ m1)
          | true =>
            rw [c2] at q
            refine iteT ⟨_, rfl, _, rfl, x, dx, _, rfl, m1 _ _ x1, x, dx, _, .ref td, rfl, m1 _ _ x1, st_look2, td, _, rfl, .inr (.inl (.inl (m1 _ _ x3))), rfl, flat_strsO _, ?_⟩
            rw [if_neg Bool.false_ne_true, inV_strs]
            exact q _ m1
        · have e1 : evB b.deeds [w1, k, d] = false := by
            show (decide (w1 = "send") && _) = _
            rw [decide_eq_false c1, Bool.false_and]
          rw [e1] at q
          exact iteDF c1 (q _ (Same.refl H))
    · refine iteDF (by show ¬ (((List.length (sV ws) : Nat) : Int) = 3); rw [List.length_map]; omega) ?_
      refine ⟨_, rfl, t, sV ws, rfl, .inr ht, rfl, _, rfl, ?_⟩
      rw [intVD]
      by_cases h2 : ws.length = 2
      · match ws, h2, hw, ht, q with
        | [w1, h], _, hw, ht, q =>
          refine iteDT rfl ⟨_, rfl, t, _, rfl, ht, rfl, _, [.str h], rfl, _, [], rfl, rfl, ?_⟩
          refine ⟨_, rfl, by show 2 ≤ sizeLine; decide, fun t2 h2 => ⟨t2, sV ["work", "replay"], rfl, .inr (.inl (.inl upd_same)), rfl, flat_strsO _, ?_⟩⟩
          rw [if_neg Bool.false_ne_true, inV_strs]
          have m1 := same_new h2 (o := .tup [.str "work", .str "replay"])
          refine ⟨_, rfl, ?_⟩
          by_cases c1 : w1 ∈ (["work", "replay"] : List Str)
          · have e1 : evB b.deeds [w1, h] = decide (h ∈ how3) := by
              show (decide (w1 ∈ (["work", "replay"] : List Str)) && _) = _
              rw [decide_eq_true c1, Bool.true_and]
            rw [e1] at q
            refine iteDT c1 ⟨_, rfl, g, _, rfl, .inr (sg _), rfl, flat_strsO _, ?_⟩
            rw [if_neg Bool.false_ne_true, inV_strs]
            exact q _ m1
          · have e1 : evB b.deeds [w1, h] = false := by
              show (decide (w1 ∈ (["work", "replay"] : List Str)) && _) = _
              rw [decide_eq_false c1, Bool.false_and]
            rw [e1] at q
            exact iteDF c1 (q _ m1)
      · refine iteDF (by show ¬ (((List.length (sV ws) : Nat) : Int) = 2); rw [List.length_map]; omega) ?_
        have e1 : evB b.deeds ws = false := by
          match ws, h3, h2 with
          | [], _, _ => rfl
          | [_], _, _ => rfl
          | [_, _], _, h => exact absurd rfl h
          | [_, _, _], h, _ => exact absurd rfl h
          | _ :: _ :: _ :: _ :: _, _, _ => rfl
        rw [e1] at q
        exact q _ (Same.refl H)
end
end Bs
set_option Elab.async false
set_option linter.all false
set_option maxRecDepth 100000
set_option maxHeartbeats 4000000
namespace L2
namespace Pl
open PySem PySem.Spec PyProof.Rows
def rJoinK (K : PySem.W.Frag) : V → List V → Hp → VK → Prop := fun x xs H Q => ∃ a p, ∃ ys : List Str, x = .str a ∧ xs = [.ref p] ∧ (SqL K H p (ys.map V.str) ∨ SqT K H p (ys.map V.str)) ∧ (ys.map (·.length)).sum + ys.length * a.length ≤ 16777216 ∧ Q (.str (Txt.join a ys)) H
/-- a small event: at most three words of at most eight signs -/
structure EvS (ws : List Str) : Prop where
  few : ws.length ≤ 3
  len : ∀ w ∈ ws, w.length ≤ 8
def textOf (evs : List (List Str)) : Str := Txt.join "\n" (evs.map (Txt.join " "))
theorem sum_le {n : Nat} : ∀ {l : List Nat}, (∀ x ∈ l, x ≤ n) → l.sum ≤ l.length * n
  | [], _ => by simp
  | x :: r, h => by
    have h1 := h x (List.mem_cons_self ..)
    have h2 := sum_le (n := n) (l := r) fun y hy => h y (List.mem_cons_of_mem _ hy)
    rw [List.sum_cons, List.length_cons, Nat.succ_mul]
    omega
theorem join_len {sep : Str} {ys : List Str} {n m : Nat} (h : ∀ y ∈ ys, y.length ≤ n) (hm : ys.length ≤ m) (hs : sep.length = 1) : (Txt.join sep ys).length ≤ m * (n + 1) ∧ (ys.map (·.length)).sum + ys.length * sep.length ≤ m * (n + 1) := by
  have h1 : (ys.map (·.length)).sum ≤ ys.length * n := by
    have := sum_le (n := n) (l := ys.map (·.length)) fun x hx => by
      obtain ⟨y, hy, rfl⟩ := List.mem_map.mp hx
      exact h y hy
    rwa [List.length_map] at this
  have h2 := StrLaws.join_length_le sep ys
  have h3 : ys.length * (n + 1) ≤ m * (n + 1) := Nat.mul_le_mul_right _ hm
  rw [Nat.mul_succ] at h3
  have e : Txt.join sep ys = Str.join sep ys := StrLaws.glued_eq_join sep ys
  rw [e]
  rw [hs, Nat.mul_one] at h2 ⊢
  omega
theorem EvS.join {ws : List Str} (h : EvS ws) : (Txt.join " " ws).length ≤ 27 ∧ (ws.map (·.length)).sum + ws.length * (" " : Str).length ≤ 27 := join_len h.len h.few (by decide +kernel)
theorem text_len {evs : List (List Str)} (h : ∀ ws ∈ evs, EvS ws) (n : evs.length ≤ 100) : (textOf evs).length ≤ 2800 ∧ ((evs.map (Txt.join " ")).map (·.length)).sum + (evs.map (Txt.join " ")).length * ("\n" : Str).length ≤ 2800 := by
  refine join_len (n := 27) (m := 100) (fun y hy => ?_) (by rw [List.length_map]; exact n) (by decide +kernel)
  obtain ⟨ws, hw, rfl⟩ := List.mem_map.mp hy
  exact (h ws hw).join.1
def spRowText (K : PySem.W.Frag) : Sp := fun vs H Q _ => ∃ l ts evs, vs = [.ref l] ∧ SqL K H l (ts.map V.ref) ∧ Paired (fun t ws => SqT K H t (sV ws)) ts evs ∧ (∀ ws ∈ evs, EvS ws) ∧ evs.length ≤ 100 ∧ ∀ H', Same H H' → Q (.str (textOf evs)) H'
theorem ys_strs {ys : List V} {fs : List Str} (hl : ys.length = fs.length) (h : ∀ (i : Nat) y, ys[i]? = some y → ∃ x, fs[i]? = some x ∧ y = .str x) : ys = sV fs := by
  apply List.ext_getElem?
  intro i
  cases e : ys[i]? with
  | none =>
    have := List.getElem?_eq_none_iff.mp e
    rw [List.getElem?_eq_none (by rw [List.length_map]; omega)]
  | some y =>
    obtain ⟨x, hx, rfl⟩ := h i y e
    rw [List.getElem?_map, hx]
    rfl
end Pl
end L2
namespace Bs
open PySem PySem.Spec PyProof.Rows L2 L2.Pl
section
variable {P : Program} {w : World} {K : PySem.W.Frag} {mg : Str → Option Value} {base : Heap} {f : Addr} {fd : FuncData}
theorem scRowText : FnScope ["row", "event"] ["row"] (defScope sRowText) := ⟨rfl, rfl, rfl, by decide +kernel, rfl, by decide +kernel, by decide +kernel⟩
theorem ok_rowText (F : FnP K "row_text" sRowText f fd) : FnOk P w K mg base CX0 1 f fd ["row"] (spRowText K) := by
  refine F.ok scRowText (fun vs H Q E h => ?_) (fun cdv A outer s H vs Q E hr h => ?_)
  · obtain ⟨_, _, _, rfl, _⟩ := h
    rfl
  · obtain ⟨l, ts, evs, rfl, hl, hp, sm, few, q⟩ := h
    refine ⟨_, PSs.nox (pss_one (ps_ret (pe_join pe_str (pe_lc (own := [("event", 1)]) (g := gName 1) (tt := tYes) (te := tM1 (rJoinK K) (tC (.str " ")) (tVar 1)) rfl scRowText.nd (pi_list (pv 0)) (blkOk_by (N := ["row", "event"]) (sc := defScope sRowText) (by decide +kernel)) (fun _ _ _ _ _ => pg_name (i := 1) scRowText.nd rfl (.inl rfl)) (fun _ _ _ _ _ => pts_nil) (fun _ _ _ _ _ => pe_join pe_str (pv 1)))))), ?_⟩
    have len := hp.length
    refine ⟨⟨_, rfl⟩, _, rfl, l, rfl, ⟨_, hl⟩, fun D hD => ?_⟩
    refine lc_ix (walk_list (K := K) (a := l) (xs := ts.map V.ref)) (fun i y => ∃ x, (evs.map (Txt.join " "))[i]? = some x ∧ y = .str x) hD (fun H2 m2 => m2.seq hl) (by rw [List.length_map]; omega) (fun i x H2 H3 N YK hi m2 _ hx ky => ?_) (fun H2 ys m2 hy ly ry => ?_)
    · obtain ⟨rfl, hx⟩ := hx
      obtain ⟨t, ht, rfl⟩ : ∃ t, ts[i]? = some t ∧ x = .ref t := by
        rw [List.getElem?_map] at hx
        cases e : ts[i]? with
        | none => rw [e] at hx; cases hx
        | some u => rw [e] at hx; exact ⟨u, rfl, (Option.some.inj hx).symm⟩
      obtain ⟨ws, hws, hw⟩ := L2.paired_get hp ht
      have s1 := sm ws (List.mem_of_getElem? hws)
      refine ⟨rfl, iteT (B := N H3) ⟨⟨_, rfl⟩, _, rfl, " ", t, ws, rfl, rfl, .inr (seqT_same hw m2), by have := s1.join.2; omega, ky _ _ m2 rfl ⟨_, ?_, rfl⟩⟩⟩
      rw [List.getElem?_map, hws]
      rfl
    · have e := ys_strs (fs := evs.map (Txt.join " ")) (by rw [ly, List.length_map, List.length_map]; exact len) ry
      subst e
      exact ⟨"\n", D, _, rfl, rfl, .inl (SqL.of hy), by have := (text_len sm few).2; omega, q H2 m2⟩
end
end Bs
set_option Elab.async false
set_option linter.all false
set_option maxRecDepth 100000
set_option maxHeartbeats 4000000
namespace L2
namespace Pl
open PySem PySem.Spec PyProof.Rows
abbrev lnsOf (t : Str) : List Str := Txt.split t "\n"
abbrev wdsOf (l : Str) : List Str := Txt.split l " "
/-- the row that has a text, or the number of the first bad line -/
inductive RdK (ds : List Str) (t : Str) : List (List Str) ⊕ Nat → Prop
  | nil : t = "" → RdK ds t (.inl [])
  | all : t ≠ "" → (∀ l ∈ lnsOf t, evB ds (wdsOf l) = true) → RdK ds t (.inl ((lnsOf t).map wdsOf))
  | bad {i : Nat} {l : Str} : t ≠ "" → (lnsOf t)[i]? = some l → evB ds (wdsOf l) = false → (∀ j l', j < i → (lnsOf t)[j]? = some l' → evB ds (wdsOf l') = true) → RdK ds t (.inr (i + 1))
theorem rd_ex (ds : List Str) (t : Str) : ∃ r, RdK ds t r := by
  by_cases h : t = ""
  · exact ⟨_, .nil h⟩
  · have key : ∀ ls : List Str, (∀ l ∈ ls, evB ds (wdsOf l) = true) ∨ ∃ (i : Nat) (l : Str), ls[i]? = some l ∧ evB ds (wdsOf l) = false ∧ ∀ (j : Nat) l', j < i → ls[j]? = some l' → evB ds (wdsOf l') = true := by
      intro ls
      induction ls with
      | nil => exact .inl fun l hl => nomatch hl
      | cons l r ih =>
        cases e : evB ds (wdsOf l) with
        | false => exact .inr ⟨0, l, rfl, e, fun j _ hj => absurd hj (Nat.not_lt_zero _)⟩
        | true =>
          rcases ih with ih | ⟨i, l2, h1, h2, h3⟩
          · refine .inl fun x hx => ?_
            rcases List.mem_cons.mp hx with rfl | hx
            · exact e
            · exact ih x hx
          · refine .inr ⟨i + 1, l2, h1, h2, fun j l' hj hl' => ?_⟩
            cases j with
            | zero =>
              obtain rfl := Option.some.inj hl'
              exact e
            | succ j => exact h3 j l' (by omega) hl'
    rcases key (lnsOf t) with h2 | ⟨i, l, h1, h2, h3⟩
    · exact ⟨_, .all h h2⟩
    · exact ⟨_, .bad h h1 h2 h3⟩
def RaisesL (E : XK) (CB : Addr) (H : Hp) (n : Nat) : Prop := ∀ H' d, Same H H' → H' d = none → E (.ref CB) (some d) (upd H' d (.xd [("line", .int (n : Int))]))
def RowAt (H : Hp) (p : Addr) (rows : List (List Str)) : Prop := ∃ ts : List Addr, H p = some (.lst (ts.map V.ref)) ∧ Paired (fun t ws => H t = some (.tup (sV ws))) ts rows
def spReadRow (K : PySem.W.Frag) (C CB : Addr) : Sp := fun vs H Q E => ∃ x b v, vs = [.ref x, v] ∧ StAt C H x b ∧ ((NotStr K H v ∧ RaisesL E CB H 1) ∨ ∃ t r, v = .str t ∧ t.length ≤ 12000 ∧ RdK b.deeds t r ∧
  (∀ rows, r = .inl rows → ∀ H' p, Same H H' → H p = none → RowAt H' p rows → Q (.ref p) H') ∧ ∀ n, r = .inr n → RaisesL E CB H n)
theorem split_short {x y : Str} (hy : 1 ≤ y.length) {z : Str} (h : z ∈ Txt.split x y) : z.length ≤ x.length := by
  have h1 := split_weight x y hy
  have h2 : z.length ≤ ((Txt.split x y).map (·.length)).sum := by
    have : ∀ {l : List Str}, z ∈ l → z.length ≤ (l.map (·.length)).sum := by
      intro l
      induction l with
      | nil => intro h; cases h
      | cons a r ih =>
        intro h
        rw [List.map_cons, List.sum_cons]
        rcases List.mem_cons.mp h with rfl | h
        · omega
        · have := ih h
          omega
    exact this h
  have h3 : 1 ≤ (Txt.split x y).length := split_pos x y
  omega
theorem nl1 : 1 ≤ ("\n" : Str).length := by decide +kernel
theorem sp1 : 1 ≤ (" " : Str).length := by decide +kernel
end Pl
end L2
namespace Bs
open PySem PySem.Spec PyProof.Rows L2 L2.Pl
section
variable {P : Program} {w : World} {K : PySem.W.Frag} {mg : Str → Option Value} {base : Heap} {f : Addr} {fd : FuncData}
abbrev NRr : List Str := ["store", "text", "row", "number", "line", "event"]
theorem scReadRow : FnScope NRr ["store", "text"] (defScope sReadRow) := ⟨rfl, rfl, rfl, by decide +kernel, rfl, by decide +kernel, by decide +kernel⟩
theorem ok_readRow {C CB : Addr} (G : Gn mg) (N : RaF P w K mg base "BadText" "line" CB) (F : FnP K "read_row" sReadRow f fd) (hI : Has P w K mg base CX0 "is_event" 3 ["store", "value"] (spIsEvT K C)) : FnOk P w K mg base (L2.CX P w) 4 f fd ["store", "text"] (spReadRow K C CB) := by
  obtain ⟨fE, dE, oE, bE, gE, kE⟩ := hI.ex
  obtain ⟨fI, dI, iC, tI, oI, bI⟩ := N.ini
  refine F.ok (CX := L2.CX P w) scReadRow (fun vs H Q E h => ?_) (fun cdv A outer s H vs Q E hr h => ?_)
  · obtain ⟨_, _, _, rfl, _⟩ := h
    rfl
  · obtain ⟨x, b, v, rfl, hx, h⟩ := h
    have hr2 := hr.mono (j := 2) (by decide)
    refine ⟨_, pss_cons (ps_if (pt_not (pt_val (pe_callB call_isi (by rfl) G.isi bIsi (pa_cons (pv 1) (pa_cons (pe_bltn (v := .ty "str") (by rfl) G.str bStr rfl) pa_nil))))) (pss_one (ps_raise rfl (takes_of rfl rfl rfl rfl) (pmk_oex N.o iC tI oI hr2 bI .nil pass0 (by rfl) N.g (pa_cons pe_int pa_nil)))) pss_nil)
      (pss_cons (ps_if (pt_cmpR op_eq (pv 1) pe_str (nomark _)) (pss_one (ps_ret (pe_lst pa_nil))) pss_nil)
      (pss_cons (ps_set (i := 2) scReadRow.nd rfl (.inl rfl) (pe_lst pa_nil))
      (pss_cons (ps_for (passes_of rfl) rfl (pi_enumK (by rfl) G.enum (pa_cons (pe_split (pv 1) pe_str) pa_nil) (pk_cons pe_int pk_nil)) (pg_tup rfl (pgs_cons (pg_name (i := 3) scReadRow.nd rfl (.inl rfl)) (pgs_cons (pg_name (i := 4) scReadRow.nd rfl (.inl rfl)) pgs_nil)))
        (pss_cons (ps_set (i := 5) scReadRow.nd rfl (.inl rfl) (pe_callTy call_tuple_of (by rfl) G.tuple bTuple (pa_cons (pe_split (pv 4) pe_str) pa_nil)))
        (pss_cons (ps_if (pt_not (pt_val (pe_call oE hr (by rfl) gE kE bE .nil pass0 (pa_cons (pv 0) (pa_cons (pv 5) pa_nil))))) (pss_one (ps_raise rfl (takes_of rfl rfl rfl rfl) (pmk_oex N.o iC tI oI hr2 bI .nil pass0 (by rfl) N.g (pa_cons (pv 3) pa_nil)))) pss_nil)
        (pss_one (ps_expr (pe_bm PySem.F.plainAttrs_list PySem.F.slot_list_append PySem.F.type_list_append mt_append (pv 2) (pa_cons (pv 5) pa_nil)))))))
      (pss_one (ps_ret (pv 2)))))), ?_⟩
    rcases h with ⟨⟨t0, ty, kt⟩, e⟩ | ⟨t, r, rfl, ht, rk, q, e⟩
    · refine ⟨_, rfl, v, .ty "str", _, _, false, rfl, .ty _, ty, kt, false, rfl, ?_⟩
      refine iteT ⟨by show 1 ≤ 1000; decide, fun a ha => ⟨a, .int 1, rfl, upd_same, fun d hd hne => ⟨rfl, d, _, exH_at, exH_dict hne, (upd_ne hne).symm.trans hd, ?_⟩⟩⟩
      rw [raised_heap ha hne]
      exact e _ d (Same.refl H) ((upd_ne hne).symm.trans hd)
    · refine ⟨_, rfl, .str t, .ty "str", _, _, true, rfl, .ty _, tyS t, kitS, true, rfl, iteF ?_⟩
      refine ⟨_, rfl, rfl, _, rfl, ?_⟩
      rw [strVD]
      by_cases h0 : t = ""
      · have er : r = .inl [] := by
          cases rk with
          | nil => rfl
          | all h => exact absurd h0 h
          | bad h => exact absurd h0 h
        exact iteDT h0 ⟨by show 0 ≤ sizeLine; decide, fun p hp => q _ er _ p (same_new hp) hp ⟨[], upd_same, .nil⟩⟩
      · refine iteDF h0 ⟨by show 0 ≤ sizeLine; decide, fun r0 hr0 => ?_⟩
        have m0 := same_new hr0 (o := .lst [])
        have hr1 : (upd H r0 (.lst [])) r0 = some (.lst []) := upd_same
        generalize upd H r0 (.lst []) = H0 at *
        refine ⟨_, rfl, ⟨_, rfl⟩, t, "\n", rfl, rfl, by decide +kernel, by rw [sizeLine_eq]; omega, fun p hp => ?_⟩
        have m1 := same_new hp (o := .lst ((lnsOf t).map V.str))
        have hp1 : (upd H0 p (.lst ((lnsOf t).map V.str))) p = some (.lst (sV (lnsOf t))) := upd_same
        have npr : r0 ≠ p := ne_of_none hr1 hp
        have ll : (lnsOf t).length ≤ 12002 := by
          have := split_le t "\n"
          show (Txt.split t "\n").length ≤ 12002
          omega
        refine ⟨p, sV (lnsOf t), 1, rfl, rfl, SqL.of hp1, by decide, by decide, for_it (walk_enumK (K := K) (a := p) (xs := sV (lnsOf t)) (k := 1)) (fun i σ H' => ∃ c3 c4 c5 ts, σ = [some (.ref x), some (.str t), some (.ref r0), c3, c4, c5] ∧ Same H H' ∧ H' p = some (.lst (sV (lnsOf t))) ∧ H' r0 = some (.lst (ts.map V.ref)) ∧ Paired (fun t ws => H' t = some (.tup (sV ws))) ts (((lnsOf t).take i).map wdsOf) ∧ ∀ (j : Nat) l', j < i → (lnsOf t)[j]? = some l' → evB b.deeds (wdsOf l') = true)
          ⟨none, none, none, [], rfl, m0.trans m1, hp1, m1 _ _ hr1, .nil, fun j l' hj => absurd hj (Nat.not_lt_zero _)⟩ (fun i σ H' _ ⟨_, _, _, _, _, _, h, _⟩ => SqL.of h) ?_ ?_⟩
        · rintro i y σ H1 H2 hi ⟨c3, c4, c5, ts, rfl, m, hp2, hr2', pr, ok⟩ ⟨T1, y1, y2, rfl, nT, rfl, e1, e2⟩
          obtain rfl := Option.some.inj e1
          obtain ⟨l, hl, rfl⟩ : ∃ l, (lnsOf t)[i]? = some l ∧ y2 = .str l := by
            have e2 : (sV (lnsOf t))[i]? = some y2 := e2
            rw [List.getElem?_map] at e2
            cases e : (lnsOf t)[i]? with
            | none => rw [e] at e2; cases e2
            | some u => rw [e] at e2; exact ⟨u, rfl, (Option.some.inj e2).symm⟩
          have lt : l.length ≤ t.length := split_short nl1 (List.mem_of_getElem? hl)
          have s2 := same_new nT (o := .tup [.int (1 + (i : Nat)), .str l])
          refine ⟨T1, _, rfl, .inl (.inl upd_same), rfl, _, [.str l], rfl, _, [], rfl, rfl, ?_⟩
          generalize upd H1 T1 (.tup [.int (1 + (i : Nat)), .str l]) = H2 at *
          refine ⟨_, rfl, ⟨_, rfl⟩, l, " ", rfl, rfl, by decide +kernel, by rw [sizeLine_eq]; omega, fun p2 hp3 => ?_⟩
          have s3 := same_new hp3 (o := .lst ((wdsOf l).map V.str))
          refine ⟨p2, sV (wdsOf l), rfl, .inl ⟨SqL.of upd_same, fun t2 ht2 => ?_⟩⟩
          have s4 := same_new ht2 (o := .tup (sV (wdsOf l)))
          have mm := ((m.trans s2).trans s3).trans s4
          have s14 := (s2.trans s3).trans s4
          have ht3 : (upd (upd H2 p2 (.lst ((wdsOf l).map V.str))) t2 (.tup (sV (wdsOf l)))) t2 = some (.tup (sV (wdsOf l))) := upd_same
          generalize upd (upd H2 p2 (.lst ((wdsOf l).map V.str))) t2 (.tup (sV (wdsOf l))) = H3 at *
          refine ⟨_, rfl, _, rfl, x, b, t2, wdsOf l, rfl, hx.same mm, .inl (.inl ht3), fun z hz => by have := split_short sp1 hz; rw [sizeLine_eq]; omega, fun H4 m4 => ⟨_, rfl, ?_⟩⟩
          have mt := mm.trans m4
          cases c : evB b.deeds (wdsOf l) with
          | false =>
            have er : r = .inr (i + 1) := by
              cases rk with
              | nil h => exact absurd h h0
              | all _ h =>
                rw [h l (List.mem_of_getElem? hl)] at c
                cases c
              | @bad i' l' _ h1 h2 h3 =>
                have ii : i' = i := by
                  rcases Nat.lt_trichotomy i' i with z | z | z
                  · rw [ok i' l' z h1] at h2; cases h2
                  · exact z
                  · rw [h3 i l z hl] at c; cases c
                rw [ii]
            refine iteT ⟨_, rfl, by show 1 ≤ 1000; decide, fun a ha => ⟨a, .int (1 + (i : Nat)), rfl, upd_same, fun d hd hne => ⟨rfl, d, _, exH_at, exH_dict hne, (upd_ne hne).symm.trans hd, ?_⟩⟩⟩
            rw [raised_heap ha hne]
            have := e _ er H4 d mt ((upd_ne hne).symm.trans hd)
            rw [show (((i + 1 : Nat) : Int)) = 1 + (i : Int) by omega] at this
            exact this
          | true =>
            have hr4 := m4 _ _ (s14 _ _ hr2')
            have lts : ts.length ≤ 12002 := by
              have := pr.length
              rw [List.length_map, List.length_take] at this
              omega
            refine iteF ⟨_, rfl, .inl ⟨rfl, _, SqL.of hr4⟩, _, rfl, r0, _, _, rfl, rfl, hr4, by rw [List.length_map, sizeLine_eq]; omega, ?_⟩
            have kp : ∀ a us, H4 a = some (.tup us) → (upd H4 r0 (.lst (ts.map V.ref ++ [.ref t2]))) a = some (.tup us) := fun a us h => (upd_ne fun z => by subst z; rw [hr4] at h; cases h).trans h
            refine ⟨_, _, _, ts ++ [t2], rfl, same_wr mt hr0, (upd_ne npr.symm).trans (m4 _ _ (s14 _ _ hp2)), by rw [upd_same, List.map_append]; rfl, ?_, fun j l' hj hl' => ?_⟩
            · rw [List.take_succ, hl, List.map_append]
              exact (pr.mono fun _ _ h => kp _ _ (m4 _ _ (s14 _ _ h))).snoc (kp _ _ (m4 _ _ ht3))
            · by_cases z : j = i
              · subst z
                rw [hl] at hl'
                obtain rfl := Option.some.inj hl'
                exact c
              · exact ok j l' (by omega) hl'
        · rintro σ H1 ⟨c3, c4, c5, ts, rfl, m, hp2, hr2', pr, ok⟩
          have ea : r = .inl ((lnsOf t).map wdsOf) := by
            cases rk with
            | nil h => exact absurd h h0
            | all => rfl
            | @bad i' l' _ h1 h2 h3 =>
              rw [ok i' l' (by rw [List.length_map]; exact (List.getElem?_eq_some_iff.mp h1).1) h1] at h2
              cases h2
          rw [List.length_map, List.take_length] at pr
          exact ⟨_, rfl, q _ ea H1 r0 m hr0 ⟨ts, hr2', pr⟩⟩
end
end Bs
set_option Elab.async false
set_option linter.all false
set_option maxRecDepth 100000
set_option maxHeartbeats 4000000
namespace L2
namespace Pl
open PySem PySem.Spec PyProof.Rows
/-- xs == [], xs any list -/
theorem op_eq_nil {X : Cx} (hu : X.A.units < cLine) : OpR X (compareOp .Eq) (fun x y H Q => ∃ l b xs, x = .ref l ∧ y = .ref b ∧ SqL X.K H l xs ∧ SqL X.K H b [] ∧ Q (.bl xs.isEmpty) H) := by
  intro pins s σ H x y v u Q I rx ry h
  obtain ⟨l, b, xs, rfl, rfl, hx, hb, q⟩ := h
  cases rx
  cases ry
  obtain ⟨its, r1, p1, z1⟩ := I.list hx
  obtain ⟨its2, r2, p2, z2⟩ := I.list hb
  have l1 := r1.length
  have l2 := r2.length
  have s1 : its.toArray.size = xs.length := by rw [List.size_toArray, l1]
  have s2 : its2.toArray.size = 0 := by
    rw [List.size_toArray, ← l2]
    rfl
  by_cases h0 : xs = []
  · subst h0
    have z : its.toArray.size = 0 := s1
    refine SeqAt.RcAt.lists (e := fun _ => true) p1.isList p2.isList (by rw [z, s2]) hu (fun j h1 _ => ?_) _ _ _ _ ⟨.bl true, H, I, ?_, q⟩
    · rw [z] at h1
      exact absurd h1 (Nat.not_lt_zero _)
    · rw [z]
      rfl
  · refine SeqAt.RcAt.lists_lengths p1.isList p2.isList ?_ hu _ _ _ _ ⟨.bl xs.isEmpty, H, I, ?_, q⟩
    · rw [s1, s2]
      have : xs.length ≠ 0 := fun e => h0 (List.length_eq_zero_iff.mp e)
      simp [this]
    · cases xs with
      | nil => exact absurd rfl h0
      | cons _ _ => rfl
theorem iteNF {c A B : Prop} [Decidable c] (hc : ¬ c) (h : A) : if (!decide c) = true then A else B := by
  rw [decide_eq_false hc]
  exact iteT h
def rLeS : R2 := fun x y H Q => ∃ i j, x = .str i ∧ y = .str j ∧ Q (.bl (!decide (j.cps.toList < i.cps.toList))) H
def lowC (c : Nat) : Bool := decide (97 ≤ c) && decide (c ≤ 122)
theorem lt_one {a b : Nat} : ([a] < [b]) ↔ a < b := by
  constructor
  · intro h
    cases h with
    | rel h => exact h
    | cons h => cases h
  · exact fun h => List.Lex.rel h
theorem le_a (c : Nat) : (!decide ((⟨#[c]⟩ : Str).cps.toList < ("a" : Str).cps.toList)) = decide (97 ≤ c) := by
  have e : ("a" : Str).cps.toList = [97] := by decide +kernel
  rw [e]
  show (!decide ([c] < [97])) = _
  have : ([c] < [97]) ↔ c < 97 := lt_one
  rw [Bool.eq_iff_iff, Bool.not_eq_true', decide_eq_false_iff_not, decide_eq_true_iff, this]
  omega
theorem le_z (c : Nat) : (!decide (("z" : Str).cps.toList < (⟨#[c]⟩ : Str).cps.toList)) = decide (c ≤ 122) := by
  have e : ("z" : Str).cps.toList = [122] := by decide +kernel
  rw [e]
  show (!decide ([122] < [c])) = _
  have : ([122] < [c]) ↔ 122 < c := lt_one
  rw [Bool.eq_iff_iff, Bool.not_eq_true', decide_eq_false_iff_not, decide_eq_true_iff, this]
  omega
def spIsEv (K : PySem.W.Frag) : Sp := fun vs H Q _ => ∃ a b p ws, vs = [.ref a, .ref p] ∧ BdAt K H a b ∧ b.Ok ∧ SqL K H p (sV ws) ∧ (∀ w ∈ ws, w.length ≤ sizeLine) ∧ ∀ H', Same H H' → Q (.bl (evB (b.deeds.map (·.1)) ws)) H'
end Pl
end L2
namespace Bs
open PySem PySem.Spec PyProof.Rows L2 L2.Pl
section
variable {P : Program} {w : World} {K : PySem.W.Frag} {mg : Str → Option Value} {base : Heap} {f : Addr} {fd : FuncData}
abbrev NEv : List Str := ["base", "words", "sign"]
theorem scIsEv : FnScope NEv ["base", "words"] (defScope sIsEv) := ⟨rfl, rfl, rfl, by decide +kernel, rfl, by decide +kernel, by decide +kernel⟩
theorem ok_isEv (G : Gn mg) (F : FnP K "_law_is_event" sIsEv f fd) (hD : Has P w K mg base CX0 "_law_deeds" 1 ["base"] (spDeeds K)) : FnOk P w K mg base CX0 2 f fd ["base", "words"] (spIsEv K) := by
  obtain ⟨fD, dD, oD, bD, gD, kD⟩ := hD.ex
  refine F.ok scIsEv (fun vs H Q E h => ?_) (fun cdv A outer s H vs Q E hr h => ?_)
  · obtain ⟨_, _, _, _, rfl, _⟩ := h
    rfl
  · obtain ⟨a, b, p, ws, rfl, hb, ok, hp, hw, q⟩ := h
    refine ⟨_, PSs.nox (pss_cons (ps_if (pt_cmpR op_eq (pe_callB call_len_seq (by rfl) G.len bLen (pa_cons (pv 1) pa_nil)) pe_int (nomark _))
        (pss_one (ps_ret (pe_and (pe_cmpR op_in_seq (pe_ix ix_list (pv 1) pe_int (fun _ _ => rfl)) (pe_tup (pa_cons pe_str (pa_cons pe_str pa_nil))) (by with_unfolding_all rfl)) (pe_one (pe_cmpR op_in_seq (pe_ix ix_list (pv 1) pe_int (fun _ _ => rfl)) (pe_tup (pa_cons pe_str (pa_cons pe_str (pa_cons pe_str pa_nil)))) (by with_unfolding_all rfl)))))) pss_nil)
      (pss_cons (ps_if (PW.pt (pw_or (pt_cmpR op_ne (pe_callB call_len_seq (by rfl) G.len bLen (pa_cons (pv 1) pa_nil)) pe_int (nomark _)) (pw_or (pt_cmpR op_ne (pe_ix ix_list (pv 1) pe_int (fun _ _ => rfl)) pe_str (nomark _)) (pw_or1 (pt_not (pt_chain op_le op_le pe_int (pe_callB call_len (by rfl) G.len bLen (pa_cons (pe_ix ix_list (pv 1) pe_int (fun _ _ => rfl)) pa_nil)) pe_int))))))
        (pss_one (ps_ret pe_bl)) pss_nil)
      (pss_one (ps_ret (pe_and (pe_cmpR (op_eq_nil (Nat.lt_of_le_of_lt (Nat.le_add_right _ 64) hr.units)) (pe_lc (own := [("sign", 2)]) (g := gName 2) (tt := tNot (tTest (tChain rLeS rLeS (tC (.str "a")) (tVar 2) (tC (.str "z"))))) (te := tVar 2) rfl scIsEv.nd (pi_str (pe_ix ix_list (pv 1) pe_int (fun _ _ => rfl))) (blkOk_by (N := NEv) (sc := defScope sIsEv) (by decide +kernel)) (fun _ _ _ _ _ => pg_name (i := 2) scIsEv.nd rfl (.inl rfl))
            (fun _ _ _ _ _ => pts_one (pt_not (pt_chain op_le_str op_le_str pe_str (pv 2) pe_str))) (fun _ _ _ _ _ => pv 2)) (pe_lst pa_nil) (by rfl))
          (pe_one (pe_cmpR op_in_seq (pe_ix ix_list (pv 1) pe_int (fun _ _ => rfl)) (pe_call oD hr (by rfl) gD kD bD .nil pass0 (pa_cons (pv 0) pa_nil)) (by with_unfolding_all rfl)))))))), ?_⟩
    refine ⟨_, rfl, p, sV ws, rfl, .inl hp, rfl, _, rfl, ?_⟩
    rw [intVD]
    by_cases h2 : ws.length = 2
    · match ws, h2, hw, hp, q with
      | [w1, h], _, hw, hp, q =>
        refine iteDT rfl ⟨_, rfl, p, _, 0, .str w1, rfl, rfl, hp, atI_nat (j := 0) rfl, by show 2 ≤ sizeLine; decide, fun t2 h2 => ⟨t2, sV ["work", "replay"], rfl, .inr (.inl (.inl upd_same)), rfl, flat_strsO _, ?_⟩⟩
        rw [if_neg Bool.false_ne_true, inV_strs]
        have m1 := same_new h2 (o := .tup [.str "work", .str "replay"])
        generalize upd H t2 (.tup [.str "work", .str "replay"]) = H1 at *
        refine ⟨_, rfl, ?_⟩
        by_cases c1 : w1 ∈ (["work", "replay"] : List Str)
        · have e1 : evB (b.deeds.map (·.1)) [w1, h] = decide (h ∈ how3) := by
            show (decide (w1 ∈ (["work", "replay"] : List Str)) && _) = _
            rw [decide_eq_true c1, Bool.true_and]
          rw [e1] at q
          refine iteDT c1 ⟨_, rfl, p, _, 1, .str h, rfl, rfl, m1.seq hp, atI_nat (j := 1) rfl, by show 3 ≤ sizeLine; decide, fun t3 h3 => ⟨t3, sV how3, rfl, .inr (.inl (.inl upd_same)), rfl, flat_strsO _, ?_⟩⟩
          rw [if_neg Bool.false_ne_true, inV_strs]
          exact q _ (m1.trans (same_new h3))
        · have e1 : evB (b.deeds.map (·.1)) [w1, h] = false := by
            show (decide (w1 ∈ (["work", "replay"] : List Str)) && _) = _
            rw [decide_eq_false c1, Bool.false_and]
          rw [e1] at q
          exact iteDF c1 (q _ m1)
    · refine iteDF (by show ¬ (((List.length (sV ws) : Nat) : Int) = 2); rw [List.length_map]; omega) ?_
      refine ⟨_, rfl, p, sV ws, rfl, .inl hp, rfl, _, rfl, ?_⟩
      by_cases h3 : ws.length = 3
      · match ws, h3, hw, hp, q with
        | [w1, k, d], _, hw, hp, q =>
          refine iteNS rfl ⟨_, rfl, p, _, 0, .str w1, rfl, rfl, hp, atI_nat (j := 0) rfl, rfl, _, rfl, ?_⟩
          by_cases c1 : w1 = "send"
          · have e1 : evB (b.deeds.map (·.1)) [w1, k, d] = (isNameB k && decide (d ∈ b.deeds.map (·.1))) := by
              show (decide (w1 = "send") && _) = _
              rw [decide_eq_true c1, Bool.true_and]
            rw [e1] at q
            have hk := hw k (by simp)
            refine iteNS (congrArg V.str c1) ⟨_, rfl, p, _, 1, .str k, rfl, rfl, hp, atI_nat (j := 1) rfl, _, k.length, rfl, ⟨hk, rfl⟩, _, _, rfl, rfl, _, rfl, ?_⟩
            have hn : isNameB k = (decide (1 ≤ k.length) && (decide (k.length ≤ 8) && k.cps.toList.all lowC)) := rfl
            by_cases l1 : 1 ≤ k.length
            · rw [show decide ((1 : Int) ≤ ((k.length : Nat) : Int)) = true from decide_eq_true (by omega)]
              refine iteT ⟨_, _, rfl, rfl, _, rfl, ?_⟩
              by_cases l8 : k.length ≤ 8
              · rw [show decide (((k.length : Nat) : Int) ≤ (8 : Int)) = true from decide_eq_true (by omega)]
                rw [hn, decide_eq_true l1, decide_eq_true l8, Bool.true_and, Bool.true_and] at q
                refine iteF ?_
                refine ⟨_, rfl, p, _, 1, .str k, rfl, rfl, hp, atI_nat (j := 1) rfl, k, rfl, fun D hD => ?_⟩
                have tk1 : ∀ (i c : Nat), k.cps[i]? = some c → (k.cps.toList.take (i + 1)).all lowC = ((k.cps.toList.take i).all lowC && lowC c) := fun i c hc => by
                  rw [List.take_succ, Array.getElem?_toList, hc, List.all_append]
                  simp
                refine lc_it walk_str (fun i H2 => Same H H2 ∧ ∃ ys : List V, H2 D = some (.lst ys) ∧ ys.length ≤ i ∧ ys.isEmpty = (k.cps.toList.take i).all lowC) ⟨same_new hD, [], upd_same, Nat.le_refl _, rfl⟩ (fun _ _ _ _ => trivial) (fun i x H2 H3 hi ⟨m2, ys, hy, ly, ey⟩ hx => ?_) (fun H2 ⟨m2, ys, hy, ly, ey⟩ => ?_)
                · obtain ⟨rfl, c, hc, rfl⟩ := hx
                  have out : lowC c = false → ∃ acc, H3 D = some (.lst acc) ∧ acc.length < sizeLine ∧ Same H (upd H3 D (.lst (acc ++ [.str ⟨#[c]⟩]))) ∧ ∃ ys : List V, (upd H3 D (.lst (acc ++ [.str ⟨#[c]⟩]))) D = some (.lst ys) ∧ ys.length ≤ i + 1 ∧ ys.isEmpty = (k.cps.toList.take (i + 1)).all lowC := fun hl =>
                    ⟨ys, hy, by rw [sizeLine_eq]; have : k.cps.size ≤ 8 := l8; omega, same_wr m2 hD, ys ++ [.str ⟨#[c]⟩], upd_same, by rw [List.length_append]; exact Nat.succ_le_succ ly, by rw [tk1 i c hc, hl, Bool.and_false]; simp⟩
                  refine ⟨rfl, _, rfl, _, _, rfl, rfl, _, rfl, ?_⟩
                  rw [le_a]
                  cases c1 : decide (97 ≤ c) with
                  | false => exact iteF ⟨_, rfl, iteT ⟨_, rfl, out (by unfold lowC; rw [c1]; rfl)⟩⟩
                  | true =>
                    refine iteT ⟨_, _, rfl, rfl, _, rfl, ?_⟩
                    rw [le_z]
                    cases c2 : decide (c ≤ 122) with
                    | false => exact iteT ⟨_, rfl, out (by unfold lowC; rw [c1, c2]; rfl)⟩
                    | true =>
                      refine iteF ⟨m2, ys, hy, Nat.le_succ_of_le ly, ?_⟩
                      rw [tk1 i c hc, ey]
                      unfold lowC
                      rw [c1, c2]
                      simp
                · rw [List.take_of_length_le (by rw [Array.length_toList]; exact Nat.le_refl _)] at ey
                  refine ⟨by show 0 ≤ sizeLine; decide, fun e0 he0 => ⟨D, e0, ys, rfl, rfl, SqL.of (same_new he0 _ _ hy), SqL.of upd_same, _, rfl, ?_⟩⟩
                  have m3 := m2.trans (same_new he0 (o := .lst []))
                  rw [ey]
                  cases ca : k.cps.toList.all lowC with
                  | false =>
                    rw [ca, Bool.false_and] at q
                    exact iteF (q _ m3)
                  | true =>
                    rw [ca, Bool.true_and] at q
                    refine iteT ⟨_, rfl, p, _, 2, .str d, rfl, rfl, m3.seq hp, atI_nat (j := 2) rfl, _, rfl, a, b, rfl, hb.same m3, ok, fun H4 p4 m4 n4 h4 => ⟨p4, _, rfl, .inl (SqL.of h4), rfl, flat_strsO _, ?_⟩⟩
                    rw [if_neg Bool.false_ne_true, inV_strs]
                    exact q _ (m3.trans m4)
              · rw [show decide (((k.length : Nat) : Int) ≤ (8 : Int)) = false from decide_eq_false (by omega)]
                rw [hn, decide_eq_false l8, Bool.false_and, Bool.and_false, Bool.false_and] at q
                exact iteT (q _ (Same.refl H))
            · rw [show decide ((1 : Int) ≤ ((k.length : Nat) : Int)) = false from decide_eq_false (by omega)]
              rw [hn, decide_eq_false l1, Bool.false_and, Bool.false_and] at q
              exact iteF ⟨_, rfl, iteT (q _ (Same.refl H))⟩
          · have e1 : evB (b.deeds.map (·.1)) [w1, k, d] = false := by
              show (decide (w1 = "send") && _) = _
              rw [decide_eq_false c1, Bool.false_and]
            rw [e1] at q
            exact iteNF (fun z => c1 (V.str.inj z)) (q _ (Same.refl H))
      · refine iteNF (fun z => by injection z with z; rw [List.length_map] at z; omega) ?_
        have e1 : evB (b.deeds.map (·.1)) ws = false := by
          match ws, h3, h2 with
          | [], _, _ => rfl
          | [_], _, _ => rfl
          | [_, _], _, h => exact absurd rfl h
          | [_, _, _], h, _ => exact absurd rfl h
          | _ :: _ :: _ :: _ :: _, _, _ => rfl
        rw [e1] at q
        exact q _ (Same.refl H)
end
end Bs
set_option Elab.async false
set_option linter.all false
set_option maxRecDepth 100000
set_option maxHeartbeats 4000000
namespace L2
namespace Pl
open PySem PySem.Spec PyProof.Rows
/-- a row, or a number in a tuple -/
def ResR (H : Hp) (p : Addr) : List (List Str) ⊕ Nat → Prop
  | .inl rows => RowAt H p rows
  | .inr n => H p = some (.tup [.int (n : Int)])
/-- the number of a value that is no text is 1 -/
def DueR (K : PySem.W.Frag) (H : Hp) (ds : List Str) (v : V) (r : List (List Str) ⊕ Nat) : Prop := (NotStr K H v ∧ r = .inr 1) ∨ ∃ t, v = .str t ∧ t.length ≤ 12000 ∧ RdK ds t r
/-- the tuples of words that a comprehension has made so far -/
def LnI (H5 : Hp) (D : Addr) (t : Str) (i : Nat) (H2 : Hp) : Prop := Same H5 H2 ∧ ∃ ts : List Addr, H2 D = some (.lst (ts.map V.ref)) ∧ Paired (fun t ws => H2 t = some (.tup (sV ws))) ts (((lnsOf t).take i).map wdsOf)
def spDueT (K : PySem.W.Frag) : Sp := fun vs H Q _ => ∃ a b v r, vs = [.ref a, v] ∧ BdAt K H a b ∧ b.Ok ∧ DueR K H (b.deeds.map (·.1)) v r ∧ ∀ H' p, Same H H' → H p = none → ResR H' p r → Q (.ref p) H'
end Pl
end L2
namespace Bs
open PySem PySem.Spec PyProof.Rows L2 L2.Pl
section
variable {P : Program} {w : World} {K : PySem.W.Frag} {mg : Str → Option Value} {base : Heap} {f : Addr} {fd : FuncData}
abbrev NDt : List Str := ["base", "text", "at", "line"]
theorem scDueT : FnScope NDt ["base", "text"] (defScope sDueT) := ⟨rfl, rfl, rfl, by decide +kernel, rfl, by decide +kernel, by decide +kernel⟩
theorem ok_dueT (G : Gn mg) (F : FnP K "_law_due" sDueT f fd) (hI : Has P w K mg base CX0 "_law_is_event" 2 ["base", "words"] (spIsEv K)) : FnOk P w K mg base CX0 3 f fd ["base", "text"] (spDueT K) := by
  obtain ⟨fE, dE, oE, bE, gE, kE⟩ := hI.ex
  refine F.ok scDueT (fun vs H Q E h => ?_) (fun cdv A outer s H vs Q E hr h => ?_)
  · obtain ⟨_, _, _, _, rfl, _⟩ := h
    rfl
  · obtain ⟨a, b, v, r, rfl, hb, ok0, hd, q⟩ := h
    refine ⟨_, PSs.nox (pss_cons (ps_if (pt_not (pt_val (pe_callB call_isi (by rfl) G.isi bIsi (pa_cons (pv 1) (pa_cons (pe_bltn (v := .ty "str") (by rfl) G.str bStr rfl) pa_nil))))) (pss_one (ps_ret (pe_tup (pa_cons pe_int pa_nil)))) pss_nil)
      (pss_cons (ps_if (pt_cmpR op_eq (pv 1) pe_str (nomark _)) (pss_one (ps_ret (pe_lst pa_nil))) pss_nil)
      (pss_cons (ps_for PassesOwn.never rfl (pi_enum (by rfl) G.enum (pa_cons (pe_split (pv 1) pe_str) pa_nil)) (pg_tup rfl (pgs_cons (pg_name (i := 2) scDueT.nd rfl (.inl rfl)) (pgs_cons (pg_name (i := 3) scDueT.nd rfl (.inl rfl)) pgs_nil)))
        (pss_one (ps_if (pt_not (pt_val (pe_call oE hr (by rfl) gE kE bE .nil pass0 (pa_cons (pv 0) (pa_cons (pe_split (pv 3) pe_str) pa_nil))))) (pss_one (ps_ret (pe_tup (pa_cons (pe_op op_add (pv 2) pe_int) pa_nil)))) pss_nil)))
      (pss_one (ps_ret (pe_lc (own := [("line", 3)]) (g := gName 3) (tt := tYes) (te := tCB (fun xs H Q => ∃ p ys, xs = [.ref p] ∧ ((SqL K H p ys ∧ ∀ t, H t = none → Q (.ref t) (upd H t (.tup ys))) ∨ (SqT K H p ys ∧ Q (.ref p) H))) (tCons (tM1 (fun x xs H Q => ∃ a b, x = .str a ∧ xs = [.str b] ∧ (b.length == 0) = false ∧ a.length + 2 ≤ sizeLine ∧ rNewStrs (Txt.split a b) H Q) (tVar 3) (tC (.str " "))) tNil)) rfl scDueT.nd (pi_list (pe_split (pv 1) pe_str)) (blkOk_by (N := NDt) (sc := defScope sDueT) (by decide +kernel)) (fun _ _ _ _ _ => pg_name (i := 3) scDueT.nd rfl (.inl rfl)) (fun _ _ _ _ _ => pts_nil)
        (fun _ _ _ _ _ => pe_callTy call_tuple_of (by rfl) G.tuple bTuple (pa_cons (pe_split (pv 3) pe_str) pa_nil)))))))), ?_⟩
    rcases hd with ⟨⟨t0, ty, kt⟩, er⟩ | ⟨t, rfl, ht, rk⟩
    · subst er
      refine ⟨_, rfl, v, .ty "str", _, _, false, rfl, .ty _, ty, kt, false, rfl, ?_⟩
      exact iteT ⟨by show 1 ≤ sizeLine; decide, fun p hp => q _ p (same_new hp) hp upd_same⟩
    · refine ⟨_, rfl, .str t, .ty "str", _, _, true, rfl, .ty _, tyS t, kitS, true, rfl, iteF ?_⟩
      refine ⟨_, rfl, rfl, _, rfl, ?_⟩
      rw [strVD]
      by_cases h0 : t = ""
      · have er : r = .inl [] := by
          cases rk with
          | nil => rfl
          | all h => exact absurd h0 h
          | bad h => exact absurd h0 h
        subst er
        exact iteDT h0 ⟨by show 0 ≤ sizeLine; decide, fun p hp => q _ p (same_new hp) hp ⟨[], upd_same, .nil⟩⟩
      · refine iteDF h0 ⟨_, rfl, ⟨_, rfl⟩, t, "\n", rfl, rfl, by decide +kernel, by rw [sizeLine_eq]; omega, fun p hp => ?_⟩
        have m1 := same_new hp (o := .lst ((lnsOf t).map V.str))
        have hp1 : (upd H p (.lst ((lnsOf t).map V.str))) p = some (.lst (sV (lnsOf t))) := upd_same
        have ll : (lnsOf t).length ≤ 12002 := by
          have := split_le t "\n"
          show (Txt.split t "\n").length ≤ 12002
          omega
        refine ⟨p, sV (lnsOf t), rfl, SqL.of hp1, for_it (walk_enum (K := K) (a := p) (xs := sV (lnsOf t))) (fun i σ H' => ∃ c2 c3, σ = [some (.ref a), some (.str t), c2, c3] ∧ Same H H' ∧ H' p = some (.lst (sV (lnsOf t))) ∧ ∀ (j : Nat) l', j < i → (lnsOf t)[j]? = some l' → evB (b.deeds.map (·.1)) (wdsOf l') = true)
          ⟨none, none, rfl, m1, hp1, fun j l' hj => absurd hj (Nat.not_lt_zero _)⟩ (fun i σ H' _ ⟨_, _, _, _, h, _⟩ => SqL.of h) ?_ ?_⟩
        · rintro i y σ H1 H2 hi ⟨c2, c3, rfl, m, hp2, ok⟩ ⟨T1, y1, y2, rfl, nT, rfl, e1, e2⟩
          obtain rfl := Option.some.inj e1
          obtain ⟨l, hl, rfl⟩ : ∃ l, (lnsOf t)[i]? = some l ∧ y2 = .str l := by
            have e2 : (sV (lnsOf t))[i]? = some y2 := e2
            rw [List.getElem?_map] at e2
            cases e : (lnsOf t)[i]? with
            | none => rw [e] at e2; cases e2
            | some u => rw [e] at e2; exact ⟨u, rfl, (Option.some.inj e2).symm⟩
          have lt : l.length ≤ t.length := split_short nl1 (List.mem_of_getElem? hl)
          have s2 := same_new nT (o := .tup [.int (i : Nat), .str l])
          refine ⟨T1, _, rfl, .inl (.inl upd_same), rfl, _, [.str l], rfl, _, [], rfl, rfl, ?_⟩
          generalize upd H1 T1 (.tup [.int (i : Nat), .str l]) = H2 at *
          refine ⟨_, rfl, _, rfl, ⟨_, rfl⟩, l, " ", rfl, rfl, by decide +kernel, by rw [sizeLine_eq]; omega, fun p2 hp3 => ?_⟩
          have s3 := same_new hp3 (o := .lst ((wdsOf l).map V.str))
          have mm := (m.trans s2).trans s3
          refine ⟨a, b, p2, wdsOf l, rfl, hb.same mm, ok0, SqL.of upd_same, fun z hz => by have := split_short sp1 hz; rw [sizeLine_eq]; omega, fun H4 m4 => ⟨_, rfl, ?_⟩⟩
          have mt := mm.trans m4
          cases c : evB (b.deeds.map (·.1)) (wdsOf l) with
          | false =>
            have er : r = .inr (i + 1) := by
              cases rk with
              | nil h => exact absurd h h0
              | all _ h =>
                rw [h l (List.mem_of_getElem? hl)] at c
                cases c
              | @bad i' l' _ h1 h2 h3 =>
                have ii : i' = i := by
                  rcases Nat.lt_trichotomy i' i with z | z | z
                  · rw [ok i' l' z h1] at h2; cases h2
                  · exact z
                  · rw [h3 i l z hl] at c; cases c
                rw [ii]
            subst er
            refine iteT ⟨_, rfl, _, _, rfl, rfl, by show 1 ≤ sizeLine; decide, fun p4 hp4 => q _ p4 (mt.trans (same_new hp4)) (mt.free hp4) ?_⟩
            show _ = some (HO.tup [.int ((i + 1 : Nat) : Int)])
            rw [upd_same]
            rfl
          | true =>
            refine iteF ⟨_, _, rfl, mt, m4 _ _ (s3 _ _ (s2 _ _ hp2)), fun j l' hj hl' => ?_⟩
            by_cases z : j = i
            · subst z
              rw [hl] at hl'
              obtain rfl := Option.some.inj hl'
              exact c
            · exact ok j l' (by omega) hl'
        · rintro σ H1 ⟨c2, c3, rfl, m, hp2, ok⟩
          have ea : r = .inl ((lnsOf t).map wdsOf) := by
            cases rk with
            | nil h => exact absurd h h0
            | all => rfl
            | @bad i' l' _ h1 h2 h3 =>
              rw [ok i' l' (by rw [List.length_map]; exact (List.getElem?_eq_some_iff.mp h1).1) h1] at h2
              cases h2
          subst ea
          refine ⟨_, rfl, ⟨_, rfl⟩, t, "\n", rfl, rfl, by decide +kernel, by rw [sizeLine_eq]; omega, fun p5 hp5 => ?_⟩
          have m5 := m.trans (same_new hp5 (o := .lst ((lnsOf t).map V.str)))
          have hp6 : (upd H1 p5 (.lst ((lnsOf t).map V.str))) p5 = some (.lst (sV (lnsOf t))) := upd_same
          generalize upd H1 p5 (.lst ((lnsOf t).map V.str)) = H5 at *
          refine ⟨p5, rfl, ⟨_, SqL.of hp6⟩, fun D hD => ?_⟩
          refine lc_it (walk_list (K := K) (a := p5) (xs := sV (lnsOf t))) (LnI H5 D t) ⟨same_new hD, [], upd_same, .nil⟩ (fun i H2 _ ⟨m6, _⟩ => SqL.of (m6 _ _ hp6)) (fun i y H2 H3 hi ⟨m6, ts, hy, pr⟩ hx => ?_) (fun H2 ⟨m6, ts, hy, pr⟩ => ?_)
          · obtain ⟨rfl, e2⟩ := hx
            obtain ⟨l, hl, rfl⟩ : ∃ l, (lnsOf t)[i]? = some l ∧ y = .str l := by
              rw [List.getElem?_map] at e2
              cases e : (lnsOf t)[i]? with
              | none => rw [e] at e2; cases e2
              | some u => rw [e] at e2; exact ⟨u, rfl, (Option.some.inj e2).symm⟩
            have lt : l.length ≤ t.length := split_short nl1 (List.mem_of_getElem? hl)
            refine ⟨rfl, iteT (B := LnI H5 D t (i + 1) H3) ?_⟩
            refine ⟨_, rfl, ⟨_, rfl⟩, l, " ", rfl, rfl, by decide +kernel, by rw [sizeLine_eq]; omega, fun p2 hp3 => ⟨p2, sV (wdsOf l), rfl, .inl ⟨SqL.of upd_same, fun t2 ht2 => ?_⟩⟩⟩
            have s3 := same_new hp3 (o := .lst ((wdsOf l).map V.str))
            have s4 := same_new ht2 (o := .tup (sV (wdsOf l)))
            have s34 := s3.trans s4
            have ht3 : (upd (upd H3 p2 (.lst ((wdsOf l).map V.str))) t2 (.tup (sV (wdsOf l)))) t2 = some (.tup (sV (wdsOf l))) := upd_same
            generalize upd (upd H3 p2 (.lst ((wdsOf l).map V.str))) t2 (.tup (sV (wdsOf l))) = H4 at *
            have hy4 := s34 _ _ hy
            have lts : ts.length ≤ 12002 := by
              have := pr.length
              rw [List.length_map, List.length_take] at this
              omega
            have kp : ∀ a us, H4 a = some (.tup us) → (upd H4 D (.lst (ts.map V.ref ++ [.ref t2]))) a = some (.tup us) := fun a us h => (upd_ne fun z => by subst z; rw [hy4] at h; cases h).trans h
            refine ⟨_, hy4, by rw [List.length_map, sizeLine_eq]; omega, same_wr (m6.trans s34) hD, ts ++ [t2], by rw [upd_same, List.map_append]; rfl, ?_⟩
            rw [List.take_succ, hl, List.map_append]
            exact (pr.mono fun _ _ h => kp _ _ (s34 _ _ h)).snoc (kp _ _ ht3)
          · rw [List.length_map, List.take_length] at pr
            exact q H2 D (m5.trans m6) (m5.free hD) ⟨ts, hy, pr⟩
end
end Bs
set_option Elab.async false
set_option linter.all false
set_option maxRecDepth 100000
set_option maxHeartbeats 4000000
namespace L2
namespace Pl
open PySem PySem.Spec PyProof.Rows
def spToldR (K : PySem.W.Frag) (C : Addr) : Sp := fun vs H Q _ => ∃ x b v r, vs = [.ref x, v] ∧ StAt C H x b ∧ DueR K H b.deeds v r ∧ ∀ H' p, Same H H' → H p = none → ResR H' p r → Q (.ref p) H'
end Pl
end L2
namespace Bs
open PySem PySem.Spec PyProof.Rows L2 L2.Pl
section
variable {P : Program} {w : World} {K : PySem.W.Frag} {mg : Str → Option Value} {base : Heap} {f : Addr} {fd : FuncData}
theorem scToldR : FnScope ["store", "text", "error"] ["store", "text"] (defScope sToldT) := ⟨rfl, rfl, rfl, by decide +kernel, rfl, by decide +kernel, by decide +kernel⟩
def tsToldR (CB : Addr) : Addr → Value → Option Addr → TS := fun a cls d => tRet (tTup (tCons (tXf a cls d CB "line" (tVar 2)) tNil))
theorem ok_toldR {C CB : Addr} (N : RaF P w K mg base "BadText" "line" CB) (ex : PySem.W.exmOne K (.ref CB) (.ref CB) = some true) (F : FnP K "_law_told" sToldT f fd) (hR : Has P w K mg base (L2.CX P w) "read_row" 4 ["store", "text"] (spReadRow K C CB)) : FnOk P w K mg base CX0 5 f fd ["store", "text"] (spToldR K C) := by
  obtain ⟨fR, dR, oR, bR, gR, kR⟩ := hR.ex
  refine F.ok scToldR (fun vs H Q E h => ?_) (fun cdv A outer s H vs Q E hr h => ?_)
  · obtain ⟨_, _, _, _, rfl, _⟩ := h
    rfl
  · obtain ⟨x, b, v, r, rfl, hx, hd, q⟩ := h
    refine ⟨_, pss_one (ps_try_as (i := 2) (tb := fun W => tRet (tCallS (spReadRow K C CB) (WE W) (tCons (tVar 0) (tCons (tVar 1) tNil)))) (ts := tsToldR CB) (Wout := fun _ _ _ _ => False) rfl rfl scToldR.nd rfl rfl ⟨rfl, by decide, .inl N.g⟩ LamX.takes0
      (fun W pn xe tk _ => pss_one (ps_ret (pe_callS oR hr rfl gR kR bR (fun σ => passAt tk σ) (by exact pa_cons (pv 0) (pa_cons (pv 1) pa_nil)))))
      (fun a oe cls d pn hz hf => pss_one (ps_ret (pe_tup (pa_cons (pe_xf N.xf N.nf hz hf (pv 2)) pa_nil))))), ?_⟩
    have suite : ∀ {H1 : Hp} {d : Addr} (n : Nat), r = .inr n → Same H H1 → H1 d = none → wAs K (.ref CB) 2 (tsToldR CB) (fun _ _ _ _ => False) { nx := fun _ H' => Q .non H', rt := Q } (.ref CB) (some d) (L2.start ["store", "text", "error"] [.ref x, v]) (upd H1 d (.xd [("line", .int (n : Int))])) := by
      intro H1 d n er m hd
      refine ⟨true, ex, fun _ a ha => ⟨_, rfl, rfl, rfl, d, _, .int (n : Int), rfl, upd_same, by with_unfolding_all rfl, by show 1 ≤ sizeLine; decide, fun p hp => ?_⟩, fun h => Bool.noConfusion h⟩
      have m1 := m.trans (same_new hd (o := .xd [("line", .int (n : Int))]))
      subst er
      exact q _ p (m1.trans (same_new hp)) (m1.free hp) upd_same
    refine ⟨_, rfl, _, rfl, x, b, v, rfl, hx, ?_⟩
    rcases hd with ⟨nt, er⟩ | ⟨t, rfl, ht, rk⟩
    · exact .inl ⟨nt, fun H1 d m hd => suite 1 er m hd⟩
    · refine .inr ⟨t, r, rfl, ht, rk, fun rows er H1 p m hp hr => ?_, fun n er H1 d m hd => suite n er m hd⟩
      subst er
      exact q _ p m hp hr
end
end Bs
set_option Elab.async false
set_option linter.all false
set_option maxRecDepth 100000
set_option maxHeartbeats 4000000
namespace L2
namespace Pl
open PySem PySem.Spec PyProof.Rows
/-- plain signs -/
def AscS (x : Str) : Prop := ∀ c ∈ x.cps.toList, c < 128
structure EvD (ws : List Str) : Prop where
  sm : EvS ws
  asc : ∀ w ∈ ws, AscS w
theorem IsName.asc {w : Str} (h : IsName w) : AscS w := fun c hc => by
  have := (h.low c hc).2
  omega
theorem asc_dec {x : Str} (h : x.cps.toList.all (fun c => decide (c < 128)) = true) : AscS x := fun c hc => of_decide_eq_true (List.all_eq_true.mp h c hc)
theorem AscS.app {x y : Str} (h : AscS x) (g : AscS y) : AscS (x ++ y) := fun c hc => by
  have e : (x ++ y).cps.toList = x.cps.toList ++ y.cps.toList := by simp [Str.cps_append]
  rw [e] at hc
  exact (List.mem_append.mp hc).elim (h c) (g c)
theorem cps_app {x y : Str} {c : Nat} : c ∈ (x ++ y).cps.toList ↔ c ∈ x.cps.toList ∨ c ∈ y.cps.toList := by
  have e : (x ++ y).cps.toList = x.cps.toList ++ y.cps.toList := by simp [Str.cps_append]
  rw [e, List.mem_append]
theorem asc_joinS {sep : Str} (hs : AscS sep) : ∀ {ys : List Str}, (∀ y ∈ ys, AscS y) → AscS (Str.join sep ys)
  | [], _ => fun c hc => by
    have : c ∈ ([] : List Nat) := hc
    cases this
  | [x], h => h x (List.mem_cons_self ..)
  | x :: y :: r, h => by
    show AscS (x ++ sep ++ Str.join sep (y :: r))
    exact ((h x (List.mem_cons_self ..)).app hs).app (asc_joinS hs fun z hz => h z (List.mem_cons_of_mem _ hz))
theorem asc_join {sep : Str} (hs : AscS sep) {ys : List Str} (h : ∀ y ∈ ys, AscS y) : AscS (Txt.join sep ys) := by
  have e : Txt.join sep ys = Str.join sep ys := StrLaws.glued_eq_join sep ys
  rw [e]
  exact asc_joinS hs h
theorem mem_joinS {sep : Str} {c : Nat} : ∀ {ys : List Str} {z : Str}, z ∈ ys → c ∈ z.cps.toList → c ∈ (Str.join sep ys).cps.toList
  | [x], z, hz, hc => by
    rw [List.mem_singleton.mp hz] at hc
    exact hc
  | x :: y :: r, z, hz, hc => by
    show c ∈ (x ++ sep ++ Str.join sep (y :: r)).cps.toList
    rw [cps_app, cps_app]
    rcases List.mem_cons.mp hz with rfl | hz
    · exact .inl (.inl hc)
    · exact .inr (mem_joinS hz hc)
theorem asc_split {x y z : Str} (h : AscS x) (hz : z ∈ Txt.split x y) : AscS z := fun c hc => by
  have := mem_joinS (sep := y) hz hc
  rw [StrLaws.join_split] at this
  exact h c this
theorem nl_asc : AscS "\n" := asc_dec (by decide +kernel)
theorem sp_asc : AscS " " := asc_dec (by decide +kernel)
theorem text_asc {evs : List (List Str)} (h : ∀ ws ∈ evs, EvD ws) : AscS (textOf evs) := asc_join nl_asc fun y hy => by
  obtain ⟨ws, hw, rfl⟩ := List.mem_map.mp hy
  exact asc_join sp_asc (h ws hw).asc
/-- tuples of words -/
def RowsD (H : Hp) (s : Addr) (ts : List Addr) (evs : List (List Str)) : Prop := Paired (fun t ws => (del H s) t = some (.tup (sV ws))) ts evs
def spDrawnR (K : PySem.W.Frag) : Sp := fun vs H Q _ => ∃ s a b, vs = [.ref s, .ref a] ∧ Src H s ∧ BdAt K (del H s) a b ∧ b.Ok ∧ ∀ H' p ts evs, Mv s H H' → H p = none → p ≠ s → H' p = some (.lst (ts.map V.ref)) → RowsD H' s ts evs → (∀ ws ∈ evs, EvD ws) → evs.length ≤ 7 → Q (.ref p) H'
theorem RowsD.mv {H H' : Hp} {s : Addr} {ts : List Addr} {evs : List (List Str)} (h : RowsD H s ts evs) (m : Mv s H H') : RowsD H' s ts evs := h.mono fun _ _ q => m.same _ _ q
theorem words_ok : ∀ w ∈ (["send", "work", "replay", "done", "stops", "fails", "k", "abcdefgh"] : List Str), w.length ≤ 8 ∧ AscS w := by
  intro w hw
  have h : (["send", "work", "replay", "done", "stops", "fails", "k", "abcdefgh"] : List Str).all (fun w => decide (w.length ≤ 8) && w.cps.toList.all (fun c => decide (c < 128))) = true := by decide +kernel
  have := List.all_eq_true.mp h w hw
  rw [Bool.and_eq_true, decide_eq_true_iff] at this
  exact ⟨this.1, asc_dec this.2⟩
theorem evD2 {a c : Str} (h1 : a.length ≤ 8 ∧ AscS a) (h2 : c.length ≤ 8 ∧ AscS c) : EvD [a, c] :=
  ⟨⟨by show 2 ≤ 3; decide, fun w hw => by
    rcases List.mem_cons.mp hw with rfl | hw
    · exact h1.1
    · rw [List.mem_singleton.mp hw]; exact h2.1⟩, fun w hw => by
    rcases List.mem_cons.mp hw with rfl | hw
    · exact h1.2
    · rw [List.mem_singleton.mp hw]; exact h2.2⟩
theorem evD3 {a c d : Str} (h1 : a.length ≤ 8 ∧ AscS a) (h2 : c.length ≤ 8 ∧ AscS c) (h3 : d.length ≤ 8 ∧ AscS d) : EvD [a, c, d] :=
  ⟨⟨by show 3 ≤ 3; decide, fun w hw => by
    rcases List.mem_cons.mp hw with rfl | hw
    · exact h1.1
    · exact (evD2 h2 h3).sm.len w hw⟩, fun w hw => by
    rcases List.mem_cons.mp hw with rfl | hw
    · exact h1.2
    · exact (evD2 h2 h3).asc w hw⟩
theorem IsName.ok8 {w : Str} (h : IsName w) : w.length ≤ 8 ∧ AscS w := ⟨h.len, h.asc⟩
end Pl
end L2
namespace Bs
open PySem PySem.Spec PyProof.Rows L2 L2.Pl
section
variable {P : Program} {w : World} {K : PySem.W.Frag} {mg : Str → Option Value} {base : Heap} {f : Addr} {fd : FuncData}
abbrev NDr : List Str := ["source", "base", "found", "turn", "key", "some"]
theorem scDrawn : FnScope NDr ["source", "base"] (defScope sDrawn) := ⟨rfl, rfl, rfl, by decide +kernel, rfl, by decide +kernel, by decide +kernel⟩
theorem ok_drawnR (G : Gn mg) (F : FnP K "_law_drawn" sDrawn f fd) (hD : Has P w K mg base CX0 "_law_draw" 1 ["source", "span"] spDraw) (hP : Has P w K mg base CX0 "_law_pick" 2 ["source", "things"] (spPick K)) (hW : Has P w K mg base CX0 "_law_word" 3 ["source"] spWord) (hE : Has P w K mg base CX0 "_law_deeds" 1 ["base"] (spDeeds K)) : FnOk P w K mg base CX0 4 f fd ["source", "base"] (spDrawnR K) := by
  obtain ⟨fD, dD, oD, bD, gD, kD⟩ := hD.ex
  obtain ⟨fP, dP, oP, bP, gP, kP⟩ := hP.ex
  obtain ⟨fW, dW, oW, bW, gW, kW⟩ := hW.ex
  obtain ⟨fE, dE, oE, bE, gE, kE⟩ := hE.ex
  refine F.ok scDrawn (fun vs H Q E h => ?_) (fun cdv A outer s H vs Q E hr h => ?_)
  · obtain ⟨_, _, _, rfl, _⟩ := h
    rfl
  · obtain ⟨so, a, b, rfl, hS, hb, ok, q⟩ := h
    have hr1 := hr.mono (j := 1) (by decide)
    have hr2 := hr.mono (j := 2) (by decide)
    refine ⟨_, PSs.nox (pss_cons (ps_set (i := 2) scDrawn.nd rfl (.inl rfl) (pe_lst pa_nil))
      (pss_cons (ps_for PassesOwn.never rfl (pi_range1 (by rfl) G.range (pa_cons (pe_call oD hr1 (by rfl) gD kD bD .nil pass0 (pa_cons (pv 0) (pa_cons pe_int pa_nil))) pa_nil)) (pg_name (i := 3) scDrawn.nd rfl (.inl rfl))
      (pss_cons (ps_set (i := 4) scDrawn.nd rfl (.inl rfl) (pe_call oP hr2 (by rfl) gP kP bP .nil pass0 (pa_cons (pv 0) (pa_cons (pe_lst (pa_cons pe_str (pa_cons pe_str (pa_cons pe_str (pa_cons pe_str (pa_cons pe_str (pa_cons (pe_call oW hr (by rfl) gW kW bW .nil pass0 (pa_cons (pv 0) pa_nil)) pa_nil))))))) pa_nil))))
      (pss_cons (ps_set (i := 5) scDrawn.nd rfl (.inl rfl) (pe_op op_rep (pe_lst (pa_cons (pe_tup (pa_cons pe_str (pa_cons (pv 4) (pa_cons (pe_call oP hr2 (by rfl) gP kP bP .nil pass0 (pa_cons (pv 0) (pa_cons (pe_call oE hr1 (by rfl) gE kE bE .nil pass0 (pa_cons (pv 1) pa_nil)) pa_nil))) pa_nil)))) pa_nil)) pe_int))
      (pss_cons (ps_set (i := 5) scDrawn.nd rfl (.inl rfl) (pe_op op_cat (pv 5) (pe_lst (pa_cons (pe_tup (pa_cons pe_str (pa_cons (pe_call oP hr2 (by rfl) gP kP bP .nil pass0 (pa_cons (pv 0) (pa_cons (pe_lst (pa_cons pe_str (pa_cons pe_str (pa_cons pe_str pa_nil)))) pa_nil))) pa_nil))) pa_nil))))
      (pss_one (ps_expr (pe_bm PySem.F.plainAttrs_list PySem.F.slot_list_append PySem.F.type_list_append mt_append (pv 2) (pa_cons (pe_call oP hr2 (by rfl) gP kP bP .nil pass0 (pa_cons (pv 0) (pa_cons (pe_op op_cat (pv 5) (pe_lst (pa_cons (pe_tup (pa_cons pe_str (pa_cons (pe_call oP hr2 (by rfl) gP kP bP .nil pass0 (pa_cons (pv 0) (pa_cons (pe_lst (pa_cons pe_str (pa_cons pe_str (pa_cons pe_str pa_nil)))) pa_nil))) pa_nil))) pa_nil))) pa_nil))) pa_nil))))))))
      (pss_one (ps_ret (pv 2))))), ?_⟩
    refine ⟨by show 0 ≤ sizeLine; decide, fun p hp => ?_⟩
    have np := hS.ne hp
    have m0 := Mv.new (o := .lst []) hS hp
    refine ⟨_, rfl, so, 8, rfl, m0.src, by decide, by decide, fun H1 found m1 _ h0 h1 => ⟨found, rfl, by omega, by omega, ?_⟩⟩
    refine for_range (fun i σ H' => ∃ c3 c4 c5 ts evs, σ = [some (.ref so), some (.ref a), some (.ref p), c3, c4, c5] ∧ Mv so H H' ∧ H' p = some (.lst (ts.map V.ref)) ∧ RowsD H' so ts evs ∧ (∀ ws ∈ evs, EvD ws) ∧ evs.length = i) ⟨none, none, none, [], [], rfl, m0.trans m1, m1.get np upd_same, .nil, fun ws hw => (nomatch hw), rfl⟩ ?_ ?_
    · rintro i σ H2 hi ⟨c3, c4, c5, ts, evs, rfl, m, hp2, pr, ok2, le⟩
      -- the key
      refine ⟨_, rfl, _, rfl, so, rfl, m.src, fun H3 wd m3 hwd => ⟨by show 6 ≤ sizeLine; decide, fun l1 hl1 => ?_⟩⟩
      have s1 := m.trans m3
      have n1 := s1.src.ne hl1
      have m4 := s1.trans (.new (o := .lst [.str "k", .str "send", .str "work", .str "done", .str "abcdefgh", .str wd]) s1.src hl1)
      refine ⟨so, .ref l1, _, rfl, m4.src, .inl ⟨l1, rfl, SqL.of (del_of n1 upd_same)⟩, by simp, by show 6 < 1000000; decide, fun H5 key m5 _ hk => ?_⟩
      have s2 := m4.trans m5
      have q2 : Mv so H2 H5 := (m3.trans (.new (o := .lst [.str "k", .str "send", .str "work", .str "done", .str "abcdefgh", .str wd]) s1.src hl1)).trans m5
      clear m4 m5
      obtain ⟨kz, rfl, kok⟩ : ∃ kz, key = .str kz ∧ kz.length ≤ 8 ∧ AscS kz := by
        simp only [List.mem_cons, List.mem_nil_iff, or_false] at hk
        rcases hk with rfl | rfl | rfl | rfl | rfl | rfl
        · exact ⟨_, rfl, words_ok _ (by decide +kernel)⟩
        · exact ⟨_, rfl, words_ok _ (by decide +kernel)⟩
        · exact ⟨_, rfl, words_ok _ (by decide +kernel)⟩
        · exact ⟨_, rfl, words_ok _ (by decide +kernel)⟩
        · exact ⟨_, rfl, words_ok _ (by decide +kernel)⟩
        · exact ⟨_, rfl, hwd.ok8⟩
      -- the send
      refine ⟨_, rfl, _, rfl, _, rfl, a, b, rfl, (hb.same s2.same).same del_all, ok, fun H6 p6 m6 f6 h6 => ?_⟩
      have s3 := s2.trans (.of_same s2.src m6)
      have q3 := q2.trans (.of_same s2.src m6)
      have n6 := s2.src.ne f6
      have lD : (sV (b.deeds.map (·.1))).length = b.deeds.length := by rw [List.length_map, List.length_map]
      have d1 := ok.d1
      have d4 := ok.d4
      refine ⟨so, .ref p6, _, rfl, s3.src, .inl ⟨p6, rfl, SqL.of (del_of n6 h6)⟩, (fun z => by rw [z] at lD; simp at lD; omega), by omega, fun H7 dz m7 _ hdz => ⟨by show 3 ≤ sizeLine; decide, fun t1 ht1 => ⟨by show 1 ≤ sizeLine; decide, fun l2 hl2 => ?_⟩⟩⟩
      have s4 := s3.trans m7
      have q4 := q3.trans m7
      obtain ⟨dd, rfl, dok⟩ : ∃ dd, dz = .str dd ∧ dd.length ≤ 8 ∧ AscS dd := by
        obtain ⟨x, hx, rfl⟩ := List.mem_map.mp hdz
        obtain ⟨y, hy, rfl⟩ := List.mem_map.mp hx
        exact ⟨_, rfl, (ok.dn y hy).ok8⟩
      have nt1 := s4.src.ne ht1
      have e5 : Mv so H7 (upd H7 t1 (.tup [.str "send", .str kz, .str dd])) := .new s4.src ht1
      have g1 : (del (upd H7 t1 (.tup [.str "send", .str kz, .str dd])) so) t1 = some (.tup (sV ["send", kz, dd])) := del_of nt1 upd_same
      generalize upd H7 t1 (.tup [.str "send", .str kz, .str dd]) = H8 at *
      have s5 := s4.trans e5
      have q5 := q4.trans e5
      have nl2 := s5.src.ne hl2
      have e6 : Mv so H8 (upd H8 l2 (.lst [.ref t1])) := .new s5.src hl2
      have hl2' : (upd H8 l2 (.lst [.ref t1])) l2 = some (.lst [.ref t1]) := upd_same
      generalize upd H8 l2 (.lst [.ref t1]) = H9 at *
      have s6 := s5.trans e6
      have q6 := q5.trans e6
      refine ⟨l2, 2, [.ref t1], rfl, rfl, hl2', by decide, by decide, by rw [sizeLine_eq]; show 1 * 2 ≤ _; omega, fun l3 hl3 => ?_⟩
      have nl3 := s6.src.ne hl3
      have e7 : Mv so H9 (upd H9 l3 (.lst (List.replicate (2 : Int).toNat [.ref t1]).flatten)) := .new s6.src hl3
      have hl3' : (upd H9 l3 (.lst (List.replicate (2 : Int).toNat [.ref t1]).flatten)) l3 = some (.lst [.ref t1, .ref t1]) := upd_same
      generalize upd H9 l3 (.lst (List.replicate (2 : Int).toNat [.ref t1]).flatten) = H10 at *
      have s7 := s6.trans e7
      have q7 := q6.trans e7
      have g1 := e7.same _ _ (e6.same _ _ g1)
      -- the work
      refine ⟨_, rfl, _, rfl, by show 3 ≤ sizeLine; decide, fun l4 hl4 => ?_⟩
      have nl4 := s7.src.ne hl4
      have e8 : Mv so H10 (upd H10 l4 (.lst (sV how3))) := .new s7.src hl4
      refine ⟨so, .ref l4, sV how3, rfl, e8.src, .inl ⟨l4, rfl, SqL.of (del_of nl4 upd_same)⟩, by simp [how3], by show 3 < 1000000; decide, fun H11 hz m11 _ hhz => ⟨by show 2 ≤ sizeLine; decide, fun t2 ht2 => ⟨by show 1 ≤ sizeLine; decide, fun l5 hl5 => ?_⟩⟩⟩
      have q8 := (q7.trans e8).trans m11
      have s8 := (s7.trans e8).trans m11
      have g1 := m11.same _ _ (e8.same _ _ g1)
      have hl3' := m11.get nl3 (e8.get nl3 hl3')
      have how : ∀ {z : V}, z ∈ sV how3 → ∃ h, z = .str h ∧ h.length ≤ 8 ∧ AscS h := fun {z} hz => by
        obtain ⟨x, hx, rfl⟩ := List.mem_map.mp hz
        exact ⟨x, rfl, words_ok x (by
          have : ∀ y ∈ how3, y ∈ (["send", "work", "replay", "done", "stops", "fails", "k", "abcdefgh"] : List Str) := by decide +kernel
          exact this x hx)⟩
      obtain ⟨h1, rfl, hok⟩ := how hhz
      have nt2 := s8.src.ne ht2
      have e9 : Mv so H11 (upd H11 t2 (.tup [.str "work", .str h1])) := .new s8.src ht2
      have g2 : (del (upd H11 t2 (.tup [.str "work", .str h1])) so) t2 = some (.tup (sV ["work", h1])) := del_of nt2 upd_same
      generalize upd H11 t2 (.tup [.str "work", .str h1]) = H12 at *
      have s9 := s8.trans e9
      have q9 := q8.trans e9
      have g1 := e9.same _ _ g1
      have hl3' := e9.get nl3 hl3'
      have nl5 := s9.src.ne hl5
      have e10 : Mv so H12 (upd H12 l5 (.lst [.ref t2])) := .new s9.src hl5
      have hl5' : (upd H12 l5 (.lst [.ref t2])) l5 = some (.lst [.ref t2]) := upd_same
      generalize upd H12 l5 (.lst [.ref t2]) = H13 at *
      have s10 := s9.trans e10
      have q10 := q9.trans e10
      have g1 := e10.same _ _ g1
      have g2 := e10.same _ _ g2
      have hl3' := e10.get nl3 hl3'
      refine ⟨l3, l5, _, _, rfl, rfl, hl3', hl5', by rw [sizeLine_eq]; show 2 + 1 ≤ _; omega, fun l6 hl6 => ?_⟩
      have nl6 := s10.src.ne hl6
      have e11 : Mv so H13 (upd H13 l6 (.lst ([.ref t1, .ref t1] ++ [.ref t2]))) := .new s10.src hl6
      have hl6' : (upd H13 l6 (.lst ([.ref t1, .ref t1] ++ [.ref t2]))) l6 = some (.lst [.ref t1, .ref t1, .ref t2]) := upd_same
      generalize upd H13 l6 (.lst ([.ref t1, .ref t1] ++ [.ref t2])) = H14 at *
      have s11 := s10.trans e11
      have q11 := q10.trans e11
      have g1 := e11.same _ _ g1
      have g2 := e11.same _ _ g2
      -- one of them
      refine ⟨_, rfl, .inl ⟨rfl, _, SqL.of (q11.get np hp2)⟩, _, rfl, _, rfl, _, rfl, by show 3 ≤ sizeLine; decide, fun l7 hl7 => ?_⟩
      have nl7 := s11.src.ne hl7
      have e12 : Mv so H14 (upd H14 l7 (.lst (sV how3))) := .new s11.src hl7
      refine ⟨so, .ref l7, sV how3, rfl, e12.src, .inl ⟨l7, rfl, SqL.of (del_of nl7 upd_same)⟩, by simp [how3], by show 3 < 1000000; decide, fun H15 hz2 m15 _ hhz2 => ⟨by show 2 ≤ sizeLine; decide, fun t3 ht3 => ⟨by show 1 ≤ sizeLine; decide, fun l8 hl8 => ?_⟩⟩⟩
      have q12 := (q11.trans e12).trans m15
      have s12 := (s11.trans e12).trans m15
      have g1 := m15.same _ _ (e12.same _ _ g1)
      have g2 := m15.same _ _ (e12.same _ _ g2)
      have hl6' := m15.get nl6 (e12.get nl6 hl6')
      obtain ⟨h2, rfl, hok2⟩ := how hhz2
      have nt3 := s12.src.ne ht3
      have e13 : Mv so H15 (upd H15 t3 (.tup [.str "replay", .str h2])) := .new s12.src ht3
      have g3 : (del (upd H15 t3 (.tup [.str "replay", .str h2])) so) t3 = some (.tup (sV ["replay", h2])) := del_of nt3 upd_same
      generalize upd H15 t3 (.tup [.str "replay", .str h2]) = H16 at *
      have s13 := s12.trans e13
      have q13 := q12.trans e13
      have nl8 := s13.src.ne hl8
      have e14 : Mv so H16 (upd H16 l8 (.lst [.ref t3])) := .new s13.src hl8
      have hl8' : (upd H16 l8 (.lst [.ref t3])) l8 = some (.lst [.ref t3]) := upd_same
      generalize upd H16 l8 (.lst [.ref t3]) = H17 at *
      have s14 := s13.trans e14
      have q14 := q13.trans e14
      have g1 := e14.same _ _ (e13.same _ _ g1)
      have g2 := e14.same _ _ (e13.same _ _ g2)
      have g3 := e14.same _ _ g3
      have hl6' := e14.get nl6 (e13.get nl6 hl6')
      refine ⟨l6, l8, _, _, rfl, rfl, hl6', hl8', by rw [sizeLine_eq]; show 3 + 1 ≤ _; omega, fun l9 hl9 => ?_⟩
      have nl9 := s14.src.ne hl9
      have e15 : Mv so H17 (upd H17 l9 (.lst ([.ref t1, .ref t1, .ref t2] ++ [.ref t3]))) := .new s14.src hl9
      have hl9' : (upd H17 l9 (.lst ([.ref t1, .ref t1, .ref t2] ++ [.ref t3]))) l9 = some (.lst [.ref t1, .ref t1, .ref t2, .ref t3]) := upd_same
      generalize upd H17 l9 (.lst ([.ref t1, .ref t1, .ref t2] ++ [.ref t3])) = H18 at *
      have s15 := s14.trans e15
      have q15 := q14.trans e15
      refine ⟨so, .ref l9, [.ref t1, .ref t1, .ref t2, .ref t3], rfl, s15.src, .inl ⟨l9, rfl, SqL.of (del_of nl9 hl9')⟩, by simp, by show 4 < 1000000; decide, fun H19 ev m19 _ hev => ?_⟩
      have s16 := s15.trans m19
      have q16 := q15.trans m19
      have g1 := m19.same _ _ (e15.same _ _ g1)
      have g2 := m19.same _ _ (e15.same _ _ g2)
      have g3 := m19.same _ _ (e15.same _ _ g3)
      obtain ⟨te, ws, rfl, ge, wok⟩ : ∃ te ws, ev = .ref te ∧ (del H19 so) te = some (.tup (sV ws)) ∧ EvD ws := by
        simp only [List.mem_cons, List.mem_nil_iff, or_false] at hev
        rcases hev with rfl | rfl | rfl | rfl
        · exact ⟨_, _, rfl, g1, evD3 (words_ok _ (by decide +kernel)) kok dok⟩
        · exact ⟨_, _, rfl, g1, evD3 (words_ok _ (by decide +kernel)) kok dok⟩
        · exact ⟨_, _, rfl, g2, evD2 (words_ok _ (by decide +kernel)) hok⟩
        · exact ⟨_, _, rfl, g3, evD2 (words_ok _ (by decide +kernel)) hok2⟩
      have hp19 := q16.get np hp2
      have lts : ts.length = evs.length := pr.length
      refine ⟨p, _, _, rfl, rfl, hp19, by rw [List.length_map, sizeLine_eq]; omega, ?_⟩
      have kp : ∀ x us, (del H19 so) x = some (.tup us) → (del (upd H19 p (.lst (ts.map V.ref ++ [.ref te]))) so) x = some (.tup us) := fun x us h => by
        obtain ⟨n, h⟩ := del_some h
        exact del_of n ((upd_ne fun z => by subst z; rw [hp19] at h; cases h).trans h)
      refine ⟨_, _, _, ts ++ [te], evs ++ [ws], rfl, s16.write hp np, by rw [upd_same, List.map_append]; rfl, ?_, fun w hw => ?_, by rw [List.length_append, le]; rfl⟩
      · have pr2 := pr.mv q16
        exact (pr2.mono fun _ _ h => kp _ _ h).snoc (kp _ _ ge)
      · rcases List.mem_append.mp hw with hw | hw
        · exact ok2 w hw
        · rw [List.mem_singleton.mp hw]
          exact wok
    · rintro σ H2 ⟨c3, c4, c5, ts, evs, rfl, m, hp2, pr, ok2, le⟩
      exact ⟨_, rfl, q H2 p ts evs m hp np hp2 pr ok2 (by omega)⟩
end
end Bs
set_option Elab.async false
set_option linter.all false
set_option maxRecDepth 100000
set_option maxHeartbeats 4000000
namespace L2
namespace Pl
open PySem PySem.Spec PyProof.Rows
theorem cut_from {xs : List V} (m : Nat) (h : m ≤ xs.length) : cutV xs (some (m : Int)) none = xs.drop m := by
  unfold cutV
  rw [HT.sIx_none, HT.sIx_nat, Nat.min_eq_left h, List.take_of_length_le (by rw [List.length_drop]; exact Nat.le_refl _)]
theorem cut_from2 {xs : List V} (m : Nat) : cutV xs (some (m : Int)) none = xs.drop m := by
  by_cases h : m ≤ xs.length
  · exact cut_from m h
  · unfold cutV
    rw [HT.sIx_none, HT.sIx_nat, Nat.min_eq_right (by omega), List.drop_length, List.drop_of_length_le (by omega), List.take_nil]
theorem cutS_asc {z : Str} {lo hi : Option Int} (h : AscS z) : AscS (cutS z lo hi) := fun c hc => by
  unfold cutS at hc
  exact h c (List.mem_of_mem_drop (List.mem_of_mem_take (by simpa using hc)))
theorem cutS_len {z : Str} {lo hi : Option Int} : (cutS z lo hi).length ≤ z.length := by
  unfold cutS
  show ((z.cps.toList.drop _).take _).toArray.size ≤ z.cps.size
  rw [List.size_toArray, List.length_take, List.length_drop, Array.length_toList]
  omega
theorem sum_app {xs ys : List Str} : ((xs ++ ys).map (·.length)).sum = (xs.map (·.length)).sum + (ys.map (·.length)).sum := by
  rw [List.map_append, List.sum_append]
theorem sum_take {xs : List Str} (n : Nat) : ((xs.take n).map (·.length)).sum + ((xs.drop n).map (·.length)).sum = (xs.map (·.length)).sum := by
  rw [← sum_app, List.take_append_drop]
theorem sum_drop1 {xs : List Str} (n : Nat) : ((xs.drop (n + 1)).map (·.length)).sum ≤ ((xs.drop n).map (·.length)).sum := by
  have : xs.drop (n + 1) = (xs.drop n).drop 1 := by rw [List.drop_drop]
  rw [this]
  cases xs.drop n with
  | nil => simp
  | cons a r =>
    show (r.map (·.length)).sum ≤ _
    rw [List.map_cons, List.sum_cons]
    omega
theorem joinL {sep : Str} (hs : sep.length = 1) {ys : List Str} {n : Nat} (h : (ys.map (·.length)).sum + ys.length ≤ n) : (ys.map (·.length)).sum + ys.length * sep.length ≤ n ∧ (Txt.join sep ys).length ≤ n := by
  have h2 := StrLaws.join_length_le sep ys
  have e : Txt.join sep ys = Str.join sep ys := StrLaws.glued_eq_join sep ys
  rw [e]
  rw [hs, Nat.mul_one] at h2 ⊢
  omega
theorem sV_take {xs : List Str} {n : Nat} : (sV xs).take n = sV (xs.take n) := (List.map_take ..).symm
theorem sV_drop {xs : List Str} {n : Nat} : (sV xs).drop n = sV (xs.drop n) := (List.map_drop ..).symm
theorem sV_app {xs ys : List Str} : sV xs ++ sV ys = sV (xs ++ ys) := (List.map_append ..).symm
theorem at_lst {H : Hp} {p : Addr} {us ws : List V} (e : us = ws) : (upd H p (.lst us)) p = some (.lst ws) := upd_same.trans (congrArg (fun z => some (HO.lst z)) e)
def TxtOk (n : Nat) (t : Str) : Prop := AscS t ∧ t.length ≤ n
def spBent : Sp := fun vs H Q _ => ∃ s t n, vs = [.ref s, .str t] ∧ Src H s ∧ TxtOk n t ∧ n ≤ 5620 ∧ ∀ H' t', Mv s H H' → TxtOk (2 * n + 20) t' → Q (.str t') H'
theorem odd_ok : ∀ w ∈ (["", "work", "work done done", "send k", "play done", "replay fails", "Work done", "send  k"] : List Str), TxtOk 14 w := by
  intro w hw
  have h : (["", "work", "work done done", "send k", "play done", "replay fails", "Work done", "send  k"] : List Str).all (fun w => decide (w.length ≤ 14) && w.cps.toList.all (fun c => decide (c < 128))) = true := by decide +kernel
  have := List.all_eq_true.mp h w hw
  rw [Bool.and_eq_true, decide_eq_true_iff] at this
  exact ⟨asc_dec this.2, this.1⟩
end Pl
end L2
namespace Bs
open PySem PySem.Spec PyProof.Rows L2 L2.Pl
section
variable {P : Program} {w : World} {K : PySem.W.Frag} {mg : Str → Option Value} {base : Heap} {f : Addr} {fd : FuncData}
abbrev NBent : List Str := ["source", "text", "at", "sign", "lines", "spot", "words", "odd", "some"]
theorem scBent : FnScope NBent ["source", "text"] (defScope sBent) := ⟨rfl, rfl, rfl, by decide +kernel, rfl, by decide +kernel, by decide +kernel⟩
def signs : Str := " \n\nakxA0-_."
theorem signs_asc : AscS signs := asc_dec (by decide +kernel)
theorem ok_bent (G : Gn mg) (F : FnP K "_law_bent" sBent f fd) (hD : Has P w K mg base CX0 "_law_draw" 1 ["source", "span"] spDraw) (hP : Has P w K mg base CX0 "_law_pick" 2 ["source", "things"] (spPick K)) : FnOk P w K mg base CX0 3 f fd ["source", "text"] spBent := by
  obtain ⟨fD, dD, oD, bD, gD, kD⟩ := hD.ex
  obtain ⟨fP, dP, oP, bP, gP, kP⟩ := hP.ex
  refine F.ok scBent (fun vs H Q E h => ?_) (fun cdv A outer s H vs Q E hr h => ?_)
  · obtain ⟨_, _, _, rfl, _⟩ := h
    rfl
  · obtain ⟨so, t, n, rfl, hS, ⟨ta, tl⟩, hn, q⟩ := h
    have hr1 := hr.mono (j := 1) (by decide)
    refine ⟨_, PSs.nox (pss_cons (ps_par (i := 2) (j := 3) (by rfl) scBent.nd rfl rfl (by decide) rfl rfl (pa_cons (pe_call oD hr1 (by rfl) gD kD bD .nil pass0 (pa_cons (pv 0) (pa_cons (pe_op op_add (pe_callB call_len (by rfl) G.len bLen (pa_cons (pv 1) pa_nil)) pe_int) pa_nil))) (pa_cons (pe_call oP hr (by rfl) gP kP bP .nil pass0 (pa_cons (pv 0) (pa_cons pe_str pa_nil))) pa_nil)) (by rfl))
      (pss_cons (ps_set (i := 4) scBent.nd rfl (.inl rfl) (pe_split (pv 1) pe_str))
      (pss_cons (ps_set (i := 5) scBent.nd rfl (.inl rfl) (pe_call oD hr1 (by rfl) gD kD bD .nil pass0 (pa_cons (pv 0) (pa_cons (pe_op op_add (pe_callB call_len_seq (by rfl) G.len bLen (pa_cons (pv 4) pa_nil)) pe_int) pa_nil))))
      (pss_cons (ps_set (i := 6) scBent.nd rfl (.inl rfl) (pe_lst (pa_cons pe_str (pa_cons pe_str (pa_cons pe_str (pa_cons pe_str (pa_cons pe_str (pa_cons pe_str (pa_cons pe_str (pa_cons pe_str pa_nil))))))))))
      (pss_cons (ps_set (i := 7) scBent.nd rfl (.inl rfl) (pe_call oP hr (by rfl) gP kP bP .nil pass0 (pa_cons (pv 0) (pa_cons (pv 6) pa_nil))))
      (pss_cons (ps_set (i := 8) scBent.nd rfl (.inl rfl) (pe_lst (pa_cons (pe_op op_add_str (pe_op op_add_str (pe_slice sl_str (pv 1) po_none (po_some (pv 2))) (pv 3)) (pe_slice sl_str (pv 1) (po_some (pv 2)) po_none)) (pa_cons (pe_op op_add_str (pe_slice sl_str (pv 1) po_none (po_some (pv 2))) (pe_slice sl_str (pv 1) (po_some (pe_op op_add (pv 2) pe_int)) po_none)) (pa_cons (pe_join pe_str (pe_op op_cat (pe_op op_cat (pe_slice sl_list (pv 4) po_none (po_some (pv 5))) (pe_lst (pa_cons (pv 7) pa_nil))) (pe_slice sl_list (pv 4) (po_some (pv 5)) po_none))) pa_nil)))))
      (pss_one (ps_ret (pe_call oP hr (by rfl) gP kP bP .nil pass0 (pa_cons (pv 0) (pa_cons (pe_op op_cat (pv 8) (pe_lst (pa_cons (pe_join pe_str (pe_op op_cat (pe_slice sl_list (pv 4) po_none (po_some (pv 5))) (pe_slice sl_list (pv 4) (po_some (pe_op op_add (pv 5) pe_int)) po_none))) (pa_cons (pe_op op_add_str (pv 1) pe_str) (pa_cons (pe_op op_add_str pe_str (pv 1)) pa_nil))))) pa_nil))))))))))), ?_⟩
    refine ⟨_, rfl, _, rfl, _, t.length, rfl, ⟨by rw [sizeLine_eq]; omega, rfl⟩, _, _, rfl, rfl, so, (t.length : Int) + 1, rfl, hS, by omega, by omega, fun H1 at_ m1 _ a0 a1 => ?_⟩
    refine ⟨_, rfl, so, .str signs, _, rfl, m1.src, .inr (.inr ⟨signs, rfl, by decide +kernel, rfl⟩), by decide +kernel, by decide +kernel, fun H2 sg m2 _ hsg => ⟨_, _, rfl, ?_⟩⟩
    obtain ⟨c, hc, rfl⟩ := List.mem_map.mp hsg
    have sga : AscS ⟨#[c]⟩ := fun d hd => by
      have hd : d ∈ [c] := hd
      rw [List.mem_singleton.mp hd]
      exact signs_asc c hc
    have sgl : (⟨#[c]⟩ : Str).length = 1 := rfl
    have s2 := m1.trans m2
    have szt : t.length ≤ sizeLine := by rw [sizeLine_eq]; omega
    -- the lines
    refine ⟨_, rfl, ⟨_, rfl⟩, t, "\n", rfl, rfl, by decide +kernel, by rw [sizeLine_eq]; omega, fun lp hlp => ?_⟩
    have nlp := s2.src.ne hlp
    have e3 : Mv so H2 (upd H2 lp (.lst ((Txt.split t "\n").map V.str))) := .new s2.src hlp
    have hl : (upd H2 lp (.lst ((Txt.split t "\n").map V.str))) lp = some (.lst (sV (Txt.split t "\n"))) := upd_same
    generalize upd H2 lp (.lst ((Txt.split t "\n").map V.str)) = H3 at *
    have s3 := s2.trans e3
    have lw := split_weight t "\n" nl1
    have la : ∀ z ∈ Txt.split t "\n", AscS z := fun z hz => asc_split ta hz
    generalize hls : Txt.split t "\n" = ls at *
    clear hls
    have lV : (sV ls).length = ls.length := List.length_map _
    refine ⟨_, rfl, _, rfl, lp, sV ls, rfl, .inl (SqL.of hl), _, _, rfl, rfl, so, ((sV ls).length : Int) + 1, rfl, s3.src, by omega, by omega, fun H4 spot m4 _ p0 p1 => ?_⟩
    have s4 := s3.trans m4
    have hl := m4.get nlp hl
    obtain ⟨sp, rfl⟩ : ∃ sp : Nat, spot = (sp : Int) := ⟨spot.toNat, by omega⟩
    have spl : sp ≤ ls.length := by omega
    refine ⟨by show 8 ≤ sizeLine; decide, fun wp hwp => ?_⟩
    have nwp := s4.src.ne hwp
    have e5 : Mv so H4 (upd H4 wp (.lst (sV ["", "work", "work done done", "send k", "play done", "replay fails", "Work done", "send  k"]))) := .new s4.src hwp
    have hw5 : (upd H4 wp (.lst (sV ["", "work", "work done done", "send k", "play done", "replay fails", "Work done", "send  k"]))) wp = some (.lst (sV ["", "work", "work done done", "send k", "play done", "replay fails", "Work done", "send  k"])) := upd_same
    have s5 := s4.trans e5
    refine ⟨_, rfl, _, rfl, so, .ref wp, _, rfl, s5.src, .inl ⟨wp, rfl, SqL.of (del_of nwp hw5)⟩, by simp, by show 8 < 1000000; decide, fun H6 od m6 _ hod => ?_⟩
    obtain ⟨o, ho, rfl⟩ := List.mem_map.mp hod
    obtain ⟨oa, ol⟩ := odd_ok o ho
    have s6 := s5.trans m6
    have hl := m6.get nlp (e5.get nlp hl)
    clear hwp hw5 e5 m6 m4 e3 hod hc hsg
    have c1 : ∀ {lo hi : Option Int}, (cutS t lo hi).length ≤ n := Nat.le_trans cutS_len tl
    have c1' := @c1
    -- the first two
    refine ⟨_, rfl, _, rfl, at_, rfl, t, rfl, szt, _, rfl, _, _, rfl, rfl, by have := @c1 none (some at_); rw [sizeLine_eq, sgl]; omega, _, rfl, _, rfl, at_, rfl, t, rfl, szt, _, _, rfl, rfl, by have h1 := @c1 none (some at_); have h2 := @c1 (some at_) none; rw [sizeLine_eq, strLen_append, sgl]; omega, ?_⟩
    refine ⟨_, rfl, _, rfl, at_, rfl, t, rfl, szt, _, rfl, _, rfl, _, _, rfl, rfl, at_ + 1, rfl, t, rfl, szt, _, _, rfl, rfl, by have h1 := @c1 none (some at_); have h2 := @c1 (some (at_ + 1)) none; rw [sizeLine_eq]; omega, ?_⟩
    -- a line put in
    refine ⟨⟨_, rfl⟩, _, rfl, _, rfl, (sp : Int), rfl, lp, sV ls, rfl, SqL.of hl, fun p1 hp1 => ?_⟩
    have e7 : Mv so H6 (upd H6 p1 (.lst (cutV (sV ls) none (some (sp : Int))))) := .new s6.src hp1
    have f1 : (upd H6 p1 (.lst (cutV (sV ls) none (some (sp : Int))))) p1 = some (.lst (sV (ls.take sp))) := at_lst ((cut_to sp (by omega)).trans sV_take)
    generalize upd H6 p1 (.lst (cutV (sV ls) none (some (sp : Int)))) = H7 at *
    have s7 := s6.trans e7
    have n1 := s6.src.ne hp1
    have hl := e7.get nlp hl
    refine ⟨_, rfl, by show 1 ≤ sizeLine; decide, fun p2 hp2 => ?_⟩
    have e8 : Mv so H7 (upd H7 p2 (.lst [.str o])) := .new s7.src hp2
    have f2 : (upd H7 p2 (.lst [.str o])) p2 = some (.lst (sV [o])) := upd_same
    generalize upd H7 p2 (.lst [.str o]) = H8 at *
    have s8 := s7.trans e8
    have hl := e8.get nlp hl
    have f1 := e8.get n1 f1
    have lt : ls.length ≤ n + 1 := by omega
    have lt1 : (ls.take sp).length ≤ n + 1 := by rw [List.length_take]; omega
    refine ⟨p1, p2, _, _, rfl, rfl, f1, f2, by rw [List.length_map, sizeLine_eq]; show _ + 1 ≤ _; omega, fun p3 hp3 => ?_⟩
    have n3 := s8.src.ne hp3
    have e9 : Mv so H8 (upd H8 p3 (.lst (sV (ls.take sp) ++ sV [o]))) := .new s8.src hp3
    have f3 : (upd H8 p3 (.lst (sV (ls.take sp) ++ sV [o]))) p3 = some (.lst (sV (ls.take sp ++ [o]))) := at_lst sV_app
    generalize upd H8 p3 (.lst (sV (ls.take sp) ++ sV [o])) = H9 at *
    have s9 := s8.trans e9
    have hl := e9.get nlp hl
    refine ⟨_, rfl, _, rfl, (sp : Int), rfl, lp, sV ls, rfl, SqL.of hl, fun p4 hp4 => ?_⟩
    have n4 := s9.src.ne hp4
    have e10 : Mv so H9 (upd H9 p4 (.lst (cutV (sV ls) (some (sp : Int)) none))) := .new s9.src hp4
    have f4 : (upd H9 p4 (.lst (cutV (sV ls) (some (sp : Int)) none))) p4 = some (.lst (sV (ls.drop sp))) := at_lst ((cut_from sp (by omega)).trans sV_drop)
    generalize upd H9 p4 (.lst (cutV (sV ls) (some (sp : Int)) none)) = H10 at *
    have s10 := s9.trans e10
    have hl := e10.get nlp hl
    have f3 := e10.get n3 f3
    have lt2 : (ls.drop sp).length ≤ n + 1 := by rw [List.length_drop]; omega
    refine ⟨p3, p4, _, _, rfl, rfl, f3, f4, by rw [List.length_map, List.length_map, List.length_append, sizeLine_eq]; show _ + 1 + _ ≤ _; omega, fun p5 hp5 => ?_⟩
    have n5 := s10.src.ne hp5
    have e11 : Mv so H10 (upd H10 p5 (.lst (sV (ls.take sp ++ [o]) ++ sV (ls.drop sp)))) := .new s10.src hp5
    have f5 : (upd H10 p5 (.lst (sV (ls.take sp ++ [o]) ++ sV (ls.drop sp)))) p5 = some (.lst (sV (ls.take sp ++ [o] ++ ls.drop sp))) := at_lst sV_app
    generalize upd H10 p5 (.lst (sV (ls.take sp ++ [o]) ++ sV (ls.drop sp))) = H11 at *
    have s11 := s10.trans e11
    have hl := e11.get nlp hl
    have j1 := joinL (sep := "\n") (by decide +kernel) (ys := ls.take sp ++ [o] ++ ls.drop sp) (n := n + 17) (by
      rw [sum_app, sum_app, List.length_append, List.length_append, List.length_take, List.length_drop]
      have := sum_take (xs := ls) sp
      simp only [List.map_cons, List.map_nil, List.sum_cons, List.sum_nil, List.length_cons, List.length_nil]
      omega)
    have a1 : AscS (Txt.join "\n" (ls.take sp ++ [o] ++ ls.drop sp)) := asc_join nl_asc fun y hy => by
      rcases List.mem_append.mp hy with hy | hy
      · rcases List.mem_append.mp hy with hy | hy
        · exact la y (List.mem_of_mem_take hy)
        · rw [List.mem_singleton.mp hy]; exact oa
      · exact la y (List.mem_of_mem_drop hy)
    refine ⟨"\n", p5, _, rfl, rfl, .inl (SqL.of f5), by omega, by show 3 ≤ sizeLine; decide, fun p6 hp6 => ?_⟩
    generalize ht1 : cutS t none (some at_) ++ ⟨#[c]⟩ ++ cutS t (some at_) none = t1 at *
    generalize ht2 : cutS t none (some at_) ++ cutS t (some (at_ + 1)) none = t2 at *
    generalize Txt.join "\n" (ls.take sp ++ [o] ++ ls.drop sp) = t3 at *
    have e12 : Mv so H11 (upd H11 p6 (.lst [.str t1, .str t2, .str t3])) := .new s11.src hp6
    have n6 := s11.src.ne hp6
    have f6 : (upd H11 p6 (.lst [.str t1, .str t2, .str t3])) p6 = some (.lst (sV [t1, t2, t3])) := upd_same
    generalize upd H11 p6 (.lst [.str t1, .str t2, .str t3]) = H12 at *
    have s12 := s11.trans e12
    have hl := e12.get nlp hl
    refine ⟨_, rfl, _, rfl, ⟨_, rfl⟩, _, rfl, _, rfl, (sp : Int), rfl, lp, sV ls, rfl, SqL.of hl, fun p7 hp7 => ?_⟩
    have e13 : Mv so H12 (upd H12 p7 (.lst (cutV (sV ls) none (some (sp : Int))))) := .new s12.src hp7
    have n7 := s12.src.ne hp7
    have f7 : (upd H12 p7 (.lst (cutV (sV ls) none (some (sp : Int))))) p7 = some (.lst (sV (ls.take sp))) := at_lst ((cut_to sp (by omega)).trans sV_take)
    generalize upd H12 p7 (.lst (cutV (sV ls) none (some (sp : Int)))) = H13 at *
    have s13 := s12.trans e13
    have hl := e13.get nlp hl
    have f6 := e13.get n6 f6
    refine ⟨_, rfl, _, rfl, _, _, rfl, rfl, (sp : Int) + 1, rfl, lp, sV ls, rfl, SqL.of hl, fun p8 hp8 => ?_⟩
    have ecast : ((sp : Int) + 1) = ((sp + 1 : Nat) : Int) := by omega
    have e14 : Mv so H13 (upd H13 p8 (.lst (cutV (sV ls) (some ((sp : Int) + 1)) none))) := .new s13.src hp8
    have n8 := s13.src.ne hp8
    have f8 : (upd H13 p8 (.lst (cutV (sV ls) (some ((sp : Int) + 1)) none))) p8 = some (.lst (sV (ls.drop (sp + 1)))) := at_lst (by rw [ecast]; exact (cut_from2 (sp + 1)).trans sV_drop)
    generalize upd H13 p8 (.lst (cutV (sV ls) (some ((sp : Int) + 1)) none)) = H14 at *
    have s14 := s13.trans e14
    have f7 := e14.get n7 f7
    have f6 := e14.get n6 f6
    have lt3 : (ls.drop (sp + 1)).length ≤ n + 1 := by rw [List.length_drop]; omega
    refine ⟨p7, p8, _, _, rfl, rfl, f7, f8, by rw [List.length_map, List.length_map, sizeLine_eq]; omega, fun p9 hp9 => ?_⟩
    have e15 : Mv so H14 (upd H14 p9 (.lst (sV (ls.take sp) ++ sV (ls.drop (sp + 1))))) := .new s14.src hp9
    have n9 := s14.src.ne hp9
    have f9 : (upd H14 p9 (.lst (sV (ls.take sp) ++ sV (ls.drop (sp + 1))))) p9 = some (.lst (sV (ls.take sp ++ ls.drop (sp + 1)))) := at_lst sV_app
    generalize upd H14 p9 (.lst (sV (ls.take sp) ++ sV (ls.drop (sp + 1)))) = H15 at *
    have s15 := s14.trans e15
    have f6 := e15.get n6 f6
    have j2 := joinL (sep := "\n") (by decide +kernel) (ys := ls.take sp ++ ls.drop (sp + 1)) (n := n + 17) (by
      rw [sum_app, List.length_append, List.length_take, List.length_drop]
      have h1 := sum_take (xs := ls) sp
      have h2 := sum_drop1 (xs := ls) sp
      omega)
    have a2 : AscS (Txt.join "\n" (ls.take sp ++ ls.drop (sp + 1))) := asc_join nl_asc fun y hy => by
      rcases List.mem_append.mp hy with hy | hy
      · exact la y (List.mem_of_mem_take hy)
      · exact la y (List.mem_of_mem_drop hy)
    have nlL : ("\n" : Str).length = 1 := by decide +kernel
    have spL : (" " : Str).length = 1 := by decide +kernel
    refine ⟨"\n", p9, _, rfl, rfl, .inl (SqL.of f9), by omega, _, rfl, _, _, rfl, rfl, by rw [nlL, sizeLine_eq]; omega, _, rfl, _, _, rfl, rfl, by rw [spL, sizeLine_eq]; omega, by show 3 ≤ sizeLine; decide, fun p10 hp10 => ?_⟩
    generalize Txt.join "\n" (ls.take sp ++ ls.drop (sp + 1)) = t4 at *
    have e16 : Mv so H15 (upd H15 p10 (.lst (sV [t4, t ++ "\n", " " ++ t]))) := .new s15.src hp10
    have n10 := s15.src.ne hp10
    have f10 : (upd H15 p10 (.lst (sV [t4, t ++ "\n", " " ++ t]))) p10 = some (.lst (sV [t4, t ++ "\n", " " ++ t])) := upd_same
    have f6 := e16.get n6 f6
    have s16 := s15.trans e16
    refine ⟨p6, p10, sV [t1, t2, t3], sV [t4, t ++ "\n", " " ++ t], rfl, rfl, f6, f10, by rw [sizeLine_eq]; show 3 + 3 ≤ _; omega, fun p11 hp11 => ?_⟩
    have n11 := s16.src.ne hp11
    have e17 : Mv so _ (upd _ p11 (.lst (sV [t1, t2, t3] ++ sV [t4, t ++ "\n", " " ++ t]))) := .new s16.src hp11
    have s17 := s16.trans e17
    refine ⟨so, .ref p11, sV [t1, t2, t3, t4, t ++ "\n", " " ++ t], rfl, s17.src, .inl ⟨p11, rfl, SqL.of (del_of n11 upd_same)⟩, by simp, by show 6 < 1000000; decide, fun H18 x m18 _ hx => ?_⟩
    obtain ⟨z, hz, rfl⟩ := List.mem_map.mp hx
    refine q _ z (s17.trans m18) ?_
    have b1 := @c1 none (some at_)
    have b2 := @c1 (some at_) none
    have b3 := @c1 (some (at_ + 1)) none
    simp only [List.mem_cons, List.mem_nil_iff, or_false] at hz
    rcases hz with rfl | rfl | rfl | rfl | rfl | rfl
    · rw [← ht1]
      exact ⟨((cutS_asc ta).app sga).app (cutS_asc ta), by rw [strLen_append, strLen_append, sgl]; omega⟩
    · rw [← ht2]
      exact ⟨(cutS_asc ta).app (cutS_asc ta), by rw [strLen_append]; omega⟩
    · exact ⟨a1, by omega⟩
    · exact ⟨a2, by omega⟩
    · exact ⟨ta.app nl_asc, by rw [strLen_append, nlL]; omega⟩
    · exact ⟨sp_asc.app ta, by rw [strLen_append, spL]; omega⟩
end
end Bs
set_option Elab.async false
set_option linter.all false
set_option maxRecDepth 100000
set_option maxHeartbeats 2000000
/-! x != y of two instances of a class with an own __eq__ and without an own __ne__ -/
namespace HX
open PySem PySem.Spec PyProof.Rows
section
variable {M : Model} {prog : Program} {w : World} {A : Around} {E : Value → Shared → Prop} {s : Shared} {K : PySem.W.Frag} {x C f L : Addr} {ox : Obj} {od : Option Obj} {m : Str → Option Value} {h₀ : Heap}
theorem ifB_ne {args : List Value} {Q : Option Value → Shared → Prop} (X : K.In s.heap) (I : PySem.W.InstAt s.heap x ox C od) (hs : PySem.W.findIn K (.ref C) "__ne__" = some (some (.builtin "object.__ne__")))
    (h : wpAny M A (call (.builtin "object.__ne__") (.ref x :: args)) (fun v => Q (some v)) E s) : wpAny M A (callSpecialIfBound? (.ref x) "__ne__" args) Q E s := by
  simp only [callSpecialIfBound?, bindSpecialIfBound?]
  refine wpAny_holding (wpAny_bind (wpAny_bind (wpAny_bind (I.type.here ((PySem.W.looks_findIn X hs).here ?_)))))
  refine wpAny_bind (wpAny_askSetting (wpAny_ite ?_))
  have fin : wpAny M A (call (.builtin "object.__ne__") ([.ref x] ++ args) >>= fun v => pure (some v)) Q E s := wpAny_bind (wpAny_mono h (fun v s' h' => wpAny_pure h') fun _ _ h' => h')
  split
  · exact wpAny_bind (wpAny_of_eq (F.cmp_object.ne.bind _) (wpAny_pure (by exact fin)))
  · exact wpAny_tryCatch (wpAny_bind (wpAny_of_eq (F.cmp_object.ne.bind _) (wpAny_pure (by exact fin))))
theorem entry_ne {y : Value} {Q : Fin → Shared → Prop} (hu : A.units < cLine) (X : K.In s.heap) (I : PySem.W.InstAt s.heap x ox C od) (hs : PySem.W.findIn K (.ref C) "__eq__" = some (some (.ref f))) (hf : PySem.W.isFn K (.ref f) = true)
    (hcall : wpAny (model prog w) A (call (.ref f) [.ref x, y]) (fun v s' => ∃ b, v = .bool b ∧ Q (.done (.ret (.bool (!b)))) s') E s) :
    wpAny (model prog w) A (Builtin.«object.__ne__» ⟨[.ref x, y], []⟩) Q E s := by
  unfold Builtin.«object.__ne__»
  repeat (first
    | with_reducible refine wpAny_cRoomFor hu ?_
    | (refine wpAny_bind (m := callSpecialIfBound? (.ref x) (Str.ofString "__eq__") [y])
        (PySem.W.ifBound_K X I hs hf (wpAny_mono hcall (fun r s' hr => by
          obtain ⟨b, rfl, hq⟩ := hr
          repeat (first | exact hq | exact wpAny_pure hq | exact wpAny_truthy_bool hq | (refine wpAny_bind (m := truthy (.bool _)) (wpAny_truthy_bool ?_)) | wp_step)) fun _ _ e => e)))
    | wp_step)
theorem ne_K {b tb : Value} {Q : Value → Shared → Prop} (hu : A.units + 1 < cLine) (F0 : Fr h₀ L s.heap m) (X₀ : K.In h₀) (I : PySem.W.InstAt s.heap x ox C od) (hb : PySem.W.Looks (model prog w) s.heap (typeOf b) tb) (hn : PySem.W.notFirst K C tb = true)
    (hne : PySem.W.findIn K (.ref C) "__ne__" = some (some (.builtin "object.__ne__"))) (hm : PySem.W.mroIn K C (.type "object") = some true)
    (hs : PySem.W.findIn K (.ref C) "__eq__" = some (some (.ref f))) (hf : PySem.W.isFn K (.ref f) = true)
    (h : wpAny (model prog w) A.in1 (call (.ref f) [.ref x, b]) (fun v s' => ∃ b, v = .bool b ∧ Q (.bool (!b)) s') E s) : wpAny (model prog w) A (richCompare .NotEq (.ref x) b) Q E s := by
  have X := X₀.keeps F0.keep
  have one : wpAny (model prog w) A (tryCompare (.ref x) "__ne__" b) (fun r s' => ∃ v, r = some v ∧ Q v s') E s := by
    unfold tryCompare
    refine wpAny_bind (ifB_ne X I hne (wpAny_call (codeAny_call_builtin F.cmp_object.ne.plain F.cmpEntry_ne (PySem.W.check_slot F.cmpKind_ne F.cmpSplit_ne (I.type.andThen (PySem.W.looks_mroIn X hm)) (F.cmpArgs_ne _ _)
      (entry_ne (A := A.in1) (by show A.units + 1 < cLine; exact hu) X I hs hf (wpAny_mono h (fun v s' hv => ?_) fun _ _ e => e))))))
    obtain ⟨b', rfl, hq⟩ := hv
    exact ⟨b', rfl, wpAny_pure ⟨_, rfl, hq⟩⟩
  unfold richCompare
  simp only [oneThing_ref]
  refine wpAny_holding (wpAny_bind (wpAny_cRoomFor (Nat.lt_of_succ_lt hu) ?_))
  rw [cmpInfo_NotEq]
  dsimp only
  refine wpAny_bind (I.type.here (wpAny_bind (hb.here ?_)))
  split
  · rename_i q
    have e : PySem.W.subIn K tb (.ref C) = some false := by
      rcases Bool.or_eq_true_iff.mp hn with e | e
      · rw [beq_iff_eq.mp e] at q; simp at q
      · exact beq_iff_eq.mp e
    refine wpAny_bind ((PySem.W.looks_subIn X e).here ?_)
    simp only [Bool.false_eq_true, if_false]
    refine wpAny_bind (wpAny_mono one (fun r s' z => ?_) fun _ _ e => e)
    obtain ⟨v, rfl, hq⟩ := z
    exact wpAny_pure hq
  · refine wpAny_bind (wpAny_pure ?_)
    simp only [Bool.false_eq_true, if_false]
    refine wpAny_bind (wpAny_mono one (fun r s' z => ?_) fun _ _ e => e)
    obtain ⟨v, rfl, hq⟩ := z
    exact wpAny_pure hq
end
end HX
namespace L2
open PySem PySem.Spec PyProof.Rows
/-- the class at C: == is the def at f, != is object's -/
structure NeC (K : PySem.W.Frag) (C f : Addr) : Prop where
  eq : PySem.W.findIn K (.ref C) "__eq__" = some (some (.ref f))
  fn : PySem.W.isFn K (.ref f) = true
  ne : PySem.W.findIn K (.ref C) "__ne__" = some (some (.builtin "object.__ne__"))
  ob : PySem.W.mroIn K C (.type "object") = some true
def rNeOwn (C : Addr) (sp : Sp) (E : XK) : R2 := fun x y H Q => ∃ a b dx dy fs gs, x = .ref a ∧ y = .ref b ∧ H a = some (.ins C dx fs) ∧ H b = some (.ins C dy gs) ∧ sp [.ref a, .ref b] H (fun z H' => ∃ t, z = .bl t ∧ Q (.bl (!t)) H') E
section
variable {X : Cx}
theorem op_neOwn {CX : CXT} {C f : Addr} {fd : FuncData} {ps : List Str} {n : Nat} {sp : Sp} {E : XK} (F : FnOk X.prog X.w X.K X.mg X.base CX n f fd ps sp) (N : NeC X.K C f) (hb : Binds X.K fd ps []) (hr : Room (n + 1) X.A) (hx : Passes CX X E) :
    OpR X (compareOp .NotEq) (rNeOwn C sp E) := by
  intro pins s σ H x y v u Q I rx ry h
  obtain ⟨a, b, dx, dy, fs, gs, rfl, rfl, ha, hb', hsp⟩ := h
  cases (show v = Value.ref a from rx)
  cases (show u = Value.ref b from ry)
  obtain ⟨mA, J, _⟩ := ins_get I.hok ha
  obtain ⟨mB, J', _⟩ := ins_get I.hok hb'
  obtain ⟨od, J, _⟩ := J.look
  obtain ⟨od', J', _⟩ := J'.look
  obtain ⟨m, hF⟩ := I.fr
  show wpAny (model X.prog X.w) X.A (richCompare .NotEq (.ref a) (.ref b)) (EP X pins σ Q) X.xe s
  have e0 : Env0 X.prog X.w X.K X.mg X.base X.A.in1 X.stack s H := I.env0.in1
  have r2 : Vals [V.ref a, V.ref b] [Value.ref a, Value.ref b] := .cons rfl (.cons rfl .nil)
  have hl := F.len _ _ _ _ hsp
  refine HX.ne_K (tb := .ref C) (by have := (Room.in1 hr).units0; exact this) hF I.ok.mod.kin J J'.type (by simp [PySem.W.notFirst]) N.ne N.ob N.eq N.fn ?_
  refine wpAny_call (codeAny_mono (F.run X.A.in1 X.stack s H ⟨[.ref a, .ref b], []⟩ [.ref a, .ref b] [.ref a, .ref b] _ E hr.in1 e0 (by
    have := hb s [.ref a, .ref b] I.kIn (by simpa using hl)
    simpa using this) r2 hsp) fun r s' hq => ?_)
  cases r with
  | error e => exact hx pins σ H s e s' I hq
  | ok fl =>
    cases fl with
    | ret w =>
      obtain ⟨z, H', I', rz, t, ez, q⟩ := I.after hq
      subst ez
      cases rz
      exact ⟨t, rfl, .bl (!t), H', I', rfl, q⟩
    | next => exact False.elim hq
    | brk => exact False.elim hq
    | cont => exact False.elim hq
end
end L2
set_option Elab.async false
set_option linter.all false
set_option maxRecDepth 100000
set_option maxHeartbeats 2000000
/-! data that is small, under a repr -/
namespace L2
namespace Pl
open PySem PySem.Spec PyProof.Rows
section
variable {K : PySem.W.Frag} {H H' : Hp}
mutual
theorem Dq.same (s : Same H H') : ∀ (d : PyData) (v : V), Dq K H v d → Dq K H' v d
  | .none, _, h => by
    cases h
    exact .non
  | .bool b, _, h => by
    cases h
    exact .bl b
  | .int i, _, h => by
    cases h
    exact .int i
  | .str x, _, h => by
    cases h
    exact .str x
  | .list ds, _, h => by
    cases h with
    | lst ha hx => exact .lst (s _ _ ha) (Dq.sameAll s ds _ hx)
  | .tuple ds, _, h => by
    cases h with
    | tup ha hx => exact .tup (s _ _ ha) (Dq.sameAll s ds _ hx)
  | .dict es, _, h => by
    cases h with
    | dic ha hx => exact .dic (s _ _ ha) (Dq.sameKv s es _ hx)
theorem Dq.sameAll (s : Same H H') : ∀ (ds : List PyData) (vs : List V), DqAll K H vs ds → DqAll K H' vs ds
  | [], _, h => by
    cases h
    exact .nil
  | d :: ds, _, h => by
    cases h with
    | cons h1 h2 => exact .cons (Dq.same s d _ h1) (Dq.sameAll s ds _ h2)
theorem Dq.sameKv (s : Same H H') : ∀ (es : List (PyData × PyData)) (kvs : List (Key × V)), DqKv K H kvs es → DqKv K H' kvs es
  | [], _, h => by
    cases h
    exact .nil
  | (kd, d) :: es, _, h => by
    cases h with
    | cons h1 h2 => exact .cons (Dq.same s d _ h1) (Dq.sameKv s es _ h2)
end
theorem dq_rep {v : V} {d : PyData} (h : Dq K H v d) : ∀ n : Nat, DqAll K H (List.replicate n v) (List.replicate n d)
  | 0 => .nil
  | n + 1 => by
    rw [List.replicate_succ, List.replicate_succ]
    exact .cons h (dq_rep h n)
end
/-- data that is small and can be shown -/
structure Sm (d : PyData) (n : Nat) : Prop where
  can : d.showable = true
  short : d.leavesShort 13 = true
  bulk : d.bulk ≤ n
  dep : d.depth ≤ 50
theorem sm_rep {d : PyData} {b : Nat} (h : Sm d b) : ∀ n : Nat, PyData.showableAll (List.replicate n d) = true ∧ PyData.leavesShortAll 13 (List.replicate n d) = true ∧ PyData.bulkAll (List.replicate n d) ≤ n * (b + 1) ∧ PyData.depthAll (List.replicate n d) ≤ 50
  | 0 => ⟨rfl, rfl, by simp [PyData.bulkAll], by simp [PyData.depthAll]⟩
  | n + 1 => by
    obtain ⟨h1, h2, h3, h4⟩ := sm_rep h n
    have q1 := h.can
    have q2 := h.short
    have q3 := h.bulk
    have q4 := h.dep
    rw [List.replicate_succ]
    refine ⟨by simp [PyData.showableAll, q1, h1], by simp [PyData.leavesShortAll, q2, h2], ?_, ?_⟩
    · simp only [PyData.bulkAll]
      rw [Nat.succ_mul]
      omega
    · simp only [PyData.depthAll]
      omega
theorem shows_rep {K : PySem.W.Frag} {H : Hp} {p : Addr} {v : V} {d : PyData} {b n : Nat} (h : Sm d b) (hd : Dq K H v d) (hp : H p = some (.lst (List.replicate n v))) (hb : n * (b + 1) ≤ 1048576) : Shows K H (.ref p) (.list (List.replicate n d)) := by
  obtain ⟨h1, h2, h3, h4⟩ := sm_rep h n
  refine ⟨.lst hp (dq_rep hd n), by simpa [PyData.showable] using h1, by simp only [PyData.depth]; omega, ?_⟩
  exact PyData.shown_fits_bulk (B := 13) (by decide) (by decide) (by simpa [PyData.leavesShort] using h2) (by simp only [PyData.bulk]; have e : (2 : Nat) ^ 20 = 1048576 := by decide
                                                                                                              omega)
end Pl
end L2
set_option Elab.async false
set_option linter.all false
set_option maxRecDepth 100000
set_option maxHeartbeats 2000000
/-! repr of any drawn value; defs under `guards = some []` that call such defs; t[::-1] -/
namespace L2
namespace Pl
open PySem PySem.Spec PyProof.Rows
/-- the text of a flat value -/
inductive FlatT : V → Str → Prop
  | non : FlatT .non "None"
  | bl (b : Bool) : FlatT (.bl b) (if b then "True" else "False")
  | int (i : Int) : i.natAbs.log2 < 1920 → FlatT (.int i) (toString i)
  | str (x : Str) : (reprText x).length ≤ sizeLine → FlatT (.str x) (reprText x)
/-- what repr tells of any value -/
inductive TextV (K : PySem.W.Frag) (H : Hp) : V → Str → Prop
  | flat {v : V} {t : Str} : FlatT v t → TextV K H v t
  | box {a : Addr} {d : PyData} : Shows K H (.ref a) d → TextV K H (.ref a) d.shown
theorem TextV.same {K : PySem.W.Frag} {H H' : Hp} {v : V} {t : Str} (h : TextV K H v t) (m : Same H H') : TextV K H' v t := by
  cases h with
  | flat f => exact .flat f
  | box s => exact .box ⟨Dq.same m _ _ s.dat, s.can, s.dep, s.len⟩
def rText (K : PySem.W.Frag) : List V → Hp → VK → Prop := fun xs H Q => ∃ v t, xs = [v] ∧ TextV K H v t ∧ Q (.str t) H
theorem call_reprU {X : Cx} (hK : SysK X.K) (hg : X.A.guards = some []) (hu : X.A.units + 150 < cLine) : CallR X (.builtin "repr") (rText X.K) := by
  intro pins s σ H xs us Q I r h
  obtain ⟨v, t, rfl, T, q⟩ := h
  cases T with
  | @box a d S =>
    obtain ⟨u, rfl, ru⟩ := vals1 r
    obtain rfl : u = Value.ref a := ru
    obtain ⟨as, rd, ns⟩ := Dq.reads hK I d _ _ S.dat rfl
    have z2 := S.dep
    exact repr_of_reads' rd S.can (fun _ => ns) hg (by omega) (fun _ _ e => e) (fun h' t tk k => ⟨.str d.shown, H, I.kept (t' := tk) k, ⟨t, rfl⟩, q⟩) S.len
  | flat F =>
    obtain ⟨u, rfl, ru⟩ := vals1 r
    cases F with
    | non =>
      obtain rfl : u = Value.none := ru
      exact PySem.P.repr_of_none ⟨.str _, H, I.tok _, ⟨_, rfl⟩, q⟩
    | bl b =>
      obtain rfl : u = Value.bool b := ru
      exact PySem.P.repr_of_bool ⟨.str _, H, I.tok _, ⟨_, rfl⟩, q⟩
    | int i hi =>
      obtain ⟨t, rfl⟩ := ru
      exact PySem.P.repr_of_int hi ⟨.str _, H, I.tok _, ⟨_, rfl⟩, q⟩
    | str x hx =>
      obtain ⟨t, rfl⟩ := ru
      exact PySem.P.repr_of_str (h := ⟨.str _, H, I.tok _, ⟨_, rfl⟩, q⟩) (hsz := hx)
theorem call_reprV {X : Cx} {k : Nat} (hK : SysK X.K) (hg : X.A.guards = some []) (hr : Room k X.A) : CallR X (.builtin "repr") (rText X.K) := call_reprU hK hg (by have := hr.un; omega)
/-! ### a call of a def that wants `guards = some []` -/
section
variable {X : Cx} {CX : CXT} {k : Nat} {f : Addr} {fd : FuncData} {ps : List Str} {sp : Sp} {ds : List Value} {dvs : List V} {E : XK} {x : Str} {p pos : Pos} {e : Expr} {es : List Expr} {t : TA}
theorem run_fnG {pins : List (Addr × Obj)} {σ : St} {H : Hp} {s : Shared} {Q : VK} {us : List Value} {vs : List V} (F : FnG X.prog X.w X.K X.mg X.base CX k f fd ps sp) (hG : X.A.guards = some []) (hr : Room k X.A) (hb : Binds X.K fd ps ds) (hd : Vals dvs ds) (hx : Passes CX X E)
    (I : Inv X pins σ H s) (r : Vals vs us) (h : sp (vs ++ dvs) H Q E) : wpAny (model X.prog X.w) X.A (call (.ref f) us) (EP X pins σ Q) X.xe s := by
  have r2 : Vals (vs ++ dvs) (us ++ ds) := r.append hd
  have hl : (us ++ ds).length = ps.length := by rw [← r2.length]; exact F.len _ _ _ _ h
  refine wpAny_call (codeAny_mono (F.run X.A hG X.stack s H ⟨us, []⟩ (us ++ ds) (vs ++ dvs) Q E hr I.env0 (hb s us I.kIn hl) r2 h) fun r s' hq => ?_)
  cases r with
  | error e => exact hx pins σ H s e s' I hq
  | ok fl =>
    cases fl with
    | ret u => exact I.after hq
    | next => exact False.elim hq
    | brk => exact False.elim hq
    | cont => exact False.elim hq
theorem pe_callG (F : FnG X.prog X.w X.K X.mg X.base CX k f fd ps sp) (hG : X.A.guards = some []) (hr : Room k X.A) (hg : Gl X x) (hm : X.mg x = some (.ref f)) (hk : PySem.W.keepIn X.K (.ref f) = true) (hb : Binds X.K fd ps ds) (hd : Vals dvs ds) (hx : Passes CX X E)
    (ha : PA X (e :: es) t) (hdb : (x == ("__debug__" : Str)) = false := by decide) (he : starEach (e :: es) X.env = (false, eval e X.env) :: starEach es X.env := by rfl) (hpl : (backTo pos (starEach es X.env)).any (·.1) = false := by rfl) :
    PE X (.Call (.Name x p) (e :: es) [] pos) (tCall sp dvs E t) := by
  refine ⟨fun pins s σ H Q I h => ?_⟩
  refine wpAny_Call_Name_kw (ld_glob I hg hm ?_ hdb)
  refine PySem.W.callWith_K (h₀ := X.base) I.ok.mod.kin hk (thn (ha.run pos pins s σ H _ I h) fun us s1 ⟨vs, H1, I1, r, q⟩ => ⟨I1.kIn, ?_⟩) he hpl
  exact run_fnG F hG hr hb hd hx I1 r q
end
end Pl
end L2
set_option Elab.async false
set_option linter.all false
set_option maxRecDepth 100000
set_option maxHeartbeats 2000000
namespace L2
namespace Pl
open PySem PySem.Spec PyProof.Rows
/-- data that is small and can be shown -/
structure Sz (d : PyData) (n e : Nat) : Prop where
  can : d.showable = true
  short : d.leavesShort 40 = true
  bulk : d.bulk ≤ n
  dep : d.depth ≤ e
def DatV (K : PySem.W.Frag) (H : Hp) (n e : Nat) (v : V) : Prop := ∃ d, Dq K H v d ∧ Sz d n e
theorem DatV.same {K : PySem.W.Frag} {H H' : Hp} {n e : Nat} {v : V} (h : DatV K H n e v) (m : Same H H') : DatV K H' n e v := by
  obtain ⟨d, h1, h2⟩ := h
  exact ⟨d, Dq.same m _ _ h1, h2⟩
theorem DatV.more {K : PySem.W.Frag} {H : Hp} {n e n2 e2 : Nat} {v : V} (h : DatV K H n e v) (h1 : n ≤ n2) (h2 : e ≤ e2) : DatV K H n2 e2 v := by
  obtain ⟨d, g, s⟩ := h
  exact ⟨d, g, s.can, s.short, Nat.le_trans s.bulk h1, Nat.le_trans s.dep h2⟩
theorem datAll {K : PySem.W.Frag} {H : Hp} {n e : Nat} : ∀ {xs : List V}, (∀ x ∈ xs, DatV K H n e x) → ∃ ds, DqAll K H xs ds ∧ PyData.showableAll ds = true ∧ PyData.leavesShortAll 40 ds = true ∧ PyData.bulkAll ds ≤ xs.length * (n + 1) ∧ PyData.depthAll ds ≤ e
  | [], _ => ⟨[], .nil, rfl, rfl, by simp [PyData.bulkAll], by simp [PyData.depthAll]⟩
  | x :: xs, h => by
    obtain ⟨ds, h1, h2, h3, h4, h5⟩ := datAll (xs := xs) fun y hy => h y (List.mem_cons_of_mem _ hy)
    obtain ⟨d, g, s⟩ := h x (List.mem_cons_self ..)
    have q1 := s.can
    have q2 := s.short
    have q3 := s.bulk
    have q4 := s.dep
    refine ⟨d :: ds, .cons g h1, by simp [PyData.showableAll, q1, h2], by simp [PyData.leavesShortAll, q2, h3], ?_, ?_⟩
    · simp only [PyData.bulkAll, List.length_cons]
      rw [Nat.succ_mul]
      omega
    · simp only [PyData.depthAll]
      omega
theorem DatV.lst {K : PySem.W.Frag} {H : Hp} {n e : Nat} {a : Addr} {xs : List V} (ha : H a = some (.lst xs)) (h : ∀ x ∈ xs, DatV K H n e x) : DatV K H (xs.length * (n + 1)) (e + 1) (.ref a) := by
  obtain ⟨ds, h1, h2, h3, h4, h5⟩ := datAll h
  exact ⟨.list ds, .lst ha h1, by simpa [PyData.showable] using h2, by simpa [PyData.leavesShort] using h3, by simpa only [PyData.bulk] using h4, by simp only [PyData.depth]; omega⟩
theorem DatV.tup {K : PySem.W.Frag} {H : Hp} {n e : Nat} {a : Addr} {xs : List V} (ha : H a = some (.tup xs)) (h : ∀ x ∈ xs, DatV K H n e x) : DatV K H (xs.length * (n + 1)) (e + 1) (.ref a) := by
  obtain ⟨ds, h1, h2, h3, h4, h5⟩ := datAll h
  exact ⟨.tuple ds, .tup ha h1, by simpa [PyData.showable] using h2, by simpa [PyData.leavesShort] using h3, by simpa only [PyData.bulk] using h4, by simp only [PyData.depth]; omega⟩
theorem DatV.dic {K : PySem.W.Frag} {H : Hp} {a : Addr} (ha : H a = some (.dK [])) : DatV K H 0 1 (.ref a) :=
  ⟨.dict [], .dic ha .nil, by decide +kernel, by decide +kernel, by decide +kernel, by decide +kernel⟩
/-- a flat value that is shown short -/
def flatD : V → Option PyData
  | .non => some .none
  | .bl b => some (.bool b)
  | .int i => some (.int i)
  | .str x => some (.str x)
  | _ => none
def flatOk (v : V) : Bool := match flatD v with
  | some d => d.showable && d.leavesShort 40 && decide (d.bulk ≤ 8) && decide (d.depth ≤ 0)
  | none => false
theorem DatV.flat {K : PySem.W.Frag} {H : Hp} {v : V} (h : flatOk v = true) : DatV K H 8 0 v := by
  unfold flatOk at h
  have g : ∀ {d : PyData}, (d.showable && d.leavesShort 40 && decide (d.bulk ≤ 8) && decide (d.depth ≤ 0)) = true → Sz d 8 0 := fun {d} z => by
    simp only [Bool.and_eq_true, decide_eq_true_iff] at z
    exact ⟨z.1.1.1, z.1.1.2, z.1.2, z.2⟩
  cases v with
  | non => exact ⟨_, .non, g h⟩
  | bl b => exact ⟨_, .bl b, g h⟩
  | int i => exact ⟨_, .int i, g h⟩
  | str x => exact ⟨_, .str x, g h⟩
  | _ => cases h
theorem Sz.fits {d : PyData} {n e : Nat} (s : Sz d n e) (hn : n ≤ 100000) : d.shown.length ≤ sizeLine := by
  have h := PyData.shown_le_bulk 40 (by decide) d s.short
  have h2 : (40 + 2) * d.bulk ≤ 42 * 100000 := Nat.mul_le_mul (by omega) (Nat.le_trans s.bulk hn)
  rw [sizeLine_eq]
  omega
theorem DatV.text {K : PySem.W.Frag} {H : Hp} {n e : Nat} {v : V} (h : DatV K H n e v) (hn : n ≤ 100000) (he : e ≤ 100) : ∃ t, TextV K H v t := by
  obtain ⟨d, g, s⟩ := h
  have f := s.fits hn
  have c := s.can
  have e1 := s.dep
  cases g with
  | non => exact ⟨_, .flat .non⟩
  | bl b => exact ⟨_, .flat (.bl b)⟩
  | int i => exact ⟨_, .flat (.int i (by simpa [PyData.showable] using c))⟩
  | str x => exact ⟨_, .flat (.str x (by simpa [PyData.shown] using f))⟩
  | lst ha hx => exact ⟨_, .box ⟨.lst ha hx, c, by omega, f⟩⟩
  | tup ha hx => exact ⟨_, .box ⟨.tup ha hx, c, by omega, f⟩⟩
  | dic ha hx => exact ⟨_, .box ⟨.dic ha hx, c, by omega, f⟩⟩
/-- two boxes of one data: one text -/
theorem text_two {K : PySem.W.Frag} {H : Hp} {n e : Nat} {a b : Addr} {d : PyData} (ha : Dq K H (.ref a) d) (hb : Dq K H (.ref b) d) (s : Sz d n e) (hn : n ≤ 100000) (he : e ≤ 100) : TextV K H (.ref a) d.shown ∧ TextV K H (.ref b) d.shown := by
  have e1 := s.dep
  exact ⟨.box ⟨ha, s.can, by omega, s.fits hn⟩, .box ⟨hb, s.can, by omega, s.fits hn⟩⟩
end Pl
end L2
set_option Elab.async false
set_option linter.all false
set_option maxRecDepth 100000
set_option maxHeartbeats 4000000
namespace L2
namespace Pl
open PySem PySem.Spec PyProof.Rows
/-- the data of a row: a list of tuples of words -/
def wsD (ws : List Str) : List PyData := ws.map PyData.str
def rowsD (rows : List (List Str)) : PyData := .list (rows.map fun ws => .tuple (wsD ws))
def wgW (ws : List Str) : Nat := (ws.map fun w => w.length + 1).sum
def wgR (rows : List (List Str)) : Nat := (rows.map fun ws => wgW ws + 1).sum
theorem dq_ws {K : PySem.W.Frag} {H : Hp} : ∀ {ws : List Str}, DqAll K H (sV ws) (wsD ws)
  | [] => .nil
  | w :: ws => .cons (.str w) dq_ws
theorem dq_rowsA {K : PySem.W.Frag} {H : Hp} : ∀ {ts : List Addr} {rows : List (List Str)}, Paired (fun t ws => H t = some (.tup (sV ws))) ts rows → DqAll K H (ts.map V.ref) (rows.map fun ws => .tuple (wsD ws))
  | _, _, .nil => .nil
  | _, _, .cons h t => .cons (.tup h dq_ws) (dq_rowsA t)
theorem dq_rows {K : PySem.W.Frag} {H : Hp} {p : Addr} {rows : List (List Str)} (h : RowAt H p rows) : Dq K H (.ref p) (rowsD rows) := by
  obtain ⟨ts, hp, pr⟩ := h
  exact .lst hp (dq_rowsA pr)
theorem wsD_can : ∀ ws : List Str, PyData.showableAll (wsD ws) = true
  | [] => rfl
  | w :: ws => by
    show (PyData.showable (.str w) && PyData.showableAll (wsD ws)) = true
    rw [wsD_can ws]
    rfl
theorem asc_short {w : Str} (h : AscS w) : PyData.leavesShort 40 (.str w) = true := by
  simp only [PyData.leavesShort, List.all_eq_true, decide_eq_true_eq]
  intro c hc
  have := h c hc
  omega
theorem wsD_short : ∀ {ws : List Str}, (∀ w ∈ ws, AscS w) → PyData.leavesShortAll 40 (wsD ws) = true
  | [], _ => rfl
  | w :: ws, h => by
    show (PyData.leavesShort 40 (.str w) && PyData.leavesShortAll 40 (wsD ws)) = true
    rw [wsD_short fun x hx => h x (List.mem_cons_of_mem _ hx), asc_short (h w (List.mem_cons_self ..))]
    rfl
theorem wsD_bulk : ∀ ws : List Str, PyData.bulkAll (wsD ws) = wgW ws
  | [] => rfl
  | w :: ws => by
    show PyData.bulk (.str w) + 1 + PyData.bulkAll (wsD ws) = _
    rw [wsD_bulk ws]
    unfold wgW
    rw [List.map_cons, List.sum_cons]
    rfl
theorem wsD_dep : ∀ ws : List Str, PyData.depthAll (wsD ws) ≤ 0
  | [] => by simp [wsD, PyData.depthAll]
  | w :: ws => by
    have := wsD_dep ws
    show PyData.depthAll (.str w :: wsD ws) ≤ 0
    simp only [PyData.depthAll, PyData.depth]
    omega
theorem rowsD_all : ∀ {rows : List (List Str)}, (∀ ws ∈ rows, ∀ w ∈ ws, AscS w) → PyData.showableAll (rows.map fun ws => .tuple (wsD ws)) = true ∧ PyData.leavesShortAll 40 (rows.map fun ws => .tuple (wsD ws)) = true ∧ PyData.bulkAll (rows.map fun ws => .tuple (wsD ws)) = wgR rows ∧ PyData.depthAll (rows.map fun ws => .tuple (wsD ws)) ≤ 1
  | [], _ => ⟨rfl, rfl, rfl, by simp [PyData.depthAll]⟩
  | ws :: rows, h => by
    obtain ⟨h1, h2, h3, h4⟩ := rowsD_all fun x hx => h x (List.mem_cons_of_mem _ hx)
    have g1 := wsD_can ws
    have g2 := wsD_short (h ws (List.mem_cons_self ..))
    have g3 := wsD_bulk ws
    have g4 := wsD_dep ws
    rw [List.map_cons]
    refine ⟨by simp [PyData.showableAll, PyData.showable, g1, h1], by simp [PyData.leavesShortAll, PyData.leavesShort, g2, h2], ?_, ?_⟩
    · simp only [PyData.bulkAll, PyData.bulk]
      rw [h3, g3]
      unfold wgR
      rw [List.map_cons, List.sum_cons]
    · simp only [PyData.depthAll, PyData.depth]
      omega
theorem sz_rows {rows : List (List Str)} (h : ∀ ws ∈ rows, ∀ w ∈ ws, AscS w) {n : Nat} (hn : wgR rows ≤ n) : Sz (rowsD rows) n 2 := by
  obtain ⟨h1, h2, h3, h4⟩ := rowsD_all h
  exact ⟨by simpa only [rowsD, PyData.showable] using h1, by simpa only [rowsD, PyData.leavesShort] using h2, by
    show PyData.bulk (.list _) ≤ n
    rw [PyData.bulk, h3]
    exact hn, by
    show PyData.depth (.list _) ≤ 2
    rw [PyData.depth]
    omega⟩
theorem wgW_split (l : Str) : wgW (wdsOf l) ≤ l.length + 1 := by
  have h := split_weight l " " sp1
  have e : ∀ ws : List Str, wgW ws = (ws.map (·.length)).sum + ws.length := by
    intro ws
    induction ws with
    | nil => rfl
    | cons w ws ih =>
      unfold wgW at ih ⊢
      rw [List.map_cons, List.sum_cons, ih, List.map_cons, List.sum_cons, List.length_cons]
      omega
  rw [e]
  exact h
theorem wgR_text (t : Str) : wgR ((lnsOf t).map wdsOf) ≤ 2 * t.length + 3 := by
  have h := split_weight t "\n" nl1
  have h2 : ∀ ls : List Str, wgR (ls.map wdsOf) ≤ (ls.map (·.length)).sum + 2 * ls.length := by
    intro ls
    induction ls with
    | nil => simp [wgR]
    | cons l r ih =>
      have := wgW_split l
      unfold wgR at ih ⊢
      rw [List.map_cons, List.map_cons, List.sum_cons, List.map_cons, List.sum_cons, List.length_cons]
      omega
  have h3 := h2 (lnsOf t)
  have h4 : ((lnsOf t).map (·.length)).sum + (lnsOf t).length ≤ t.length + 1 := h
  omega
theorem wgR_small : ∀ {evs : List (List Str)}, (∀ ws ∈ evs, EvS ws) → wgR evs ≤ 28 * evs.length
  | [], _ => by simp [wgR]
  | ws :: r, h => by
    have h1 := wgR_small fun x hx => h x (List.mem_cons_of_mem _ hx)
    have s := h ws (List.mem_cons_self ..)
    have h2 : wgW ws ≤ ws.length * 9 := by
      have := sum_le (n := 9) (l := ws.map fun w => w.length + 1) fun x hx => by
        obtain ⟨w, hw, rfl⟩ := List.mem_map.mp hx
        have := s.len w hw
        omega
      rwa [List.length_map] at this
    have h3 := s.few
    unfold wgR at h1 ⊢
    rw [List.map_cons, List.sum_cons, List.length_cons]
    omega
/-- the data of an answer -/
def resD : List (List Str) ⊕ Nat → PyData
  | .inl rows => rowsD rows
  | .inr n => .tuple [.int (n : Int)]
theorem dq_res {K : PySem.W.Frag} {H : Hp} {p : Addr} {r : List (List Str) ⊕ Nat} (h : ResR H p r) : Dq K H (.ref p) (resD r) := by
  cases r with
  | inl rows => exact dq_rows h
  | inr n => exact .tup h (.cons (.int _) .nil)
theorem numStr_len {n : Nat} (h : n ≤ 99999) : (PyData.shown (.int (n : Int))).length ≤ 40 := by
  have h2 := int_text_length_le10 (a := (n : Int)) (k := 5) (by decide) (by omega)
  show (Str.ofString (toString (n : Int))).length ≤ 40
  rw [PySem.ofString_length]
  omega
theorem sz_num {n : Nat} (h : n ≤ 99999) : Sz (.tuple [.int (n : Int)]) 100000 2 := by
  have h1 := numStr_len h
  refine ⟨?_, ?_, ?_, ?_⟩
  · have : (n : Nat).log2 < 1920 := by
      rcases Nat.eq_zero_or_pos n with rfl | z
      · decide
      · rw [Nat.log2_lt (by omega)]
        exact Nat.lt_of_le_of_lt h (Nat.lt_of_lt_of_le (by decide : 99999 < 2 ^ 17) (Nat.pow_le_pow_right (by decide) (by decide)))
    simp [PyData.showable, PyData.showableAll, this]
  · simpa [PyData.leavesShort, PyData.leavesShortAll] using h1
  · simp [PyData.bulk, PyData.bulkAll]
  · simp [PyData.depth, PyData.depthAll]
/-- a plain text -/
def PlainV (v : V) : Prop := ∀ t, v = .str t → AscS t
theorem sz_due {K : PySem.W.Frag} {H : Hp} {ds : List Str} {v : V} {r : List (List Str) ⊕ Nat} (h : DueR K H ds v r) (ha : PlainV v) : Sz (resD r) 100000 2 := by
  rcases h with ⟨_, rfl⟩ | ⟨t, rfl, ht, rk⟩
  · exact sz_num (by decide)
  · have at_ := ha t rfl
    cases rk with
    | nil => exact sz_rows (rows := []) (fun ws hw => (nomatch hw)) (by simp [wgR])
    | all _ _ =>
      refine sz_rows (fun ws hw w hw2 => ?_) (by have := wgR_text t; omega)
      obtain ⟨l, hl, rfl⟩ := List.mem_map.mp hw
      exact asc_split (asc_split at_ hl) hw2
    | @bad i l _ h1 _ _ =>
      have h2 := (List.getElem?_eq_some_iff.mp h1).1
      have h3 := split_le t "\n"
      have h4 : (lnsOf t).length ≤ t.length + 2 := h3
      exact sz_num (by omega)
/-- a store as it stands when the source is away -/
theorem StAt.del {C : Addr} {H : Hp} {x so : Addr} {b : Sd} (h : StAt C H x b) (s : Src H so) : StAt C (del H so) x b := by
  obtain ⟨dx, ts, td, dl, dk, es, h1, h2, h3, h4, h5, h6⟩ := h
  obtain ⟨i, j, hs⟩ := s
  have ne : ∀ {p : Addr} {o : HO}, H p = some o → (∀ xs, o ≠ .lst xs) → (L2.del H so) p = some o := fun {p o} hp no => del_of (fun z => by subst z; exact no _ (Option.some.inj (hp.symm.trans hs))) hp
  exact ⟨dx, ts, td, dl, dk, es, ne h1 (fun _ z => nomatch z), ne h2 (fun _ z => nomatch z), ne h3 (fun _ z => nomatch z), ne h4 (fun _ z => nomatch z), h5.mono fun _ _ q => ⟨q.1, ne q.2 (fun _ z => nomatch z)⟩, ne h6 (fun _ z => nomatch z)⟩
theorem RowsD.at {H : Hp} {s p : Addr} {ts : List Addr} {evs : List (List Str)} (h : RowsD H s ts evs) (hp : H p = some (.lst (ts.map V.ref))) : RowAt H p evs := ⟨ts, hp, h.mono fun _ _ q => (del_some q).2⟩
end Pl
end L2
set_option Elab.async false
set_option linter.all false
set_option maxRecDepth 100000
set_option maxHeartbeats 4000000
/-! the head, with the defs behind properties -/
namespace L2
namespace Pl
open PySem PySem.Spec PyProof.Rows
abbrev PrD : Type := (Str × Str) × He.DefD
/-- the def behind the property q.2 of the class q.1 -/
def gAd (K : Fr) (q : Str × Str) : Addr := match PySem.W.recIn K (He.ma K (He.ga K q.1) q.2) "property" with
  | some (.ref g :: _) => g
  | _ => 0
def fnAt (K : Fr) (a : Addr) : He.FnW := match K.lookup a with
  | some ob => (match ob.data with
    | .func u => some (u.name, u.qualname, u.params, u.body, u.scope, u.globals, u.closure, u.builtins)
    | _ => none)
  | none => none
def goodAt (K : Fr) (a : Addr) (d : He.DefD) : Bool := PySem.W.keepIn K (.ref a) && (match K.lookup a with
  | some ob => (match ob.data with
    | .func u => PySem.W.codeIn K u.code d.qual && (He.dflB K u.defaults (d.dvs K) && He.kwdB K u.kwdefaults (d.kws K))
    | _ => false)
  | none => false)
theorem funAt {K : Fr} {a : Addr} {d : He.DefD} (e : fnAt K a = d.val) (c : goodAt K a d = true) : ∃ fd, FunD K d.name d.qual d.params d.body d.scope (d.dvs K) (d.kws K) a fd := by
  obtain ⟨kp, c⟩ := He.ba c
  unfold fnAt at e
  cases q : K.lookup a with
  | none =>
    simp only [q] at e
    cases e
  | some ob =>
    simp only [q] at e c
    obtain ⟨oc, od, dt, sl⟩ := ob
    cases dt with
    | func u =>
      obtain ⟨u1, u2, u3, u4, u5, u6, u7, u8, u9, u10, u11, u12, u13, u14, u15⟩ := u
      simp only [He.DefD.val, Option.some.injEq, Prod.mk.injEq] at e
      obtain ⟨z1, z2, z3, z4, z5, z6, z7, z8⟩ := e
      dsimp only at c
      obtain ⟨k1, c⟩ := He.ba c
      obtain ⟨k2, k3⟩ := He.ba c
      subst z1 z2 z3 z4 z5 z6 z7 z8
      refine ⟨_, ⟨oc, od, u8, u9, u10, u11, u12, u13, u14, sl, rfl, q, k1, ?_, ?_⟩, kp⟩
      · exact He.dflB_ok k2
      · exact He.kwdB_ok k3
    | _ => cases e
def propB (K : Fr) (q : Str × Str) : Bool :=
  isB (PySem.W.findIn K (.ref (He.ga K q.1)) q.2) (some (some (.ref (He.ma K (He.ga K q.1) q.2)))) && (isB (PySem.W.specialIn K (.ref (He.ma K (He.ga K q.1) q.2)) "__get__") (some (some (.builtin "property.__get__"))) && (decide (PySem.W.takesIn K (.ref (He.ma K (He.ga K q.1) q.2)) = some true) &&
  (match PySem.W.recIn K (He.ma K (He.ga K q.1) q.2) "property" with
    | some (.ref _ :: _) => true
    | _ => false)))
theorem prop_ok {K : Fr} {q : Str × Str} (h : propB K q = true) : PropOf K (He.ga K q.1) q.2 (He.ma K (He.ga K q.1) q.2) (gAd K q) := by
  obtain ⟨h1, h⟩ := He.ba h
  obtain ⟨h2, h⟩ := He.ba h
  obtain ⟨h3, h4⟩ := He.ba h
  refine ⟨of_decide_eq_true h1, of_decide_eq_true h2, of_decide_eq_true h3, ?_⟩
  unfold gAd
  split at h4
  · rename_i g r e
    simp only [e]
    exact ⟨r, rfl⟩
  · cases h4
abbrev AlQ : Type := AlP × Bool × List He.FnW
def obsQK (fa : List He.Fa) (fn : List He.DefD) (pr : List PrD) (ex : Fr → Bool) (K : Fr) : AlQ := ((He.obsD fa fn K, ex K), (pr.all fun p => propB K p.1 && goodAt K (gAd K p.1) p.2), pr.map fun p => fnAt K (gAd K p.1))
def obsQ (n : Nat) (fa : List He.Fa) (fn : List He.DefD) (pr : List PrD) (ex : Fr → Bool) (g : Addr → Option Obj) : AlQ := obsQK fa fn pr ex (fragP n g)
structure SaysQ (fa : List He.Fa) (fn : List He.DefD) (pr : List PrD) (ex : Fr → Bool) (K : Fr) : Prop where
  d : He.SaysD fa fn K
  more : ex K = true
  ok : (pr.all fun p => propB K p.1 && goodAt K (gAd K p.1) p.2) = true
  defs : (pr.map fun p => fnAt K (gAd K p.1)) = pr.map fun p => p.2.val
def hookQ (n : Nat) (fa : List He.Fa) (fn : List He.DefD) (pr : List PrD) (ex : Fr → Bool) : PySem.W.Hook where
  α := AlQ
  obs := fun s => obsQ n fa fn pr ex s.heap.get?
  val := fun _ => ((He.valD fn, true), true, pr.map fun p : PrD => He.DefD.val p.2)
  says := fun _ h => ∃ K : Fr, K.In h ∧ SaysQ fa fn pr ex K
  of := fun _ _ e => ⟨_, He.frG_in, congrArg (fun z : AlQ => z.1.1) e, congrArg (fun z : AlQ => z.1.2) e, congrArg (fun z : AlQ => z.2.1) e, congrArg (fun z : AlQ => z.2.2) e⟩
  keeps := fun _ _ _ ⟨K, hK, c⟩ k => ⟨K, PySem.W.Frag.In.keeps hK k, c⟩
theorem obsQ_eq {n : Nat} {fa : List He.Fa} {fn : List He.DefD} {pr : List PrD} {ex : Fr → Bool} {g : Addr → Option Obj} {s : Shared} (h : ∀ a, g a = s.heap.get? a) : obsQ n fa fn pr ex g = (hookQ n fa fn pr ex).obs s := by
  have e : g = s.heap.get? := funext h
  rw [e] <;> rfl
theorem SaysQ.prop {fa : List He.Fa} {fn : List He.DefD} {pr : List PrD} {ex : Fr → Bool} {K : Fr} (c : SaysQ fa fn pr ex K) (i : Nat) {p : PrD} (h : pr[i]? = some p := by rfl) :
    PropOf K (He.ga K p.1.1) p.1.2 (He.ma K (He.ga K p.1.1) p.1.2) (gAd K p.1) ∧ ∃ fd, FunD K p.2.name p.2.qual p.2.params p.2.body p.2.scope (p.2.dvs K) (p.2.kws K) (gAd K p.1) fd := by
  obtain ⟨h1, h2⟩ := He.ba (List.all_eq_true.mp c.ok p (List.mem_of_getElem? h))
  have e : (pr.map fun p => fnAt K (gAd K p.1))[i]? = (pr.map fun p => p.2.val)[i]? := by rw [c.defs]
  rw [List.getElem?_map, List.getElem?_map, h] at e
  exact ⟨prop_ok h1, funAt (Option.some.inj e) h2⟩
/-! ### Store's own class, as the laws ask -/
def storeB (K : Fr) : Bool :=
  let C := He.ga K "Store"
  isB (PySem.W.findIn K (.ref C) "__class__") (some (some (.builtin "object.__class__"))) && (isB (PySem.W.specialIn K (.builtin "object.__class__") "__get__") (some (some (.builtin "getset_descriptor.__get__"))) && (decide (PySem.W.takesIn K (.builtin "object.__class__") = some true) && (decide (PySem.W.mroIn K C (.type "object") = some true) &&
  (decide (PySem.W.kitOne K (.ref C) (.ref C) = some true) && (isB (PySem.W.findIn K (.ref C) "__eq__") (some (some (.ref (He.ma K C "__eq__")))) && (PySem.W.isFn K (.ref (He.ma K C "__eq__")) && isB (PySem.W.findIn K (.ref C) "__ne__") (some (some (.builtin "object.__ne__")))))))))
def raB (K : Fr) (x f : Str) : Bool := excB K x f && xfB K (He.ga K x)
end Pl
end L2
set_option Elab.async false
set_option linter.all false
set_option maxRecDepth 100000
set_option maxHeartbeats 8000000
namespace L2
namespace Pl
open PySem PySem.Spec PyProof.Rows
theorem ite_cont2 {b : Bool} {A : Prop} {R : Addr → Hp → Prop} {p : Addr} {H1 : Hp} (P : Addr → Hp → Prop) (cont : ∀ p H, P p H → R p H) (hA : b = true → (∀ p H, P p H → R p H) → A) (hB : b = false → P p H1) : if b = true then A else R p H1 := by
  cases b with
  | true => exact iteT (hA rfl cont)
  | false => exact iteF (cont _ _ (hB rfl))
theorem Mv.over {H H' : Hp} {s : Addr} {o : HO} (hs : H s = none) (m : Mv s (upd H s o) H') : Same H H' := fun b x e => m.get (ne_of_none e hs) ((upd_ne (ne_of_none e hs)).trans e)
def RowI (H : Hp) (so p : Addr) (evs : List (List Str)) : Prop := p ≠ so ∧ (∃ ts, H p = some (.lst (ts.map V.ref)) ∧ RowsD H so ts evs) ∧ (∀ ws ∈ evs, EvD ws) ∧ evs.length ≤ 47
theorem deedsOf (b : Bd) : (sdOf b).deeds = b.deeds.map (·.1) := by
  show (List.map _ _).map _ = _
  rw [List.map_map]
  rfl
theorem paired_app {α β : Type} {F : α → β → Prop} : ∀ {xs : List α} {ys : List β} {xs2 : List α} {ys2 : List β}, Paired F xs ys → Paired F xs2 ys2 → Paired F (xs ++ xs2) (ys ++ ys2)
  | _, _, _, _, .nil, h => h
  | _, _, _, _, .cons a t, h => .cons a (paired_app t h)
theorem paired_flat {α β : Type} {F : α → β → Prop} {xs : List α} {ys : List β} (h : Paired F xs ys) : ∀ n : Nat, Paired F (List.replicate n xs).flatten (List.replicate n ys).flatten
  | 0 => .nil
  | n + 1 => by
    rw [List.replicate_succ, List.replicate_succ, List.flatten_cons, List.flatten_cons]
    exact paired_app h (paired_flat h n)
theorem flat_map_ref {ts : List Addr} (n : Nat) : (List.replicate n (ts.map V.ref)).flatten = ((List.replicate n ts).flatten).map V.ref := by
  induction n with
  | zero => rfl
  | succ n ih => rw [List.replicate_succ, List.replicate_succ, List.flatten_cons, List.flatten_cons, ih, List.map_append]
theorem ResR.mv {H H' : Hp} {so p : Addr} {r : List (List Str) ⊕ Nat} (h : ResR H p r) (s : Src H so) (n : p ≠ so) (m : Mv so H H') : ResR H' p r := by
  cases r with
  | inr k => exact m.get n h
  | inl rows =>
    obtain ⟨ts, hp, pr⟩ := h
    obtain ⟨i, j, hs⟩ := s
    exact ⟨ts, m.get n hp, pr.mono fun t ws q => m.get (fun z => by subst z; rw [hs] at q; cases q) q⟩
theorem res_len {K : PySem.W.Frag} {H : Hp} {ds : List Str} {v : V} {rows : List (List Str)} (h : DueR K H ds v (.inl rows)) : rows.length ≤ 12002 := by
  rcases h with ⟨_, e⟩ | ⟨t, rfl, ht, rk⟩
  · cases e
  · have h3 := split_le t "\n"
    cases rk with
    | nil => simp
    | all _ _ =>
      rw [List.length_map]
      have h4 : (lnsOf t).length ≤ t.length + 2 := h3
      omega
theorem text_of_res {K : PySem.W.Frag} {H : Hp} {p : Addr} {r : List (List Str) ⊕ Nat} (h : ResR H p r) (s : Sz (resD r) 100000 2) : TextV K H (.ref p) (resD r).shown := .box ⟨dq_res h, s.can, by have := s.dep; omega, s.fits (by decide)⟩
def isRow : List (List Str) ⊕ Nat → Bool
  | .inl _ => true
  | .inr _ => false
theorem kitLL {K : PySem.W.Frag} : PySem.W.kitOne K (.type "list") (.type "list") = some true := kit_ty (by decide +kernel)
theorem kitTL {K : PySem.W.Frag} : PySem.W.kitOne K (.type "tuple") (.type "list") = some false := kit_ty (by decide +kernel)
theorem res_ty {K : PySem.W.Frag} {H : Hp} {p : Addr} {r : List (List Str) ⊕ Nat} (h : ResR H p r) : ∃ t, TyX K H (.ref p) t ∧ PySem.W.kitOne K t (.type "list") = some (isRow r) := by
  cases r with
  | inl rows =>
    obtain ⟨ts, hp, _⟩ := h
    exact ⟨_, .base (.lst hp), kitLL⟩
  | inr n => exact ⟨_, .base (.tup h), kitTL⟩
theorem notStr_non {K : PySem.W.Frag} {H : Hp} : NotStr K H .non := ⟨_, .base .non, kit_ty (by decide +kernel)⟩
theorem notStr_int {K : PySem.W.Frag} {H : Hp} {i : Int} : NotStr K H (.int i) := ⟨_, .base (.int i), kit_ty (by decide +kernel)⟩
theorem notStr_bl {K : PySem.W.Frag} {H : Hp} {i : Bool} : NotStr K H (.bl i) := ⟨_, .base (.bl i), kit_ty (by decide +kernel)⟩
theorem notStr_lst {K : PySem.W.Frag} {H : Hp} {a : Addr} {xs : List V} (h : H a = some (.lst xs)) : NotStr K H (.ref a) := ⟨_, .base (.lst h), kit_ty (by decide +kernel)⟩
theorem notStr_tup {K : PySem.W.Frag} {H : Hp} {a : Addr} {xs : List V} (h : H a = some (.tup xs)) : NotStr K H (.ref a) := ⟨_, .base (.tup h), kit_ty (by decide +kernel)⟩
theorem notStr_dK {K : PySem.W.Frag} {H : Hp} {a : Addr} {kvs : List (Key × V)} (h : H a = some (.dK kvs)) : NotStr K H (.ref a) := ⟨_, .base (.dK h), kit_ty (by decide +kernel)⟩
/-- what is asked about: a plain text, or none -/
theorem due_str (ds : List Str) {t : Str} {n : Nat} (h : TxtOk n t) (hn : n ≤ 12000) : ∃ r, PlainV (.str t) ∧ ∀ K H, DueR K H ds (.str t) r := by
  obtain ⟨r, hr⟩ := rd_ex ds t
  exact ⟨r, fun t2 e => by
    injection e with e
    rw [← e]
    exact h.1, fun _ _ => .inr ⟨t, rfl, Nat.le_trans h.2 hn, hr⟩⟩
def spLawT (K : PySem.W.Frag) : Sp := fun vs H Q _ => ∃ (a : Addr) (ns : List Int), vs = [.ref a] ∧ SqL K H a (ns.map V.int) ∧ ns.length ≤ 63 ∧ (∀ z ∈ ns, Builtin.Int.intBits z ≤ 1048576) ∧ ∀ H', Q (.bl true) H'
end Pl
end L2
set_option Elab.async false
set_option linter.all false
set_option maxRecDepth 100000
set_option maxHeartbeats 8000000
namespace Bs
open PySem PySem.Spec PyProof.Rows L2 L2.Pl
section
variable {P : Program} {w : World} {K : PySem.W.Frag} {mg : Str → Option Value} {base : Heap} {f : Addr} {fd : FuncData}
abbrev NLaw : List Str := ["script", "start", "source", "base", "store", "turn", "row", "text", "seen", "bent", "thing", "due", "lap", "told", "event"]
theorem scLaw : FnScope NLaw ["script"] (defScope sLaw) := ⟨rfl, rfl, rfl, by decide +kernel, rfl, by decide +kernel, by decide +kernel⟩
theorem ok_law {C : Addr} (G : Gn mg) (hSys : SysK K) (hSo : Has P w K mg base CX0 "_law_source" 1 ["script", "start"] (spSource K)) (hB : Has P w K mg base CX0 "_law_base" 5 ["source", "most"] (spBase K)) (hM : Has P w K mg base CX0 "_law_made" 6 ["base"] (spMade K C)) (hDr : Has P w K mg base CX0 "_law_drawn" 4 ["source", "base"] (spDrawnR K)) (hDe : Has P w K mg base CX0 "_law_deeds" 1 ["base"] (spDeeds K))
    (hRt : Has P w K mg base CX0 "row_text" 1 ["row"] (spRowText K)) (hBe : Has P w K mg base CX0 "_law_bent" 3 ["source", "text"] spBent) (hDu : Has P w K mg base CX0 "_law_due" 3 ["base", "text"] (spDueT K)) (hTo : Has P w K mg base CX0 "_law_told" 5 ["store", "text"] (spToldR K C)) (F : FnP K "law" sLaw f fd) : FnG P w K mg base CX0 7 f fd ["script"] (spLawT K) := by
  obtain ⟨fSo, dSo, oSo, bSo, gSo, kSo⟩ := hSo.ex
  obtain ⟨fB, dB, oB, bB, gB, kB⟩ := hB.ex
  obtain ⟨fM, dM, oM, bM, gM, kM⟩ := hM.ex
  obtain ⟨fDr, dDr, oDr, bDr, gDr, kDr⟩ := hDr.ex
  obtain ⟨fDe, dDe, oDe, bDe, gDe, kDe⟩ := hDe.ex
  obtain ⟨fRt, dRt, oRt, bRt, gRt, kRt⟩ := hRt.ex
  obtain ⟨fBe, dBe, oBe, bBe, gBe, kBe⟩ := hBe.ex
  obtain ⟨fDu, dDu, oDu, bDu, gDu, kDu⟩ := hDu.ex
  obtain ⟨fTo, dTo, oTo, bTo, gTo, kTo⟩ := hTo.ex
  refine fnG_of F scLaw (fun vs H Q E h => ?_) (fun cdv A hg outer s H vs Q E hr h => ?_)
  · obtain ⟨_, _, rfl, _⟩ := h
    rfl
  · obtain ⟨a, ns, rfl, hA, hlen, hbits, q⟩ := h
    have hr1 := hr.mono (j := 1) (by decide)
    have hr3 := hr.mono (j := 3) (by decide)
    have hr4 := hr.mono (j := 4) (by decide)
    have hr5 := hr.mono (j := 5) (by decide)
    have hr6 := hr.mono (j := 6) (by decide)
    refine ⟨_, PSs.nox (pss_cons (ps_for PassesOwn.never rfl (pi_range1 (by rfl) G.range (pa_cons (pe_callB (call_max2 rfl) (by rfl) G.max bMax (pa_cons pe_int (pa_cons (pe_callB (call_min2 rfl) (by rfl) G.min bMin (pa_cons pe_int (pa_cons (pe_callB call_len_seq (by rfl) G.len bLen (pa_cons (pv 0) pa_nil)) pa_nil))) pa_nil))) pa_nil)) (pg_name (i := 1) scLaw.nd rfl (.inl rfl))
      (pss_cons (ps_set (i := 2) scLaw.nd rfl (.inl rfl) (pe_call oSo hr1 (by rfl) gSo kSo bSo .nil pass0 (pa_cons (pv 0) (pa_cons (pv 1) pa_nil))))
      (pss_cons (ps_set (i := 3) scLaw.nd rfl (.inl rfl) (pe_call oB hr5 (by rfl) gB kB bB .nil pass0 (pa_cons (pv 2) (pa_cons pe_int pa_nil))))
      (pss_cons (ps_set (i := 4) scLaw.nd rfl (.inl rfl) (pe_call oM hr6 (by rfl) gM kM bM .nil pass0 (pa_cons (pv 3) pa_nil)))
      (pss_one (ps_for PassesOwn.never rfl (pi_range1 (by rfl) G.range (pa_cons pe_int pa_nil)) (pg_name (i := 5) scLaw.nd rfl (.inl rfl))
      (pss_cons (ps_set (i := 6) scLaw.nd rfl (.inl rfl) (pe_call oDr hr4 (by rfl) gDr kDr bDr .nil pass0 (pa_cons (pv 2) (pa_cons (pv 3) pa_nil))))
      (pss_cons (ps_if (pt_cmpR op_eq (pv 5) pe_int (nomark _))
      (pss_one (ps_set (i := 6) scLaw.nd rfl (.inl rfl) (pe_op op_cat (pv 6) (pe_op op_rep (pe_lst (pa_cons (pe_tup (pa_cons pe_str (pa_cons pe_str pa_nil))) (pa_cons (pe_tup (pa_cons pe_str (pa_cons pe_str (pa_cons (pe_ix ix_list (pe_call oDe hr1 (by rfl) gDe kDe bDe .nil pass0 (pa_cons (pv 3) pa_nil)) pe_int (fun _ _ => rfl)) pa_nil)))) pa_nil))) pe_int)))) pss_nil)
      (pss_cons (ps_par (i := 7) (j := 8) (by rfl) scLaw.nd rfl rfl (by decide) rfl rfl (pa_cons (pe_join pe_str (pe_lc (own := [("event", 14)]) (g := (gName 14)) (tt := tYes) (te := (tM1 (rJoinK K) (tC (.str " ")) (tVar 14))) rfl scLaw.nd (pi_list (pv 6)) (blkOk_by (N := NLaw) (sc := defScope sLaw) (by decide +kernel)) (fun _ _ _ _ _ => (pg_name (i := 14) scLaw.nd rfl (.inl rfl))) (fun _ _ _ _ _ => pts_nil) (fun _ _ _ _ _ => (pe_join pe_str (pv 14))))) (pa_cons (pe_callB (call_reprV hSys hg hr) (by rfl) G.repr bRepr (pa_cons (pv 6) pa_nil)) pa_nil)) (by rfl))
      (pss_cons (ps_if (PW.pt (pw_or (pt_cmpR op_ne (pe_call oRt hr1 (by rfl) gRt kRt bRt .nil pass0 (pa_cons (pv 6) pa_nil)) (pv 7) (nomark _)) (pw_or1 (pt_cmpR op_ne (pe_callB (call_reprV hSys hg hr) (by rfl) G.repr bRepr (pa_cons (pv 6) pa_nil)) (pv 8) (nomark _)))))
      (pss_one (ps_ret pe_bl)) pss_nil)
      (pss_cons (ps_set (i := 9) scLaw.nd rfl (.inl rfl) (pe_call oBe hr3 (by rfl) gBe kBe bBe .nil pass0 (pa_cons (pv 2) (pa_cons (pv 7) pa_nil))))
      (pss_one (ps_for PassesOwn.never rfl (pi_list (pe_lst (pa_cons (pv 7) (pa_cons (pv 9) (pa_cons (pe_call oBe hr3 (by rfl) gBe kBe bBe .nil pass0 (pa_cons (pv 2) (pa_cons (pv 9) pa_nil))) (pa_cons pe_non (pa_cons pe_int (pa_cons (pe_lst (pa_cons (pv 7) pa_nil)) (pa_cons (pe_tup (pa_cons pe_str pa_nil)) (pa_cons pe_dnewK (pa_cons pe_bl pa_nil))))))))))) (pg_name (i := 10) scLaw.nd rfl (.inl rfl))
      (pss_cons (ps_set (i := 11) scLaw.nd rfl (.inl rfl) (pe_call oDu hr3 (by rfl) gDu kDu bDu .nil pass0 (pa_cons (pv 3) (pa_cons (pv 10) pa_nil))))
      (pss_one (ps_for PassesOwn.never rfl (pi_range1 (by rfl) G.range (pa_cons pe_int pa_nil)) (pg_name (i := 12) scLaw.nd rfl (.inl rfl))
      (pss_cons (ps_set (i := 13) scLaw.nd rfl (.inl rfl) (pe_call oTo hr5 (by rfl) gTo kTo bTo .nil pass0 (pa_cons (pv 4) (pa_cons (pv 10) pa_nil))))
      (pss_cons (ps_if (pt_cmpR op_ne (pe_callB (call_reprV hSys hg hr) (by rfl) G.repr bRepr (pa_cons (pv 13) pa_nil)) (pe_callB (call_reprV hSys hg hr) (by rfl) G.repr bRepr (pa_cons (pv 11) pa_nil)) (nomark _))
      (pss_one (ps_ret pe_bl)) pss_nil)
      (pss_one (ps_if (pt_val (pe_callB call_isi (by rfl) G.isi bIsi (pa_cons (pv 13) (pa_cons (pe_bltn (v := .ty "list") (by rfl) G.list bList rfl) pa_nil))))
      (pss_one (ps_expr (pe_bm PySem.F.plainAttrs_list PySem.F.slot_list_append PySem.F.type_list_append mt_append (pv 13) (pa_cons pe_non pa_nil)))) pss_nil))))))))))))))))))))
      (pss_one (ps_ret pe_bl))), ?_⟩
    refine ⟨_, rfl, a, _, rfl, .inl hA, _, _, rfl, _, _, rfl, _, rfl, ?_, ?_, for_range (fun i σ H' => ∃ y1 y2 y3 y4 y5 y6 y7 y8 y9 y10 y11 y12 y13 y14, σ = [some (.ref a), y1, y2, y3, y4, y5, y6, y7, y8, y9, y10, y11, y12, y13, y14] ∧ Same H H') ⟨_, _, _, _, _, _, _, _, _, _, _, _, _, _, rfl, Same.refl H⟩ ?_ ?_⟩
    · split <;> split <;> omega
    · split <;> split <;> omega
    · rintro i σ H1 hi ⟨y1, y2, y3, y4, y5, y6, y7, y8, y9, y10, y11, y12, y13, y14, rfl, s1⟩
      have hi4 : i < 4 := by
        revert hi
        split <;> split <;> omega
      have hst : (0 : Int) + (i : Int) = ((i : Nat) : Int) := by omega
      rw [hst]
      refine ⟨_, rfl, _, rfl, a, ns, i, rfl, s1.seq hA, hlen, hbits, by omega, fun so own mixed hso => ?_⟩
      refine ⟨_, rfl, so, 3, rfl, ⟨own, mixed, upd_same⟩, by decide, by decide, fun b1 H2 d1 mv1 ok1 _ bd1 => ?_⟩
      refine ⟨_, rfl, b1, d1, rfl, bd1.same del_all, ok1, fun H3 x m3 hx0 hx => ?_⟩
      have mvm : Mv so H2 H3 := .of_same mv1.src m3
      have s3 : Same H H3 := s1.trans ((mv1.trans mvm).over hso)
      have bd3 := bd1.same mvm.same
      have st3 := hx.del mvm.src
      have src3 := mvm.src
      clear mvm mv1 m3 bd1 hx hx0
      refine ⟨8, rfl, by decide, by decide, for_range (fun t σ H' => ∃ c5 c6 c7 c8 c9 c10 c11 c12 c13 c14, σ = [some (.ref a), some (.int (i : Int)), some (.ref so), some (.ref b1), some (.ref x), c5, c6, c7, c8, c9, c10, c11, c12, c13, c14] ∧ Mv so H3 H') ⟨_, _, _, _, _, _, _, _, _, _, rfl, .refl src3⟩ ?_ ?_⟩
      · rintro t σ H4 ht ⟨c5, c6, c7, c8, c9, c10, c11, c12, c13, c14, rfl, m4⟩
        refine ⟨_, rfl, _, rfl, so, b1, d1, rfl, m4.src, bd3.same m4.same, ok1, fun H5 p ts evs m5 hp0 hps hp pr ev lev => ?_⟩
        have m35 := m4.trans m5
        refine ⟨_, rfl, rfl, _, rfl, ?_⟩
        show ite _ _ _
        refine ite_cont2 (R := fun p1 H1 => tNext _ (List.set _ 6 (some (V.ref p1))) H1) (p := p) (H1 := H5) (fun p1 H1 => Mv so H5 H1 ∧ ∃ evs1, RowI H1 so p1 evs1) ?_ ?_ ?_
        rotate_left
        · -- the first row is a long one
          intro _ cont
          refine ⟨_, rfl, by show 2 ≤ sizeLine; decide, fun t1 ht1 => ?_⟩
          have src5 := m5.src
          have n1 := src5.ne ht1
          have e1 : Mv so H5 (upd H5 t1 (.tup [.str "work", .str "done"])) := .new src5 ht1
          have g1 : (del (upd H5 t1 (.tup [.str "work", .str "done"])) so) t1 = some (.tup (sV ["work", "done"])) := del_of n1 upd_same
          generalize upd H5 t1 (.tup [.str "work", .str "done"]) = H6 at *
          refine ⟨_, rfl, b1, d1, rfl, (bd3.same (m35.trans e1).same).same del_all, ok1, fun H7 p7 m7 f7 h7 => ?_⟩
          have e2 : Mv so H5 H7 := e1.trans (.of_same e1.src m7)
          have g1 := (Mv.of_same e1.src m7).same _ _ g1
          obtain ⟨d0, dr, ed, dok⟩ : ∃ d0 dr, d1.deeds.map (·.1) = d0 :: dr ∧ d0.length ≤ 8 ∧ AscS d0 := by
            have h1 := ok1.d1
            have h2 := ok1.dn
            cases h : d1.deeds with
            | nil => rw [h] at h1; exact absurd h1 (by decide)
            | cons e r => exact ⟨e.1, r.map (·.1), rfl, (h2 e (by rw [h]; exact List.mem_cons_self ..)).ok8⟩
          rw [ed] at h7
          refine ⟨p7, _, 0, .str d0, rfl, rfl, SqL.of h7, atI_nat (j := 0) rfl, by show 3 ≤ sizeLine; decide, fun t2 ht2 => ⟨by show 2 ≤ sizeLine; decide, fun l1 hl1 => ?_⟩⟩
          have n2 := e2.src.ne ht2
          have e3 : Mv so H7 (upd H7 t2 (.tup [.str "send", .str "k", .str d0])) := .new e2.src ht2
          have g2 : (del (upd H7 t2 (.tup [.str "send", .str "k", .str d0])) so) t2 = some (.tup (sV ["send", "k", d0])) := del_of n2 upd_same
          generalize upd H7 t2 (.tup [.str "send", .str "k", .str d0]) = H8 at *
          have g1 := e3.same _ _ g1
          have n3 := e3.src.ne hl1
          have e4 : Mv so H8 (upd H8 l1 (.lst [.ref t1, .ref t2])) := .new e3.src hl1
          have h9 : (upd H8 l1 (.lst [.ref t1, .ref t2])) l1 = some (.lst ([t1, t2].map V.ref)) := upd_same
          generalize upd H8 l1 (.lst [.ref t1, .ref t2]) = H9 at *
          have e5 := (e2.trans e3).trans e4
          have pr2 : RowsD H9 so [t1, t2] [["work", "done"], ["send", "k", d0]] := .cons (e4.same _ _ g1) (.cons (e4.same _ _ g2) .nil)
          refine ⟨l1, 20, _, rfl, rfl, h9, by decide, by decide, by show 2 * 20 ≤ sizeLine; decide, fun l2 hl2 => ?_⟩
          have n4 := e5.src.ne hl2
          have e6 : Mv so H9 (upd H9 l2 (.lst (List.replicate (20 : Int).toNat ([t1, t2].map V.ref)).flatten)) := .new e5.src hl2
          have h10 : (upd H9 l2 (.lst (List.replicate (20 : Int).toNat ([t1, t2].map V.ref)).flatten)) l2 = some (.lst (((List.replicate 20 [t1, t2]).flatten).map V.ref)) := at_lst (flat_map_ref 20)
          generalize upd H9 l2 (.lst (List.replicate (20 : Int).toNat ([t1, t2].map V.ref)).flatten) = H10 at *
          have e7 := e5.trans e6
          have hp10 := e7.get hps hp
          refine ⟨p, l2, _, _, rfl, rfl, hp10, h10, by rw [List.length_map, List.length_map]; have := pr.length; show _ + 40 ≤ _; rw [sizeLine_eq]; omega, fun l3 hl3 => ?_⟩
          have e8 : Mv so H10 (upd H10 l3 (.lst (ts.map V.ref ++ ((List.replicate 20 [t1, t2]).flatten).map V.ref))) := .new e7.src hl3
          refine cont _ _ ⟨e7.trans e8, evs ++ (List.replicate 20 ([["work", "done"], ["send", "k", d0]] : List (List Str))).flatten, e7.src.ne hl3, ⟨ts ++ (List.replicate 20 [t1, t2]).flatten, upd_same.trans (by rw [List.map_append]), paired_app ((pr.mv e7).mv e8) (paired_flat ((pr2.mv e6).mv e8) 20)⟩, fun ws hw => ?_, by rw [List.length_append]; show _ + 40 ≤ _; omega⟩
          rcases List.mem_append.mp hw with hw | hw
          · exact ev ws hw
          · obtain ⟨l, hl, hw⟩ := List.mem_flatten.mp hw
            rw [(List.mem_replicate.mp hl).2] at hw
            simp only [List.mem_cons, List.mem_nil_iff, or_false] at hw
            rcases hw with rfl | rfl
            · exact evD2 (words_ok _ (by decide +kernel)) (words_ok _ (by decide +kernel))
            · exact evD3 (words_ok _ (by decide +kernel)) (words_ok _ (by decide +kernel)) dok
        · intro _
          exact ⟨.refl m5.src, evs, hps, ⟨ts, hp, pr⟩, ev, by omega⟩
        rintro p2 H6 ⟨m6, evs2, np2, ⟨ts2, hp2, pr2⟩, ev2, lev2⟩
        have m36 := m35.trans m6
        have len2 : ts2.length = evs2.length := pr2.length
        -- text, seen
        refine ⟨⟨_, rfl⟩, _, rfl, p2, rfl, ⟨_, SqL.of hp2⟩, fun D hD => ?_⟩
        refine lc_ix (walk_list (K := K) (a := p2) (xs := ts2.map V.ref)) (fun i y => ∃ x, (evs2.map (Txt.join " "))[i]? = some x ∧ y = .str x) hD (fun H7 m7 => m7.seq (SqL.of hp2)) (by rw [List.length_map]; omega) (fun i y H7 H8 N YK hi m7 _ hy ky => ?_) (fun H7 ys m7 hy ly ry => ?_)
        · obtain ⟨rfl, hy⟩ := hy
          obtain ⟨t1, ht1, rfl⟩ : ∃ t1, ts2[i]? = some t1 ∧ y = .ref t1 := by
            rw [List.getElem?_map] at hy
            cases e : ts2[i]? with
            | none => rw [e] at hy; cases hy
            | some u => rw [e] at hy; exact ⟨u, rfl, (Option.some.inj hy).symm⟩
          obtain ⟨ws, hws, hw⟩ := L2.paired_get pr2 ht1
          have sm1 := (ev2 ws (List.mem_of_getElem? hws)).sm
          refine ⟨rfl, iteT (B := N H8) ⟨⟨_, rfl⟩, _, rfl, " ", t1, ws, rfl, rfl, .inr (.inl (.inl (m7 _ _ (del_some hw).2))), by have := sm1.join.2; omega, ky _ _ m7 rfl ⟨_, ?_, rfl⟩⟩⟩
          rw [List.getElem?_map, hws]
          rfl
        have eys := ys_strs (fs := evs2.map (Txt.join " ")) (by rw [ly, List.length_map, List.length_map]; exact len2) ry
        subst eys
        have tl := text_len (fun ws hw => (ev2 ws hw).sm) (by omega : evs2.length ≤ 100)
        have ta := text_asc ev2
        have sz := sz_rows (fun ws hw => (ev2 ws hw).asc) (Nat.le_trans (wgR_small fun ws hw => (ev2 ws hw).sm) (by omega : 28 * evs2.length ≤ 100000))
        have tv : ∀ {H'}, Mv so H6 H' → TextV K H' (.ref p2) (rowsD evs2).shown := fun {H'} m => .box ⟨dq_rows ((pr2.mv m).at (m.get np2 hp2)), sz.can, by have := sz.dep; omega, sz.fits (by decide)⟩
        have m67 : Mv so H6 H7 := .of_same m6.src m7
        refine ⟨"\n", D, _, rfl, rfl, .inl (SqL.of hy), by have := tl.2; omega, ?_⟩
        refine ⟨_, rfl, _, _, rfl, tv m67, _, _, rfl, ?_⟩
        -- row_text
        refine ⟨_, rfl, p2, ts2, evs2, rfl, SqL.of (m67.get np2 hp2), ((pr2.mv m67).mono fun _ _ q => .inl (.inl (del_some q).2)), fun ws hw => (ev2 ws hw).sm, by omega, fun H8 m8 => ?_⟩
        have m68 := m67.trans (.of_same m67.src m8)
        refine ⟨_, rfl, rfl, _, rfl, iteNS rfl ?_⟩
        refine ⟨_, rfl, _, _, rfl, tv m68, _, rfl, rfl, _, rfl, iteNS rfl ?_⟩
        -- bent
        have tl1 := tl.1
        clear tl
        unfold textOf at tl1 ta
        generalize Txt.join "\n" (evs2.map (Txt.join " ")) = tx at *
        refine ⟨_, rfl, _, rfl, so, tx, 2800, rfl, m68.src, ⟨ta, tl1⟩, by decide, fun H9 t2 m9 ok2 => ?_⟩
        refine ⟨_, rfl, _, rfl, _, rfl, _, rfl, so, t2, _, rfl, m9.src, ok2, by decide, fun H10 t3 m10 ok3 => ?_⟩
        have m6a := (m68.trans m9).trans m10
        refine ⟨_, rfl, by show 1 ≤ sizeLine; decide, fun l1 hl1 => ⟨by show 1 ≤ sizeLine; decide, fun q1 hq1 => fun d1' hd1 => ⟨by show 9 ≤ sizeLine; decide, fun L hL => ?_⟩⟩⟩
        have nl1 := m6a.src.ne hl1
        have x1 : Mv so H10 (upd H10 l1 (.lst [.str (tx)])) := .new m6a.src hl1
        have hl1' : (upd H10 l1 (.lst [.str (tx)])) l1 = some (.lst [.str (tx)]) := upd_same
        generalize upd H10 l1 (.lst [.str (tx)]) = H11 at *
        have nq1 := x1.src.ne hq1
        have x2 : Mv so H11 (upd H11 q1 (.tup [.str "work done"])) := .new x1.src hq1
        have hq1' : (upd H11 q1 (.tup [.str "work done"])) q1 = some (.tup [.str "work done"]) := upd_same
        generalize upd H11 q1 (.tup [.str "work done"]) = H12 at *
        have nd1 := x2.src.ne hd1
        have x3 : Mv so H12 (upd H12 d1' (.dK [])) := .new x2.src hd1
        have hd1' : (upd H12 d1' (.dK [])) d1' = some (.dK []) := upd_same
        generalize upd H12 d1' (.dK []) = H13 at *
        have nL := x3.src.ne hL
        have x4 : Mv so H13 (upd H13 L (.lst [.str (tx), .str t2, .str t3, .non, .int 5, .ref l1, .ref q1, .ref d1', .bl true])) := .new x3.src hL
        have hL' : (upd H13 L (.lst [.str (tx), .str t2, .str t3, .non, .int 5, .ref l1, .ref q1, .ref d1', .bl true])) L = some (.lst [.str (tx), .str t2, .str t3, .non, .int 5, .ref l1, .ref q1, .ref d1', .bl true]) := upd_same
        generalize upd H13 L (.lst [.str (tx), .str t2, .str t3, .non, .int 5, .ref l1, .ref q1, .ref d1', .bl true]) = H14 at *
        have hl1 := x4.get nl1 (x3.get nl1 (x2.get nl1 hl1'))
        have hq1 := x4.get nq1 (x3.get nq1 hq1')
        have hd1 := x4.get nd1 hd1'
        have m6b := ((((m36.trans m6a).trans x1).trans x2).trans x3).trans x4
        have kinds : ∀ v ∈ ([.str tx, .str t2, .str t3, .non, .int 5, .ref l1, .ref q1, .ref d1', .bl true] : List V), ∃ r, PlainV v ∧ ∀ H', Mv so H14 H' → DueR K H' (d1.deeds.map (·.1)) v r := by
          intro v hv
          have str : ∀ {t : Str} {n : Nat}, TxtOk n t → n ≤ 12000 → ∃ r, PlainV (.str t) ∧ ∀ H', Mv so H14 H' → DueR K H' (d1.deeds.map (·.1)) (.str t) r := fun h hn => by
            obtain ⟨r, h1, h2⟩ := due_str (d1.deeds.map (·.1)) h hn
            exact ⟨r, h1, fun H' _ => h2 K H'⟩
          simp only [List.mem_cons, List.mem_nil_iff, or_false] at hv
          rcases hv with rfl | rfl | rfl | rfl | rfl | rfl | rfl | rfl | rfl
          · exact str ⟨ta, tl1⟩ (by decide)
          · exact str ok2 (by decide)
          · exact str ok3 (by decide)
          · exact ⟨_, fun _ z => (nomatch z), fun H' m => .inl ⟨notStr_non, rfl⟩⟩
          · exact ⟨_, fun _ z => (nomatch z), fun H' m => .inl ⟨notStr_int, rfl⟩⟩
          · exact ⟨_, fun _ z => (nomatch z), fun H' m => .inl ⟨notStr_lst (m.get nl1 hl1), rfl⟩⟩
          · exact ⟨_, fun _ z => (nomatch z), fun H' m => .inl ⟨notStr_tup (m.get nq1 hq1), rfl⟩⟩
          · exact ⟨_, fun _ z => (nomatch z), fun H' m => .inl ⟨notStr_dK (m.get nd1 hd1), rfl⟩⟩
          · exact ⟨_, fun _ z => (nomatch z), fun H' m => .inl ⟨notStr_bl, rfl⟩⟩
        have hlen9 : ([.str (tx), .str t2, .str t3, .non, .int 5, .ref l1, .ref q1, .ref d1', .bl true] : List V).length = 9 := rfl
        generalize ([.str (tx), .str t2, .str t3, .non, .int 5, .ref l1, .ref q1, .ref d1', .bl true] : List V) = things at *
        refine ⟨L, rfl, ⟨_, SqL.of hL'⟩, ?_⟩
        clear x1 x2 x3 x4 hl1' hq1' hd1' tv
        refine for_list (K := K) (a := L) (xs := things) (fun j σ H' => ∃ c10 c11 c12 c13 c14, σ = [some (.ref a), some (.int (i : Int)), some (.ref so), some (.ref b1), some (.ref x), some (.int (0 + (t : Int))), some (.ref p2), some (.str (tx)), some (.str (rowsD evs2).shown), some (.str t2), c10, c11, c12, c13, c14] ∧ Mv so H14 H') ⟨_, _, _, _, _, rfl, .refl m6b.src⟩ (fun j σ H' _ ⟨_, _, _, _, _, _, m⟩ => SqL.of (m.get nL hL')) ?_ ?_
        · rintro j v σ H15 hj ⟨c10, c11, c12, c13, c14, rfl, m15⟩
          obtain ⟨r, pl, hr0⟩ := kinds v (List.mem_of_getElem? hj)
          have sz := sz_due (hr0 H15 m15) pl
          have m315 := m6b.trans m15
          refine ⟨_, rfl, _, rfl, b1, d1, v, r, rfl, (bd3.same m315.same).same del_all, ok1, hr0 H15 m15, fun H16 p7 m16 f7 h7 => ?_⟩
          have np7 := m15.src.ne f7
          have m16 : Mv so H15 H16 := .of_same m15.src m16
          have m316 := m315.trans m16
          have m146 := m15.trans m16
          refine ⟨2, rfl, by decide, by decide, for_range (fun l σ H' => ∃ c12 c13 c14, σ = [some (.ref a), some (.int (i : Int)), some (.ref so), some (.ref b1), some (.ref x), some (.int (0 + (t : Int))), some (.ref p2), some (.str tx), some (.str (rowsD evs2).shown), some (.str t2), some v, some (.ref p7), c12, c13, c14] ∧ Mv so H16 H') ⟨_, _, _, rfl, .refl m16.src⟩ ?_ ?_⟩
          · rintro l σ H17 hl ⟨c12, c13, c14, rfl, m17⟩
            have m317 := m316.trans m17
            refine ⟨_, rfl, _, rfl, x, sdOf d1, v, r, rfl, (st3.same m317.same).same del_all, by rw [deedsOf]; exact hr0 H17 (m146.trans m17), fun H18 p8 m18 f8 h8 => ?_⟩
            have np8 := m17.src.ne f8
            have n8 : H16 p8 = none := m17.free m16.src f8
            have m18 : Mv so H17 H18 := .of_same m17.src m18
            have m168 := m17.trans m18
            refine ⟨_, rfl, _, _, rfl, text_of_res h8 sz, _, rfl, _, _, rfl, text_of_res (h7.mv m16.src np7 m168) sz, rfl, _, rfl, iteNS rfl ?_⟩
            obtain ⟨t0, ty, kt⟩ := res_ty (K := K) h8
            refine ⟨_, rfl, .ref p8, .ty "list", _, _, isRow r, rfl, .ty _, ty, kt, isRow r, rfl, ?_⟩
            cases er : r with
            | inr n => exact iteF ⟨_, _, _, rfl, m168⟩
            | inl rows =>
              rw [er] at h8 hr0
              obtain ⟨ts8, hp8, pr8⟩ := h8
              refine iteT ⟨_, rfl, .inl ⟨rfl, _, SqL.of hp8⟩, p8, _, _, rfl, rfl, hp8, ?_, ?_⟩
              · have := res_len (hr0 H17 (m146.trans m17))
                have := pr8.length
                rw [List.length_map, sizeLine_eq]
                omega
              · exact ⟨_, _, _, rfl, m168.write n8 np8⟩
          · rintro σ H17 ⟨c12, c13, c14, rfl, m17⟩
            exact ⟨_, _, _, _, _, rfl, m146.trans m17⟩
        · rintro σ H15 ⟨c10, c11, c12, c13, c14, rfl, m15⟩
          exact ⟨_, _, _, _, _, _, _, _, _, _, rfl, m6b.trans m15⟩
      · rintro σ H4 ⟨c5, c6, c7, c8, c9, c10, c11, c12, c13, c14, rfl, m4⟩
        exact ⟨_, _, _, _, _, _, _, _, _, _, _, _, _, _, rfl, fun b o e => m4.get (fun z => by subst z; rw [s1 _ _ e] at hso; cases hso) (s3 b o e)⟩
    · rintro σ H1 ⟨y1, y2, y3, y4, y5, y6, y7, y8, y9, y10, y11, y12, y13, y14, rfl, s1⟩
      exact q H1
end
end Bs
set_option Elab.async false
set_option linter.all false
set_option maxRecDepth 100000
set_option maxHeartbeats 0
namespace Bs
open PySem PySem.Spec PyProof.Rows L2 L2.Pl
def glD (x : Str) (i : Nat) : He.DefD := ⟨(x, none), x, x, defArgs (top i), defBody (top i), defScope (top i), [], []⟩
def meD (C m : Str) (i j : Nat) : He.DefD := ⟨(C, some m), m, C ++ "." ++ m, defArgs (inClass (top i) j), defBody (inClass (top i) j), defScope (inClass (top i) j), [], []⟩
def glosA : List (Str × Nat) := [("is_name", 10), ("is_event", 13), ("row_text", 15), ("read_row", 16), ("right_standings", 20), ("from_all", 21), ("right_leads", 22), ("right_deeds", 23), ("right_looks", 24), ("_law_source", 27), ("_law_draw", 28), ("_law_pick", 29)]
def glosB : List (Str × Nat) := [("_law_mixed", 30), ("_law_word", 31), ("_law_names", 32), ("_law_leads", 33), ("_law_base", 34), ("_law_made", 35), ("_law_deeds", 36), ("_law_is_event", 37), ("_law_due", 38), ("_law_told", 39), ("_law_drawn", 40), ("_law_bent", 41), ("law", 42)]
def glos : List (Str × Nat) := glosA ++ glosB
def fn : List He.DefD := glos.map (fun p => glD p.1 p.2) ++ [meD "Store" "__init__" 25 0, meD "BadText" "__init__" 6 0]
def pr : List PrD := [(("Store", "deeds"), meD "Store" "deeds" 25 3)]
def faA : List He.Fa := glos.map (fun p => .glo p.1)
def faB : List He.Fa := [.glo "Store", .glo "HOWS", .free "len", .free "int", .free "isinstance", .free "range", .free "max", .free "min", .free "enumerate", .free "list", .free "dict", .free "tuple", .free "zip", .free "set", .free "all", .free "str", .free "repr", .int "LONGEST" 8, .int "MOST_STANDINGS" 5, .int "MOST_DEEDS" 4, .str "LETTERS" "abcdefghijklmnopqrstuvwxyz", .cls "Store", .noat "Store" "_standings", .noat "Store" "_deeds", .noat "Store" "_leads", .noat "Store" "_looks", .mkr "Store", .exm "BadText" "BadText" true]
def fa : List He.Fa := faA ++ faB
def ex (K : Fr) : Bool := sysB K && (raB K "BadText" "line" && (He.tupB K "HOWS" [.str "done", .str "stops", .str "fails"]))
abbrev R : PySem.W.OpenRow := PySem.W.OpenLaw.row rw0
abbrev hk : PySem.W.Hook := hookQ 6 fa fn pr ex
def ob (s : PySem.W.SharedT) : AlQ := obsQ 6 fa fn pr ex (HandSHeadRun.getT s)
theorem ob_eq (s : PySem.W.SharedT) : ob s = hk.obs s.abs := obsQ_eq (HandSHeadRun.getT_eq s)
def looseA : List Str := ["_wall", "LateError", "BadStandings", "BadDeeds", "BadLooks", "BadText", "LETTERS", "LONGEST", "is_name", "HOWS", "is_event", "row_text", "read_row", "MOST_STANDINGS", "MOST_DEEDS", "right_standings", "from_all", "right_leads"]
def looseB : List Str := ["right_deeds", "right_looks", "Store", "_law_source", "_law_draw", "_law_pick", "_law_mixed", "_law_word", "_law_names", "_law_leads", "_law_base", "_law_made", "_law_deeds", "_law_is_event", "_law_due", "_law_told", "_law_drawn", "_law_bent"]
def loose : List Str := looseA ++ looseB
theorem run (w : World) : HandSHeadRun.RunEq R (PySem.W.view R.prog [42]) hk ob 8000 loose w := by
  intro os
  kernel_rfl
end Bs
set_option Elab.async false
set_option linter.all false
set_option maxRecDepth 100000
set_option maxHeartbeats 4000000
namespace Bs
open PySem PySem.Spec PyProof.Rows L2 L2.Pl
section
variable {P : Program} {w : World} {K : PySem.W.Frag} {mg : Str → Option Value} {base : Heap}
theorem raise_ok {h : Heap} (X : K.In h) (G : h.Ns mainGlobals mg) {x f qual : Str} {params : Arguments} {scope : Scope} {fd : FuncData} {q1 q2 q3 q4 : Pos} (c : raB K x f = true) (F : FunD K "__init__" qual params [.Assign [.Attribute (.Name "self" q1) f q2] (.Name f q3) q4] scope [] [] (He.ma K (He.ga K x) "__init__") fd)
    (S : FnScope ["self", f] ["self", f] scope) (v1 : scope.names.lookup ("self" : Str) = some NameKind.local) (v2 : scope.names.lookup f = some NameKind.local) (d1 : (f == ("__debug__" : Str)) = false) (d2 : (f == ("__classdict__" : Str)) = false)
    (hb : L2.Binds K fd ["self", f] []) : RaF P w K mg base x f (He.ga K x) := by
  obtain ⟨c1, c2⟩ := He.ba c
  have e := exc_ok c1
  exact ⟨e.o, xfB_ok c2, e.nf, PySem.W.mg_of X G e.gl, _, fd, e.iC, e.tI, ini_ok F S v1 v2 d1 d2 e.o e.nf, hb⟩
theorem facts {P : Program} {w : World} {K : Fr} {h : Heap} {mg : Str → Option Value} {f : Addr} (X : K.In h) (G : h.Ns mainGlobals mg) (hfa : mg ("law" : Str) = some (.ref f)) (c : SaysQ fa fn pr ex K) :
    ∃ fd : FuncData, (∀ (s : Shared) (v : Value), BindsTo s fd ⟨[v], []⟩ [("script", v)]) ∧ ∀ base : Heap, K.In base → base.Ns mainGlobals mg → FnG P w K mg base CX0 7 f fd ["script"] (spLawT K) := by
  obtain ⟨m1, r0⟩ := He.ba c.more
  obtain ⟨m2, m_HOWS⟩ := He.ba r0
  have free : ∀ {x : Str} (i : Nat), fa[i]? = some (.free x) → mg x = none := fun i e => He.free_ok X G (c.d.fact i e)
  have gn : Gn mg := ⟨free 27 rfl, free 28 rfl, free 29 rfl, free 30 rfl, free 31 rfl, free 32 rfl, free 33 rfl, free 34 rfl, free 35 rfl, free 36 rfl, free 37 rfl, free 38 rfl, free 39 rfl, free 40 rfl, free 41 rfl⟩
  have g : ∀ {x : Str} (i : Nat), fa[i]? = some (.glo x) → mg x = some (.ref (He.ga K x)) := fun i e => He.glo_ok X G (c.d.fact i e)
  have e := hfa.symm.trans (g (x := "law") 24 rfl)
  cases e
  have k_LONGEST := He.int_ok X G (c.d.fact (f := .int "LONGEST" 8) 42 rfl)
  have k_MOST_STANDINGS := He.int_ok X G (c.d.fact (f := .int "MOST_STANDINGS" 5) 43 rfl)
  have k_MOST_DEEDS := He.int_ok X G (c.d.fact (f := .int "MOST_DEEDS" 4) 44 rfl)
  have k_LETTERS := He.str_ok X G (c.d.fact (f := .str "LETTERS" "abcdefghijklmnopqrstuvwxyz") 45 rfl)
  have k_HOWS : ∃ g, mg "HOWS" = some (.ref g) ∧ ∀ H, SqT K H g [.str "done", .str "stops", .str "fails"] := ⟨_, g 26 rfl, fun H => He.tupB_ok m_HOWS H⟩
  have c_Store := He.cls_ok (c.d.fact (f := .cls "Store") 46 rfl)
  have n_Store_standings := He.noat_ok (c.d.fact (f := .noat "Store" "_standings") 47 rfl)
  have n_Store_deeds := He.noat_ok (c.d.fact (f := .noat "Store" "_deeds") 48 rfl)
  have n_Store_leads := He.noat_ok (c.d.fact (f := .noat "Store" "_leads") 49 rfl)
  have n_Store_looks := He.noat_ok (c.d.fact (f := .noat "Store" "_looks") 50 rfl)
  have k_Store := He.mkr_ok (c.d.fact (f := .mkr "Store") 51 rfl)
  have g_Store := g (x := "Store") 25 rfl
  have x_BadText := He.exm_ok (c.d.fact (f := .exm "BadText" "BadText" true) 52 rfl)
  obtain ⟨d_is_name, F_is_name⟩ := c.d.def_ 0 (d := glD "is_name" 10) rfl
  have b_is_name := FunD.bindsN (ps := ["value"]) F_is_name fun _ _ _ _ _ _ us hl => match us, hl with | [_], _ => rfl
  have g_is_name := g (x := "is_name") 0 rfl
  obtain ⟨d_is_event, F_is_event⟩ := c.d.def_ 1 (d := glD "is_event" 13) rfl
  have b_is_event := FunD.bindsN (ps := ["store", "value"]) F_is_event fun _ _ _ _ _ _ us hl => match us, hl with | [_, _], _ => rfl
  have g_is_event := g (x := "is_event") 1 rfl
  obtain ⟨d_row_text, F_row_text⟩ := c.d.def_ 2 (d := glD "row_text" 15) rfl
  have b_row_text := FunD.bindsN (ps := ["row"]) F_row_text fun _ _ _ _ _ _ us hl => match us, hl with | [_], _ => rfl
  have g_row_text := g (x := "row_text") 2 rfl
  obtain ⟨d_read_row, F_read_row⟩ := c.d.def_ 3 (d := glD "read_row" 16) rfl
  have b_read_row := FunD.bindsN (ps := ["store", "text"]) F_read_row fun _ _ _ _ _ _ us hl => match us, hl with | [_, _], _ => rfl
  have g_read_row := g (x := "read_row") 3 rfl
  obtain ⟨d_right_standings, F_right_standings⟩ := c.d.def_ 4 (d := glD "right_standings" 20) rfl
  have b_right_standings := FunD.bindsN (ps := ["value"]) F_right_standings fun _ _ _ _ _ _ us hl => match us, hl with | [_], _ => rfl
  have g_right_standings := g (x := "right_standings") 4 rfl
  obtain ⟨d_from_all, F_from_all⟩ := c.d.def_ 5 (d := glD "from_all" 21) rfl
  have b_from_all := FunD.bindsN (ps := ["value", "standings"]) F_from_all fun _ _ _ _ _ _ us hl => match us, hl with | [_, _], _ => rfl
  have g_from_all := g (x := "from_all") 5 rfl
  obtain ⟨d_right_leads, F_right_leads⟩ := c.d.def_ 6 (d := glD "right_leads" 22) rfl
  have b_right_leads := FunD.bindsN (ps := ["value", "standings"]) F_right_leads fun _ _ _ _ _ _ us hl => match us, hl with | [_, _], _ => rfl
  have g_right_leads := g (x := "right_leads") 6 rfl
  obtain ⟨d_right_deeds, F_right_deeds⟩ := c.d.def_ 7 (d := glD "right_deeds" 23) rfl
  have b_right_deeds := FunD.bindsN (ps := ["value", "standings"]) F_right_deeds fun _ _ _ _ _ _ us hl => match us, hl with | [_, _], _ => rfl
  have g_right_deeds := g (x := "right_deeds") 7 rfl
  obtain ⟨d_right_looks, F_right_looks⟩ := c.d.def_ 8 (d := glD "right_looks" 24) rfl
  have b_right_looks := FunD.bindsN (ps := ["value", "standings"]) F_right_looks fun _ _ _ _ _ _ us hl => match us, hl with | [_, _], _ => rfl
  have g_right_looks := g (x := "right_looks") 8 rfl
  obtain ⟨d__law_source, F__law_source⟩ := c.d.def_ 9 (d := glD "_law_source" 27) rfl
  have b__law_source := FunD.bindsN (ps := ["script", "start"]) F__law_source fun _ _ _ _ _ _ us hl => match us, hl with | [_, _], _ => rfl
  have g__law_source := g (x := "_law_source") 9 rfl
  obtain ⟨d__law_draw, F__law_draw⟩ := c.d.def_ 10 (d := glD "_law_draw" 28) rfl
  have b__law_draw := FunD.bindsN (ps := ["source", "span"]) F__law_draw fun _ _ _ _ _ _ us hl => match us, hl with | [_, _], _ => rfl
  have g__law_draw := g (x := "_law_draw") 10 rfl
  obtain ⟨d__law_pick, F__law_pick⟩ := c.d.def_ 11 (d := glD "_law_pick" 29) rfl
  have b__law_pick := FunD.bindsN (ps := ["source", "things"]) F__law_pick fun _ _ _ _ _ _ us hl => match us, hl with | [_, _], _ => rfl
  have g__law_pick := g (x := "_law_pick") 11 rfl
  obtain ⟨d__law_mixed, F__law_mixed⟩ := c.d.def_ 12 (d := glD "_law_mixed" 30) rfl
  have b__law_mixed := FunD.bindsN (ps := ["source", "things"]) F__law_mixed fun _ _ _ _ _ _ us hl => match us, hl with | [_, _], _ => rfl
  have g__law_mixed := g (x := "_law_mixed") 12 rfl
  obtain ⟨d__law_word, F__law_word⟩ := c.d.def_ 13 (d := glD "_law_word" 31) rfl
  have b__law_word := FunD.bindsN (ps := ["source"]) F__law_word fun _ _ _ _ _ _ us hl => match us, hl with | [_], _ => rfl
  have g__law_word := g (x := "_law_word") 13 rfl
  obtain ⟨d__law_names, F__law_names⟩ := c.d.def_ 14 (d := glD "_law_names" 32) rfl
  have b__law_names := FunD.bindsN (ps := ["source", "many"]) F__law_names fun _ _ _ _ _ _ us hl => match us, hl with | [_, _], _ => rfl
  have g__law_names := g (x := "_law_names") 14 rfl
  obtain ⟨d__law_leads, F__law_leads⟩ := c.d.def_ 15 (d := glD "_law_leads" 33) rfl
  have b__law_leads := FunD.bindsN (ps := ["source", "many"]) F__law_leads fun _ _ _ _ _ _ us hl => match us, hl with | [_, _], _ => rfl
  have g__law_leads := g (x := "_law_leads") 15 rfl
  obtain ⟨d__law_base, F__law_base⟩ := c.d.def_ 16 (d := glD "_law_base" 34) rfl
  have b__law_base := FunD.bindsN (ps := ["source", "most"]) F__law_base fun _ _ _ _ _ _ us hl => match us, hl with | [_, _], _ => rfl
  have g__law_base := g (x := "_law_base") 16 rfl
  obtain ⟨d__law_made, F__law_made⟩ := c.d.def_ 17 (d := glD "_law_made" 35) rfl
  have b__law_made := FunD.bindsN (ps := ["base"]) F__law_made fun _ _ _ _ _ _ us hl => match us, hl with | [_], _ => rfl
  have g__law_made := g (x := "_law_made") 17 rfl
  obtain ⟨d__law_deeds, F__law_deeds⟩ := c.d.def_ 18 (d := glD "_law_deeds" 36) rfl
  have b__law_deeds := FunD.bindsN (ps := ["base"]) F__law_deeds fun _ _ _ _ _ _ us hl => match us, hl with | [_], _ => rfl
  have g__law_deeds := g (x := "_law_deeds") 18 rfl
  obtain ⟨d__law_is_event, F__law_is_event⟩ := c.d.def_ 19 (d := glD "_law_is_event" 37) rfl
  have b__law_is_event := FunD.bindsN (ps := ["base", "words"]) F__law_is_event fun _ _ _ _ _ _ us hl => match us, hl with | [_, _], _ => rfl
  have g__law_is_event := g (x := "_law_is_event") 19 rfl
  obtain ⟨d__law_due, F__law_due⟩ := c.d.def_ 20 (d := glD "_law_due" 38) rfl
  have b__law_due := FunD.bindsN (ps := ["base", "text"]) F__law_due fun _ _ _ _ _ _ us hl => match us, hl with | [_, _], _ => rfl
  have g__law_due := g (x := "_law_due") 20 rfl
  obtain ⟨d__law_told, F__law_told⟩ := c.d.def_ 21 (d := glD "_law_told" 39) rfl
  have b__law_told := FunD.bindsN (ps := ["store", "text"]) F__law_told fun _ _ _ _ _ _ us hl => match us, hl with | [_, _], _ => rfl
  have g__law_told := g (x := "_law_told") 21 rfl
  obtain ⟨d__law_drawn, F__law_drawn⟩ := c.d.def_ 22 (d := glD "_law_drawn" 40) rfl
  have b__law_drawn := FunD.bindsN (ps := ["source", "base"]) F__law_drawn fun _ _ _ _ _ _ us hl => match us, hl with | [_, _], _ => rfl
  have g__law_drawn := g (x := "_law_drawn") 22 rfl
  obtain ⟨d__law_bent, F__law_bent⟩ := c.d.def_ 23 (d := glD "_law_bent" 41) rfl
  have b__law_bent := FunD.bindsN (ps := ["source", "text"]) F__law_bent fun _ _ _ _ _ _ us hl => match us, hl with | [_, _], _ => rfl
  have g__law_bent := g (x := "_law_bent") 23 rfl
  obtain ⟨d_law, F_law⟩ := c.d.def_ 24 (d := glD "law" 42) rfl
  have b_law := FunD.bindsA (ps := ["script"]) F_law fun _ _ _ _ _ _ us hl => match us, hl with | [_], _ => rfl
  have g_law := g (x := "law") 24 rfl
  obtain ⟨d_Store___init__, F_Store___init__⟩ := c.d.def_ 25 (d := meD "Store" "__init__" 25 0) rfl
  have b_Store___init__ := FunD.bindsN (ps := ["self", "standings", "deeds", "looks"]) F_Store___init__ fun _ _ _ _ _ _ us hl => match us, hl with | [_, _, _, _], _ => rfl
  obtain ⟨d_BadText___init__, F_BadText___init__⟩ := c.d.def_ 26 (d := meD "BadText" "__init__" 6 0) rfl
  have b_BadText___init__ := FunD.bindsN (ps := ["self", "line"]) F_BadText___init__ fun _ _ _ _ _ _ us hl => match us, hl with | [_, _], _ => rfl
  obtain ⟨p_deeds, dp_deeds, Fp_deeds⟩ := c.prop 0 (p := (("Store", "deeds"), meD "Store" "deeds" 25 3)) rfl
  have bp_deeds := FunD.bindsN (ps := ["self"]) Fp_deeds fun _ _ _ _ _ _ us hl => match us, hl with | [_], _ => rfl
  refine ⟨d_law, fun s v => b_law s [v] rfl, fun base _ _ => ?_⟩
  have cst : Cst mg := ⟨k_LONGEST, k_LETTERS, k_MOST_STANDINGS, k_MOST_DEEDS⟩
  have stF : StF K mg (He.ga K "Store") := ⟨c_Store, n_Store_standings, n_Store_deeds, n_Store_leads, n_Store_looks, g_Store⟩
  have evG : EvG K mg := ⟨k_HOWS⟩
  have hSys : SysK K := sys_ok m1
  have raT : RaF P w K mg base "BadText" "line" (He.ga K "BadText") := raise_ok X G m2 F_BadText___init__ ⟨rfl, rfl, rfl, by decide +kernel, rfl, by decide +kernel, by decide +kernel⟩ rfl rfl (by decide +kernel) (by decide +kernel) b_BadText___init__
  have hSource : Has P w K mg base CX0 "_law_source" 1 ["script", "start"] (spSource K) := ⟨_, _, ok_source gn F__law_source, b__law_source, g__law_source, F__law_source.kp⟩
  have hDraw : Has P w K mg base CX0 "_law_draw" 1 ["source", "span"] (spDraw) := ⟨_, _, ok_draw gn F__law_draw, b__law_draw, g__law_draw, F__law_draw.kp⟩
  have hPick : Has P w K mg base CX0 "_law_pick" 2 ["source", "things"] (spPick K) := ⟨_, _, ok_pick gn F__law_pick hDraw, b__law_pick, g__law_pick, F__law_pick.kp⟩
  have hMixed : Has P w K mg base CX0 "_law_mixed" 2 ["source", "things"] (spMixed K) := ⟨_, _, ok_mixed gn F__law_mixed hDraw, b__law_mixed, g__law_mixed, F__law_mixed.kp⟩
  have hWord : Has P w K mg base CX0 "_law_word" 3 ["source"] (spWord) := ⟨_, _, ok_word gn F__law_word hDraw hPick, b__law_word, g__law_word, F__law_word.kp⟩
  have hNames : Has P w K mg base CX0 "_law_names" 4 ["source", "many"] (spNames) := ⟨_, _, ok_names gn F__law_names hDraw hMixed hWord, b__law_names, g__law_names, F__law_names.kp⟩
  have hLeads : Has P w K mg base CX0 "_law_leads" 3 ["source", "many"] (spLeads) := ⟨_, _, ok_leads gn F__law_leads hDraw hMixed, b__law_leads, g__law_leads, F__law_leads.kp⟩
  have hBase : Has P w K mg base CX0 "_law_base" 5 ["source", "most"] (spBase K) := ⟨_, _, ok_base gn F__law_base hDraw hPick hMixed hNames hLeads, b__law_base, g__law_base, F__law_base.kp⟩
  have hIsN : Has P w K mg base CX0 "is_name" 1 ["value"] (spIsName K) := ⟨_, _, ok_isName gn cst F_is_name, b_is_name, g_is_name, F_is_name.kp⟩
  have hRS : Has P w K mg base CX0 "right_standings" 2 ["value"] (spRStand K) := ⟨_, _, ok_rstand gn cst F_right_standings hIsN, b_right_standings, g_right_standings, F_right_standings.kp⟩
  have hFA : Has P w K mg base CX0 "from_all" 1 ["value", "standings"] (spFromAll K) := ⟨_, _, ok_fromAll gn F_from_all, b_from_all, g_from_all, F_from_all.kp⟩
  have hLd : Has P w K mg base CX0 "right_leads" 2 ["value", "standings"] (spRLeads K) := ⟨_, _, ok_rleads gn F_right_leads hFA, b_right_leads, g_right_leads, F_right_leads.kp⟩
  have hRD : Has P w K mg base CX0 "right_deeds" 3 ["value", "standings"] (spRDeeds K) := ⟨_, _, ok_rdeeds gn cst F_right_deeds hLd hIsN, b_right_deeds, g_right_deeds, F_right_deeds.kp⟩
  have hRL : Has P w K mg base CX0 "right_looks" 2 ["value", "standings"] (spRLooks K) := ⟨_, _, ok_rlooks gn F_right_looks hFA hIsN, b_right_looks, g_right_looks, F_right_looks.kp⟩
  have oInit := ok_init gn stF F_Store___init__ hRS hRD hRL (P := P) (w := w) (base := base)
  have hMade : Has P w K mg base CX0 "_law_made" 6 ["base"] (spMade K (He.ga K "Store")) := ⟨_, _, ok_made gn stF k_Store oInit b_Store___init__ F__law_made, b__law_made, g__law_made, F__law_made.kp⟩
  have hDeeds : Has P w K mg base CX0 "_law_deeds" 1 ["base"] (spDeeds K) := ⟨_, _, ok_deeds F__law_deeds, b__law_deeds, g__law_deeds, F__law_deeds.kp⟩
  have stD : StD P w K mg base (He.ga K "Store") := ⟨⟨_, _, _, ok_dds stF Fp_deeds, bp_deeds, p_deeds⟩⟩
  have hIsE : Has P w K mg base CX0 "is_event" 3 ["store", "value"] (spIsEvT K (He.ga K "Store")) := ⟨_, _, ok_isEvT gn stF stD evG F_is_event hIsN, b_is_event, g_is_event, F_is_event.kp⟩
  have hRt : Has P w K mg base CX0 "row_text" 1 ["row"] (spRowText K) := ⟨_, _, ok_rowText F_row_text, b_row_text, g_row_text, F_row_text.kp⟩
  have hRr : Has P w K mg base (L2.CX P w) "read_row" 4 ["store", "text"] (spReadRow K (He.ga K "Store") (He.ga K "BadText")) := ⟨_, _, ok_readRow gn raT F_read_row hIsE, b_read_row, g_read_row, F_read_row.kp⟩
  have hLIs : Has P w K mg base CX0 "_law_is_event" 2 ["base", "words"] (spIsEv K) := ⟨_, _, ok_isEv gn F__law_is_event hDeeds, b__law_is_event, g__law_is_event, F__law_is_event.kp⟩
  have hDue : Has P w K mg base CX0 "_law_due" 3 ["base", "text"] (spDueT K) := ⟨_, _, ok_dueT gn F__law_due hLIs, b__law_due, g__law_due, F__law_due.kp⟩
  have hTold : Has P w K mg base CX0 "_law_told" 5 ["store", "text"] (spToldR K (He.ga K "Store")) := ⟨_, _, ok_toldR raT x_BadText F__law_told hRr, b__law_told, g__law_told, F__law_told.kp⟩
  have hDrawn : Has P w K mg base CX0 "_law_drawn" 4 ["source", "base"] (spDrawnR K) := ⟨_, _, ok_drawnR gn F__law_drawn hDraw hPick hWord hDeeds, b__law_drawn, g__law_drawn, F__law_drawn.kp⟩
  have hBent : Has P w K mg base CX0 "_law_bent" 3 ["source", "text"] (spBent) := ⟨_, _, ok_bent gn F__law_bent hDraw hPick, b__law_bent, g__law_bent, F__law_bent.kp⟩
  exact ok_law gn hSys hSource hBase hMade hDrawn hDeeds hRt hBent hDue hTold F_law
end
end Bs
set_option Elab.async false
set_option linter.all false
set_option maxRecDepth 100000
open PySem PySem.W PySem.Calls PyProof.Rows
set_option maxHeartbeats 0 in
theorem PySem.Challenge.cw_playedlate_k40_texts_of_rows_holds : PySem.Challenge.rw_playedlate_k40_texts_of_rows.Holds := by
  w_on; o_law
  refine HandSHeadRun.head_any (r := OpenLaw.row PySem.Challenge.rw_playedlate_k40_texts_of_rows) (q := view (OpenLaw.row PySem.Challenge.rw_playedlate_k40_texts_of_rows).prog [42]) (H := Bs.hk) (ob := Bs.ob) (M := 8000) (loose := Bs.loose) (d := HandSHeadRun.topDef (OpenLaw.row PySem.Challenge.rw_playedlate_k40_texts_of_rows).prog 42) (kwd := []) Bs.ob_eq
    (by kernel_rfl) (fun s => by kernel_rfl) Bs.run (by kernel_rfl) (by kernel_rfl) (by kernel_rfl) (by rfl) (by first | assumption | decide +kernel) (by decide +kernel) ⟨rfl, rfl, rfl, rfl, rfl, by decide +kernel⟩ ?hw ?hc
  case hw => w_witness2
  case hc =>
    refine L2.Pl.walk_G (l := PySem.Challenge.rw_playedlate_k40_texts_of_rows) (n := 63) (k := 7) (x := "script") (CX := fun _ => L2.CX0) rfl (by decide) (by kernel_rfl) ⟨rfl, by decide, by decide⟩ ?F (fun _ _ _ _ _ z => z)
    intro w mg fa h Y G hmg0
    obtain ⟨K, KX, c⟩ := Y
    have hmg : mg ("law" : PySem.Str) = some (.ref fa) := by
      have e : (HandSHeadRun.topDef (OpenLaw.row PySem.Challenge.rw_playedlate_k40_texts_of_rows).prog 42).name = ("law" : PySem.Str) := by kernel_rfl
      rw [← e]
      exact hmg0
    obtain ⟨fd, hb, hF⟩ := Bs.facts (P := (PySem.Challenge.rw_playedlate_k40_texts_of_rows).prog) (w := w) KX G hmg c
    exact ⟨K, fd, L2.Pl.spLawT K, KX, hb, fun H a ns hl hbits _ hS => ⟨a, ns, rfl, hS, hl, hbits, fun _ => rfl⟩, hF⟩
