import PyProof.Rows.All
import Wide.All
import OpenK.AllK
import Wide.FinOn
import PyProof.EqAt
import PyProof.EqKinds
import PyProof.TupleCall
import PyProof.ReprRoads
import KE.KIsAll
import KE.KTryMore
import HandS.ForMost
import HandS.Exc
import HandS.ExcInit
import HandS.ExcField
import HandS.ExcIs
import HandS.IsInst
import HandS.Defaults
import HandS.Wide
import HandS.EndBits
import HandS.Head2
import HandS.HeadHook2
import HandS.Small
import HandS.Walk
import HandS.Conv
import HandS.Strs
import HandS.Zip0
import HandS.TupAny
import KE.KDictZip
import HandS.ListItems
import HandS.DictTup
import HandS.More
import HandS.DeepEq
import HandS.Property
import HandS.DictComp
import HandS.Text
import HandS.Style
import KE.KLam
import HandS.Base
import HandS.Call
import HandS.List
import HandS.Comp
import HandS.Codes
import HandS.TryOnly
import HandS.Lambda
import HandS.Nested
import PyProof.CodeObj
import PyProof.DictCompW
import HandS.Dict
import PyProof.FactsAll.dict_1
import KE.KUnpack
import PyProof.DictFindH
import HandS.OwnEq
import PyProof.InstNe
import HandS.EndTab
import PySem.Challenge.RW_playedlate_k30_days_played_again
set_option Elab.async false
set_option linter.all false
set_option maxRecDepth 100000
set_option maxHeartbeats 4000000
/-! # Own exceptions as values: made by place and by keyword, read, asked for their class; repr of data with dicts; defs of a caller that bears no repr. -/
namespace PlayL
open PySem PySem.W PySem.Calls PyProof.Rows PySem.HandSPX
/-! ### a keyword call of an exception class -/
section
variable {prog : Program} {w : World} {A : Around} {E : Value → Shared → Prop} {R : Result → Shared → Prop} {hp : Heap} {gs : Array GenState} {dr : Drawn} {tk : Nat} {os : OsState}
variable {cn cq : Str} {C cN : Addr} {cb cm : List Value} {slotn : List Str} {subs : List Value} {abst : Bool} {coll : Option Bool} {cdoc : Option Addr} {z0 z1 z2 z3 z5 : Option Value}
theorem mro_has (hm : refsVE cm = true) (nm : String) : (Value.ref C :: cm).contains (.type nm) = ([.type "ValueError", .type "Exception", .type "BaseException", .type "object"] : List Value).contains (.type nm) := by
  rw [List.contains_cons, refsVE_contains nm cm hm]
  rfl
/-- type.__call__ of the class with keywords alone: a new exception of no args, then the own __init__ with the keywords -/
theorem made_by_kw (hm : refsVE cm = true) {kws : List (Str × Value)} {f0 : Addr} {Q : Fin → Shared → Prop} (hC : hp.get? C = some (excClassObj cn cq C cN cb cm true slotn subs abst coll cdoc z0 z1 z2 z3 z5 "ValueError.__new__"))
    (found : Looks (model prog w) hp (typeLookup (.ref C) "__init__") (some (.ref f0))) (bound : ∀ me, Looks (model prog w) hp (bindSpecial (.ref f0) me) (.ref f0, [me]))
    (next : codeAny (model prog w) A (.call (.ref f0) ⟨[.ref (hp.objs.size + 1)], kws⟩)
      (fun r s' => match r with | .ok (.ret v) => v = .none ∧ Q (.done (.ret (.ref (hp.objs.size + 1)))) s' | .ok _ => False | .error e => E e s') ⟨(hp.push (kdv_tup [])).push (excO C hp.objs.size), gs, dr, tk, os⟩) :
    wpAny (model prog w) A (Builtin.«type.__call__» ⟨[.ref C], kws⟩) Q E ⟨hp, gs, dr, tk, os⟩ := by
  have G := F.excBase_ValueError
  have gn := G.noStar
  have ge := G.ends
  have mV := mro_has (C := C) hm "ValueError"
  have mA := mro_has (C := C) hm "AttributeError"
  have mN := mro_has (C := C) hm "NameError"
  rw [show ([.type "ValueError", .type "Exception", .type "BaseException", .type "object"] : List Value).contains (.type "ValueError") = true by decide +kernel] at mV
  rw [show ([.type "ValueError", .type "Exception", .type "BaseException", .type "object"] : List Value).contains (.type "AttributeError") = false by decide +kernel] at mA
  rw [show ([.type "ValueError", .type "Exception", .type "BaseException", .type "object"] : List Value).contains (.type "NameError") = false by decide +kernel] at mN
  -- the class is looked at
  repeat (first | with_reducible refine wpAny_loadPart_at hC ?_ | with_reducible refine wpAny_madeBy_exc hC ?_ | wp_step)
  refine codeAny_call_builtin_code (Code.quiet_builtin _ G.quiet) ?_
  -- its __new__ may be called so
  simp only [checkBuiltinCall, G.newKind, G.newSplit, G.newRow]
  repeat (first | refine wpAny_loadPart_at hC ?_ | (refine wpAny_isSubtype_exc hC ?_; rw [mV]) | refine wpAny_staticBase_exc hC ?_ | refine wpAny_madeBy_exc hC ?_ | simp only [bne_self_eq_false, Bool.false_eq_true, if_false] | wp_step)
  -- the new exception
  refine codeAny_builtinAt G.entry ?_
  unfold Builtin.«BaseException.__new__»
  refine PySem.wpAt_bind ?_
  show PySem.wpAt _ _ _ (stack >>= _) _ _ _
  refine PySem.wpAt_bind (PySem.wpAt_stack fun _ _ => PySem.wpAt_of_wpAny ?_)
  wp_walk
  refine PySem.wpAt_of_wpAny ?_
  rw [G.owner]
  repeat (first | with_reducible refine wpAny_madeHere_exc G.canon hC ?_ | with_reducible refine wpAny_loadPart_at hC ?_ | (with_reducible refine wpAny_isSubtype_exc hC ?_; first | rw [mV] | rw [mA] | rw [mN]) | wp_step)
  have grows : ∀ b o, hp.get? b = some o → ((hp.push (kdv_tup [])).push (excO C hp.objs.size)).get? b = some o := fun b o e => Heap.get?_push_of_some _ (Heap.get?_push_of_some _ e)
  have fresh : ((hp.push (kdv_tup [])).push (excO C hp.objs.size)).get? (hp.objs.size + 1) = some (excO C hp.objs.size) := by heap_get
  have self_in : (Value.ref C :: cm).contains (.ref C) = true := by simp
  have C' := grows _ _ hC
  have found' := found.keeps grows
  have bound' := (bound (.ref (hp.objs.size + 1))).keeps grows
  show wpAny _ _ _ _ _ _
  rw [Heap.size_push]
  refine wpAny_isSubtype_exc C' ?_
  rw [self_in]
  repeat (first | with_reducible refine wpAny_loadPart_at fresh ?_ | wp_step)
  show wpAny _ _ (typeLookup (.ref C) _) _ _ _
  refine found'.at (wpAny_holding (wpAny_bind (bound'.at (wpAny_bind (wpAny_call (codeAny_mono next fun r s' y => ?_))))))
  match r, y with
  | .error _, y => exact y
  | .ok .next, y => exact y.elim
  | .ok .brk, y => exact y.elim
  | .ok .cont, y => exact y.elim
  | .ok (.ret v), y =>
    obtain ⟨rfl, y⟩ := y
    first
      | exact wpAny_pure (wpAny_pure y)
      | (wp_walk; exact y)
theorem called_by_kw (hm : refsVE cm = true) {kws : List (Str × Value)} {f0 : Addr} (hC : hp.get? C = some (excClassObj cn cq C cN cb cm true slotn subs abst coll cdoc z0 z1 z2 z3 z5 "ValueError.__new__"))
    (found : Looks (model prog w) hp (typeLookup (.ref C) "__init__") (some (.ref f0))) (bound : ∀ me, Looks (model prog w) hp (bindSpecial (.ref f0) me) (.ref f0, [me]))
    (next : codeAny (model prog w) (A.under (.builtin "type.__call__" ⟨[.ref C], kws⟩)) (.call (.ref f0) ⟨[.ref (hp.objs.size + 1)], kws⟩) (InitBack (hp.objs.size + 1) R) ⟨(hp.push (kdv_tup [])).push (excO C hp.objs.size), gs, dr, tk, os⟩) :
    codeAny (model prog w) A (.call (.ref C) ⟨[], kws⟩) R ⟨hp, gs, dr, tk, os⟩ := by
  have l1 := tc_lookup
  have l2 := tc_bind (.ref C)
  have ty : (⟨hp, gs, dr, tk, os⟩ : Shared).TypeIs (.ref C) "type" := ⟨_, hC, rfl⟩
  refine codeAny_of_tree ?_
  show wpAny _ _ (callAny (.ref C) _) _ _ _
  repeat (any_goals (first | assumption | with_reducible refine wpAny_loadPart_at hC ?_ | wp_step))
  refine ⟨rfl, codeAny_call_builtin_at (Code.quiet_builtin _ (by decide +kernel)) entry_typeCall (wpAny_check_type_call_sub hC (made_by_kw hm hC found bound (codeAny_mono next fun r s' y => ?_)))⟩
  match r, y with
  | .error _, y => exact y
  | .ok .next, y => exact y
  | .ok .brk, y => exact y
  | .ok .cont, y => exact y
  | .ok (.ret _), y => exact y
end
/-! ### the class of an exception that has a dict -/
section
variable {prog : Program} {w : World} {A : Around} {E : Value → Shared → Prop} {s : Shared} {K : Frag} {x D : Addr} {ox : Obj} {od : Option Obj}
theorem asked_class (c : L2.ExcC K D) {Q : Option Value → Shared → Prop} (hK : K.In s.heap) (J : InstAt s.heap x ox D od) (q : Q (some (.ref D)) { s with toks := s.toks + 1 }) : wpAny (model prog w) A (getAttr? (.ref x) "__class__") Q E s := by
  obtain ⟨cd, hcd, _⟩ := any_some c.hd
  have hfind : findObj K D od "__class__" = some (.bind (.builtin "getset_descriptor.__get__") (.builtin "object.__class__")) := by
    unfold findObj
    rw [hcd, Option.bind_some, c.ha, Option.bind_some]
    simp [c.hn, c.ht]
  obtain ⟨hp, gs, dr, tk, os⟩ := s
  have l0 := J.type (M := model prog w)
  have l1 := looks_findIn (M := model prog w) hK c.hg
  have l2 := looks_findIn (M := model prog w) hK c.hk
  have l3 := looks_find (M := model prog w) hK J hfind
  have below : Looks (model prog w) hp (isInstance (.ref x) (.type "BaseException")) true := l0.andThen (looks_subIn hK c.hs)
  have other : (onTheHeap (Value.ref D) && Value.builtin "BaseException.__getattribute__" == Value.builtin "object.__getattribute__") = false := by
    rw [show (Value.builtin "BaseException.__getattribute__" == Value.builtin "object.__getattribute__") = false by decide +kernel]
    rfl
  unfold getAttr? getAttrBy? getAttrBy
  refine wpAny_bind (wpAny_mkText (wpAny_bind (wpAny_attempt (wpAny_holding (wpAny_bind (l0.at (wpAny_bind (l1.at ?_))))))))
  show wpAny _ _ (if (onTheHeap (Value.ref D) && Value.builtin "BaseException.__getattribute__" == Value.builtin "object.__getattribute__") = true then _ else _) _ _ _
  rw [other, if_neg Bool.false_ne_true]
  unfold getAttrByItsOwn hookBefore
  refine wpAny_bind ?_
  rw [if_pos (show onTheHeap (Value.ref D) = true from rfl)]
  refine l2.at (wpAny_bind (wpAny_attempt (wpAny_holding ?_)))
  unfold callGetattribute
  rw [show (false && onTheHeap (Value.builtin "BaseException.__getattribute__")) = false from rfl, if_neg Bool.false_ne_true]
  unfold boundAndCalled
  rw [PySem.F.excAttr_ValueError.ga.bind (.ref x)]
  refine wpAny_bind (wpAny_pure ?_)
  show wpAny _ _ (call (.builtin "BaseException.__getattribute__") [.ref x, .str "__class__" tk]) _ _ _
  refine wpAny_call (codeAny_call_builtin PySem.F.excAttr_ValueError.ga.plain PySem.F.entry_bexc_ga ?_)
  refine @check_slot (model prog w) _ _ ⟨hp, gs, dr, tk + 1, os⟩ "BaseException.__getattribute__" "BaseException" "__getattribute__" (.ref x) [.str "__class__" tk] [] _ (by decide +kernel) (by decide +kernel) below (PySem.F.args_bexc_ga (.ref x) (.str "__class__" tk)) ?_
  unfold Builtin.«object.__getattribute__»
  refine wpAny_bind (wpAny_of_eq (a := ((Value.ref x : Value), [Value.str "__class__" tk])) (by first | rfl | (simp only [slotArgs]; rfl)) (wpAny_bind (wpAny_pure (wpAny_bind (l0.at (wpAny_bind (l3.at ?_)))))))
  show wpAny _ _ (holding [Value.builtin "object.__class__"] (call (.builtin "getset_descriptor.__get__") [.builtin "object.__class__", .ref x, .ref D]) >>= ret) _ _ _
  refine wpAny_bind (wpAny_holding (wpAny_call (class_get (s := ⟨hp, gs, dr, tk + 1, os⟩) (ox := ox) (od := od) hK J c.hm (wpAny_pure ?_))))
  show wpAny _ _ (handedOut (.ref D)) _ _ _
  rw [handedOut_of (v := .ref D) rfl]
  first
    | exact wpAny_pure (wpAny_pure q)
    | exact wpAny_pure q
    | exact wpAny_pure (wpAny_bind (wpAny_pure (wpAny_pure q)))
theorem cls_obj {cd : ClassData} (h : clsIn K D = some cd) : ∃ c d sl, K.lookup D = some ⟨c, d, .cls cd, sl⟩ := by
  unfold clsIn at h
  split at h
  · rename_i e
    cases h
    exact ⟨_, _, _, e⟩
  · cases h
theorem kit_exc (c : L2.ExcC K D) : KitX K (.ref x) (.ref D) (fun h => InstAt h x ox D od) where
  ty := fun _ _ _ J => J.type
  it := fun _ _ hK _ => by
    obtain ⟨cd, hcd, _⟩ := any_some c.hd
    obtain ⟨_, _, _, e⟩ := cls_obj hcd
    intro A' Q' E' s' k q
    unfold isType loadHead
    exact wpAny_bind (wpAny_loadPart (k _ _ (hK _ _ e)) (wpAny_pure q))
  ne := fun h tp dd its n sl hK htp => by
    obtain ⟨cd, hcd, _⟩ := any_some c.hd
    obtain ⟨_, _, _, e⟩ := cls_obj hcd
    refine Bool.eq_false_iff.mpr fun q => ?_
    have same : D = tp := Value.ref.inj (beq_iff_eq.mp q)
    have two := (hK _ _ e).symm.trans (same ▸ htp)
    cases two
  ca := fun hK J q => asked_class c hK J q
end
end PlayL
set_option Elab.async false
set_option linter.all false
set_option maxRecDepth 100000
set_option maxHeartbeats 4000000
namespace L2
namespace Pl
open PySem PySem.Spec PyProof.Rows
/-! ### heaps in which one exception more stands: at a, its dict at d, its one attribute f -/
def exH (H : Hp) (a d C : Addr) (f : Str) (v : V) : Hp := upd (upd H d (exd d [(f, v)])) a (exo a C (some d))
section
variable {H : Hp} {a d C : Addr} {f : Str} {v : V}
theorem exH_at : exH H a d C f v a = some (exo a C (some d)) := upd_same
theorem exH_dict (h : d ≠ a) : exH H a d C f v d = some (exd d [(f, v)]) := (upd_ne h).trans upd_same
theorem exH_else {b : Addr} (h1 : b ≠ a) (h2 : b ≠ d) : exH H a d C f v b = H b := (upd_ne h1).trans (upd_ne h2)
theorem exH_same (h1 : H a = none) (h2 : H d = none) : Same H (exH H a d C f v) := fun b o e => (exH_else (ne_of_none e h1) (ne_of_none e h2)).trans e
theorem exH_over {o : HO} (h : d ≠ a) : upd (upd (upd H a o) d (exd d [(f, v)])) a (exo a C (some d)) = exH H a d C f v := funext fun b => by
  by_cases hb : b = a
  · rw [hb, upd_same, exH_at]
  · by_cases hd : b = d
    · rw [hd, upd_ne h, upd_same, exH_dict h]
    · rw [exH_else hb hd, upd_ne hb, upd_ne hd, upd_ne hb]
end
/-- self.f = f and no more -/
def spIni (C : Addr) (f : Str) : Sp := fun vs H Q _ => ∃ (a : Addr) (v : V), vs = [.ref a, v] ∧ H a = some (exo a C none) ∧ ∀ d, H d = none → d ≠ a → Q .non (exH H a d C f v)
/-- an own exception class x at C, its __init__ at fI stores its one argument in f -/
structure ExV (P : Program) (w : World) (K : PySem.W.Frag) (mg : Str → Option Value) (base : Heap) (x f : Str) (C fI : Addr) : Prop where
  gC : mg x = some (.ref C)
  o : OexC K C
  e : ExcC K C
  nf : PySem.W.findIn K (.ref C) f = some none
  iC : PySem.W.findIn K (.ref C) "__init__" = some (some (.ref fI))
  tI : PySem.W.typeIn K (.ref fI) = some (.type "function")
  ini : ∃ fd, FnOk P w K mg base CX0 1 fI fd ["self", f] (spIni C f) ∧ Binds K fd ["self", f] [] ∧ KBn K fd ["self", f] 1 [f] (fun us ws => us ++ ws) (fun vs zs => vs ++ zs)
/-- a new exception of the one argument -/
def tEx (C : Addr) (f : Str) (t : TA) : TE := fun σ H Q => t σ H fun vs H1 => ∃ v, vs = [v] ∧ ∀ a d, H1 a = none → H1 d = none → d ≠ a → Q (.ref a) (exH H1 a d C f v)
section
variable {X : Cx} {x f : Str} {C fI : Addr} {p pos kpos : Pos} {e : Expr} {t : TA} {te : TE} {pins : List (Addr × Obj)} {σ : St} {H : Hp} {s : Shared} {Q : VK} {v : V} {u : Value}
theorem ex_made (T : ExV X.prog X.w X.K X.mg X.base x f C fI) (hr : Room 2 X.A) (I : Inv X pins σ H s) (r : RelV v u) (us : List Value) (kw : List (Str × Value)) (hus : us.length ≤ sizeLine) (one : us = [u] ∧ kw = [] ∨ us = [] ∧ kw = [(f, u)])
    (h : ∀ a d, H a = none → H d = none → d ≠ a → Q (.ref a) (exH H a d C f v)) : wpAny (model X.prog X.w) X.A (call (.ref C) us kw) (EP X pins σ Q) X.xe s := by
  obtain ⟨cn, cq, cN, cb, cm, slotn, subs, abst, coll, cdoc, z0, z1, z2, z3, z5, hC, hm⟩ := T.o.cls
  obtain ⟨fd, ok1, bnd, kbnd⟩ := T.ini
  obtain ⟨hp, gs, dr, tk, os⟩ := s
  let e0 : Addr := hp.objs.size + 1
  have big : hp.objs.size ≤ e0 := Nat.le_succ _
  have he0 : H e0 = none := I.hok.fresh big
  let h2 : Heap := (hp.push (PySem.W.kdv_tup us)).push (PySem.HandSPX.excO C hp.objs.size)
  have laid : ∀ b o, hp.get? b = some o → h2.get? b = some o := fun b o q => Heap.get?_push_of_some _ (Heap.get?_push_of_some _ q)
  have at0 : h2.get? e0 = some (PySem.HandSPX.excO C hp.objs.size) := by
    show ((hp.push (PySem.W.kdv_tup us)).push (PySem.HandSPX.excO C hp.objs.size)).get? (hp.objs.size + 1) = _
    heap_get
  have J : Inv X pins σ (upd H e0 (exo e0 C none)) ⟨h2, gs, dr, tk, os⟩ := I.laid (t' := tk) laid big (exo_ok at0)
  have asks : spIni C f [V.ref e0, v] (upd H e0 (exo e0 C none)) (fun y H2 => y = .non ∧ Q (.ref e0) H2) (fun _ _ _ => False) :=
    ⟨_, _, rfl, upd_same, fun d hd hne => ⟨rfl, by
      have q := h e0 d he0 ((upd_ne hne).symm.trans hd) hne
      rw [← exH_over (o := exo e0 C none) hne] at q
      exact q⟩⟩
  have bt : ∀ s' : Shared, X.K.In s'.heap → BindsTo s' fd ⟨Value.ref e0 :: us, kw⟩ ((["self", f] : List Str).zip [Value.ref e0, u]) := fun s' hK => by
    rcases one with ⟨rfl, rfl⟩ | ⟨rfl, rfl⟩
    · exact bnd s' [.ref e0, u] hK rfl
    · exact kbnd.to s' [.ref e0] [u] hK rfl rfl
  have run := ok1.run (X.A.under (.builtin "type.__call__" ⟨.ref C :: us, kw⟩)) X.stack _ _ ⟨Value.ref e0 :: us, kw⟩ [Value.ref e0, u] _ _ (fun _ _ _ => False) (hr.make C us kw) (J.env0.make C us kw) (bt _ J.kIn) (show Vals [V.ref e0, v] [Value.ref e0, u] from .cons rfl (.cons r .nil)) asks
  have back := codeAny_mono (R' := PySem.W.InitBack e0 fun r s' => match r with | .ok (.ret y) => EP X pins σ Q y s' | .ok _ => False | .error er => X.xe er s') run fun r s' y => by
    match r, y with
    | .error _, y => exact y.elim
    | .ok .next, y => exact y.elim
    | .ok .brk, y => exact y.elim
    | .ok .cont, y => exact y.elim
    | .ok (.ret _), y =>
      obtain ⟨_, H3, I3, rv, rfl, q⟩ := J.after y
      exact ⟨rv, V.ref e0, H3, I3, rfl, q⟩
  have f1 := PySem.W.looks_findIn (M := model X.prog X.w) I.kIn T.iC
  have f2 : ∀ me, PySem.W.Looks (model X.prog X.w) hp (bindSpecial (.ref fI) me) (.ref fI, [me]) := fun me => PySem.W.bind_fn I.kIn me T.tI
  rcases one with ⟨rfl, rfl⟩ | ⟨rfl, rfl⟩
  · exact wpAny_call (PySem.HandSPX.call_own F.excBase_ValueError (fun Y => PySem.HandSPX.refsVE_contains Y cm hm) (I.kIn _ _ hC) f1 f2 hus back)
  · exact wpAny_call (PlayL.called_by_kw hm (I.kIn _ _ hC) f1 f2 back)
theorem pe_ex (T : ExV X.prog X.w X.K X.mg X.base x f C fI) (hr : Room 2 X.A) (hg : Gl X x) (ha : PA X [e] t)
    (hdb : (x == ("__debug__" : Str)) = false := by decide) (he : starEach [e] X.env = (false, eval e X.env) :: starEach [] X.env := by rfl) (hpl : (backTo pos (starEach [] X.env)).any (·.1) = false := by rfl) :
    PE X (.Call (.Name x p) [e] [] pos) (tEx C f t) := by
  refine ⟨fun pins s σ H Q I h => wpAny_Call_Name_kw (ld_glob I hg T.gC ?_ hdb)⟩
  refine PySem.W.callWith_K (h₀ := X.base) I.ok.mod.kin T.o.kC (thn (ha.run pos pins s σ H _ I h) fun us s1 ⟨vs, H1, I1, r, v, ev, q⟩ => ⟨I1.kIn, ?_⟩) he hpl
  subst ev
  obtain ⟨u, rfl, ru⟩ := vals1 r
  exact ex_made T hr I1 ru [u] [] (by show 1 ≤ sizeLine; rw [sizeLine_eq]; omega) (.inl ⟨rfl, rfl⟩) q
/-- C(f = e) -/
theorem pe_exK (T : ExV X.prog X.w X.K X.mg X.base x f C fI) (hr : Room 2 X.A) (hg : Gl X x) (he : PE X e te)
    (hdb : (x == ("__debug__" : Str)) = false := by decide) (hall : (backToKw pos (keywordEach [⟨some f, e, kpos⟩] X.env)).all (·.1.isSome) = true := by rfl) (hks : (backToKw pos (keywordEach [⟨some f, e, kpos⟩] X.env)).filterMap (·.1) = [f] := by rfl)
    (hpl : ((backTo pos (starEach [] X.env)).any (·.1) || (backToKw pos (keywordEach [⟨some f, e, kpos⟩] X.env)).any (·.1.isNone)) = false := by rfl) :
    PE X (.Call (.Name x p) [] [⟨some f, e, kpos⟩] pos) (tEx C f (tCons te tNil)) := by
  refine ⟨fun pins s σ H Q I h => wpAny_Call_Name_kw (ld_glob I hg T.gC ?_ hdb)⟩
  refine PySem.W.callWith_KW0 (h₀ := X.base) I.ok.mod.kin T.o.kC hall (thn ((pk_cons he pk_nil).run pos pins s σ H _ I h) fun ws s1 ⟨zs, H1, I1, r, v, ev, q⟩ => ⟨I1.kIn, ?_⟩) hpl
  rw [hks]
  subst ev
  obtain ⟨u, rfl, ru⟩ := vals1 r
  exact ex_made T hr I1 ru [] [(f, u)] (Nat.zero_le _) (.inr ⟨rfl, rfl⟩) q
end
/-! ### reading it, asking its class -/
/-- e.f, e an exception of the class at C that is tracked -/
def tXv (K : PySem.W.Frag) (f : Str) (te : TE) : TE := fun σ H Q => te σ H fun x H1 => ∃ (a C d : Addr) (fs : List (Str × V)) (v : V), x = .ref a ∧ H1 a = some (exo a C (some d)) ∧ H1 d = some (exd d fs) ∧ ExcC K C ∧ PySem.W.findIn K (.ref C) f = some none ∧ fs.lookup f = some v ∧ Q v H1
section
variable {X : Cx} {e : Expr} {te : TE} {f : Str} {pos : Pos}
theorem inst_at {pins : List (Addr × Obj)} {σ : St} {H : Hp} {s : Shared} {a C d : Addr} {fs : List (Str × V)} (I : Inv X pins σ H s) (ea : H a = some (exo a C (some d))) (ed : H d = some (exd d fs)) :
    ∃ (ox od : Obj), PySem.W.InstAt s.heap a ox C (some od) ∧ ∃ mA : Str → Option Value, (∀ f : Str, RelO (fs.lookup f) (mA f)) ∧ ∀ f : Str, PySem.W.lookIn f od = some (mA f) := by
  obtain ⟨t1, ho⟩ := exo_at I.hok ea
  obtain ⟨mA, hns, hrel⟩ := exd_at I.hok ed
  obtain ⟨od, hod, hl⟩ := lookIn_ns hns
  exact ⟨_, od, ⟨ho, rfl, rfl, hod⟩, mA, hrel, hl⟩
theorem pe_xv (he : PE X e te) (hb : attributeBase e f X.env (eval e X.env) = eval e X.env := by rfl) : PE X (.Attribute e f pos) (tXv X.K f te) := by
  refine ⟨fun pins s σ H Q I h => attr_of hb (thn (he.run pins s σ H _ I h) fun u s1 ⟨x, H1, I1, rx, a, C, d, fs, v, ex, ea, ed, c, no, l, q⟩ => ?_)⟩
  subst ex
  obtain rfl : u = Value.ref a := rx
  obtain ⟨ox, od, J, mA, hrel, hl⟩ := inst_at I1 ea ed
  obtain ⟨y, hy, ry⟩ := RelO.some_of (v := v) (o := mA f) (by rw [← l]; exact hrel f)
  exact PySem.HandSPX.exc_get I1.kIn J c.hg c.hk c.hs (PySem.W.findObj_own c.hd no rfl (by rw [hl, hy])) (handed_of ry) ⟨v, H1, I1.tok _, ry, q⟩
/-- isinstance(e, c) -/
def rIsV (K : PySem.W.Frag) : List V → Hp → VK → Prop := fun xs H Q => ∃ (a C d : Addr) (fs : List (Str × V)) (c : V) (cv : Value) (b : Bool), xs = [.ref a, c] ∧ H a = some (exo a C (some d)) ∧ H d = some (exd d fs) ∧ ExcC K C ∧ ClsV c cv ∧ PySem.W.kitOne K (.ref C) cv = some b ∧ Q (.bl b) H
theorem call_isV : CallR X (.builtin "isinstance") (rIsV X.K) := by
  intro pins s σ H xs us Q I r h
  obtain ⟨a, C, d, fs, c, cv, b, rfl, ea, ed, cc, kc, kit, q⟩ := h
  obtain ⟨u1, u2, rfl, r1, r2⟩ := vals2 r
  obtain rfl : u1 = Value.ref a := r1
  have e2 := kc.eq r2
  subst e2
  obtain ⟨ox, od, J, _⟩ := inst_at I ea ed
  exact PySem.W.kia_one (PlayL.kit_exc cc) I.kIn J kit (fun z => nomatch z) fun tk => ⟨.bl b, H, I.tok tk, rfl, q⟩
end
end Pl
end L2
set_option Elab.async false
set_option linter.all false
set_option maxRecDepth 100000
set_option maxHeartbeats 4000000
namespace L2
namespace Pl
open PySem PySem.Spec PyProof.Rows
/-! ### data: none, bools, ints, texts, lists, tuples, dicts with int and text keys -/
def keyD : Key → PyData
  | .inl i => .int i
  | .inr x => .str x
mutual
inductive Dq (K : PySem.W.Frag) (H : Hp) : V → PyData → Prop
  | non : Dq K H .non .none
  | bl (b : Bool) : Dq K H (.bl b) (.bool b)
  | int (i : Int) : Dq K H (.int i) (.int i)
  | str (x : Str) : Dq K H (.str x) (.str x)
  | lst {a : Addr} {xs : List V} {ds : List PyData} : H a = some (.lst xs) → DqAll K H xs ds → Dq K H (.ref a) (.list ds)
  | tup {a : Addr} {xs : List V} {ds : List PyData} : H a = some (.tup xs) → DqAll K H xs ds → Dq K H (.ref a) (.tuple ds)
  | dic {a : Addr} {kvs : List (Key × V)} {es : List (PyData × PyData)} : H a = some (.dK kvs) → DqKv K H kvs es → Dq K H (.ref a) (.dict es)
inductive DqAll (K : PySem.W.Frag) (H : Hp) : List V → List PyData → Prop
  | nil : DqAll K H [] []
  | cons {v : V} {vs : List V} {d : PyData} {ds : List PyData} : Dq K H v d → DqAll K H vs ds → DqAll K H (v :: vs) (d :: ds)
inductive DqKv (K : PySem.W.Frag) (H : Hp) : List (Key × V) → List (PyData × PyData) → Prop
  | nil : DqKv K H [] []
  | cons {k : Key} {v : V} {r : List (Key × V)} {d : PyData} {es : List (PyData × PyData)} : Dq K H v d → DqKv K H r es → DqKv K H ((k, v) :: r) ((keyD k, d) :: es)
end
/-- sys.modules stands in the written part -/
def SysK (K : PySem.W.Frag) : Prop := ∃ o, K.lookup sysModules = some o ∧ o.cls = .type "dict"
section
variable {X : Cx} {pins : List (Addr × Obj)} {σ : St} {H : Hp} {s : Shared}
theorem not_sys (hK : SysK X.K) (I : Inv X pins σ H s) {a : Addr} {o : Obj} (h : s.heap.get? a = some o) (hc : o.cls ≠ .type "dict") : sysModules ≠ a := fun e => by
  obtain ⟨u, hu, hd⟩ := hK
  have q := I.kIn _ _ hu
  rw [e, h] at q
  exact hc (by rw [Option.some.inj q, hd])
theorem pairs_of : ∀ {kvs : List (Key × V)} {vs : List (Key × Value)} {es : List (PyData × PyData)}, KV kvs vs → (∀ (i : Nat) (v : V) (d : PyData) (u : Value), (kvs[i]?.map (·.2)) = some v → (es[i]?.map (·.2)) = some d → RelV v u → ∃ as, Reads s.heap u d as ∧ sysModules ∉ as) →
    es.map (·.1) = kvs.map (fun p => keyD p.1) → ∃ bs, PyProof.V.PairsRead s.heap keyD vs es bs ∧ sysModules ∉ bs
  | [], _, [], .nil, _, _ => ⟨[], .nil, fun h => nomatch h⟩
  | _ :: _, _, [], _, _, e => by cases e
  | [], _, _ :: _, _, _, e => by cases e
  | (k, v) :: r, (k', u) :: us, (kd, d) :: es, .cons h1 h2, hr, e => by
    obtain ⟨e1, e2⟩ := List.cons.inj (show kd :: es.map (·.1) = keyD k :: r.map (fun p => keyD p.1) from e)
    obtain ⟨k1, k2⟩ := h1
    obtain ⟨bs, p, nb⟩ := pairs_of h2 (fun i v d u q1 q2 => hr (i + 1) v d u (by simpa using q1) (by simpa using q2)) e2
    obtain ⟨as, q, na⟩ := hr 0 v d u rfl rfl k2
    have k3 : k = k' := k1
    subst k3 e1
    exact ⟨_, .cons q p, fun h => (List.mem_append.mp h).elim na nb⟩
mutual
theorem Dq.reads (hK : SysK X.K) (I : Inv X pins σ H s) : ∀ (d : PyData) (v : V) (u : Value), Dq X.K H v d → RelV v u → ∃ as, Reads s.heap u d as ∧ sysModules ∉ as
  | .none, _, _, h, r => by
    cases h
    cases r
    exact ⟨_, Reads.none, fun h => nomatch h⟩
  | .bool b, _, _, h, r => by
    cases h
    cases r
    exact ⟨_, Reads.bool b, fun h => nomatch h⟩
  | .int i, _, _, h, r => by
    cases h
    obtain ⟨t, rfl⟩ := r
    exact ⟨_, Reads.int i t, fun h => nomatch h⟩
  | .str x, _, _, h, r => by
    cases h
    obtain ⟨t, rfl⟩ := r
    exact ⟨_, Reads.str x t, fun h => nomatch h⟩
  | .list ds, _, _, h, r => by
    cases h with
    | lst ha hx =>
      cases r
      obtain ⟨its, rv, ⟨o, n, ho, hc, _, hd⟩, _⟩ := I.list (.inl (.inl ha))
      obtain ⟨as, q, na⟩ := Dq.readsAll hK I ds _ its hx rv
      refine ⟨_, Reads.list ho hc hd q, fun h => ?_⟩
      rcases List.mem_cons.mp h with e | h
      · exact not_sys hK I ho (by rw [hc]; decide +kernel) e
      · exact na h
  | .tuple ds, _, _, h, r => by
    cases h with
    | tup ha hx =>
      cases r
      obtain ⟨its, rv, ⟨o, ho, hc, n, hd⟩, _⟩ := I.tuple (.inl (.inl ha))
      obtain ⟨as, q, na⟩ := Dq.readsAll hK I ds _ its hx rv
      exact ⟨_, Reads.tuple ho hc hd q, na⟩
  | .dict es, _, _, h, r => by
    cases h with
    | dic ha hx =>
      cases r
      rename_i a kvs
      obtain ⟨_, hS, vs, rel, hD⟩ := (show ObjOk X.prog X.w H s.heap a (.dK kvs) from I.hok a _ ha)
      obtain ⟨bs, p, nb⟩ := pairs_of (s := s) (es := es) rel (Dq.readsKv hK I es kvs hx).1 (Dq.readsKv hK I es kvs hx).2
      refine ⟨_, PyProof.V.reads_dictOf (fun k key hk => ?_) hD p, fun h => ?_⟩
      · rcases keyIs_shape (show keyIs k key = true from hk) with ⟨i, t, rfl, rfl⟩ | ⟨x, t, rfl, rfl⟩
        · exact Reads.int i t
        · exact Reads.str x t
      · rcases List.mem_cons.mp h with e | h
        · rw [← e] at hS
          exact absurd hS (by decide)
        · exact nb h
theorem Dq.readsAll (hK : SysK X.K) (I : Inv X pins σ H s) : ∀ (ds : List PyData) (vs : List V) (us : List Value), DqAll X.K H vs ds → Vals vs us → ∃ as, ReadsAll s.heap us ds as ∧ sysModules ∉ as
  | [], _, _, h, r => by
    cases h
    cases r
    exact ⟨_, ReadsAll.nil, fun h => nomatch h⟩
  | d :: ds, _, _, h, r => by
    cases h with
    | cons h1 h2 =>
      cases r with
      | cons r1 r2 =>
        obtain ⟨as, q1, n1⟩ := Dq.reads hK I d _ _ h1 r1
        obtain ⟨bs, q2, n2⟩ := Dq.readsAll hK I ds _ _ h2 r2
        exact ⟨_, ReadsAll.cons q1 q2, fun h => (List.mem_append.mp h).elim n1 n2⟩
theorem Dq.readsKv (hK : SysK X.K) (I : Inv X pins σ H s) : ∀ (es : List (PyData × PyData)) (kvs : List (Key × V)), DqKv X.K H kvs es → (∀ (i : Nat) (v : V) (d : PyData) (u : Value), (kvs[i]?.map (·.2)) = some v → (es[i]?.map (·.2)) = some d → RelV v u → ∃ as, Reads s.heap u d as ∧ sysModules ∉ as) ∧ es.map (·.1) = kvs.map (fun p => keyD p.1)
  | [], _, h => by
    cases h
    exact ⟨fun i v d u q1 _ _ => by simp at q1, rfl⟩
  | (kd, d) :: es, _, h => by
    cases h with
    | cons h1 h2 =>
      obtain ⟨q, e⟩ := Dq.readsKv hK I es _ h2
      refine ⟨fun i v d' u q1 q2 r => ?_, by rw [List.map_cons, List.map_cons, e]⟩
      cases i with
      | zero =>
        cases q1
        cases q2
        exact Dq.reads hK I d _ _ h1 r
      | succ i => exact q i v d' u (by simpa using q1) (by simpa using q2) r
end
end
/-- what a repr is told of -/
structure Shows (K : PySem.W.Frag) (H : Hp) (v : V) (d : PyData) : Prop where
  dat : Dq K H v d
  can : d.showable = true
  dep : d.depth ≤ 100
  len : d.shown.length ≤ sizeLine
/-- repr(x), x a list, a tuple or a dict of data -/
def rRepr (K : PySem.W.Frag) : List V → Hp → VK → Prop := fun xs H Q => ∃ (a : Addr) (d : PyData), xs = [.ref a] ∧ Shows K H (.ref a) d ∧ Q (.str d.shown) H
theorem call_reprD {X : Cx} {k : Nat} (hK : SysK X.K) (hg : X.A.guards = some []) (hr : Room k X.A) : CallR X (.builtin "repr") (rRepr X.K) := by
  intro pins s σ H xs us Q I r h
  obtain ⟨a, d, rfl, S, q⟩ := h
  obtain ⟨u, rfl, ru⟩ := vals1 r
  obtain rfl : u = Value.ref a := ru
  obtain ⟨as, rd, ns⟩ := Dq.reads hK I d _ _ S.dat rfl
  have z := hr.un
  have z2 := S.dep
  exact repr_of_reads' rd S.can (fun _ => ns) hg (by omega) (fun _ _ e => e) (fun h' t tk k => ⟨.str d.shown, H, I.kept (t' := tk) k, ⟨t, rfl⟩, q⟩) S.len
/-! ### powers of great ints -/
def CPowW (i j : Int) : Prop := 0 ≤ j ∧ (Builtin.Int.intBits i : Int) * j ≤ 2 ^ 27
theorem op_powW {X : Cx} : OpR X (binaryOp .Pow) (rI CPowW fun i j => .int (i ^ j.toNat)) := opI fun _ _ _ _ _ _ _ hc q => pow_int hc.1 hc.2 q
/-! ### defs that are called where no repr runs -/
structure FnG (P : Program) (w : World) (K : PySem.W.Frag) (mg : Str → Option Value) (base : Heap) (CX : CXT) (k : Nat) (f : Addr) (fd : FuncData) (ps : List Str) (sp : Sp) : Prop where
  len : ∀ vs H Q E, sp vs H Q E → vs.length = ps.length
  run : ∀ (A : Around), A.guards = some [] → ∀ (outer : List Env) (s : Shared) (H : Hp) (args : Args) (us : List Value) (vs : List V) (Q : VK) (E : XK), Room k A → Env0 P w K mg base A outer s H → BindsTo s fd args (ps.zip us) → Vals vs us → sp vs H Q E →
    codeAny (model P w) A (.call (.ref f) args) (CR CX outer P w H s Q E) s
section
variable {CX : CXT} {P : Program} {w : World} {K : PySem.W.Frag} {mg : Str → Option Value} {base : Heap} {k : Nat} {f : Addr}
theorem fnG_of {name qual : Str} {params : Arguments} {body : List Stmt} {scope : Scope} {dvs : List V} {kws : List (Str × V)} {fd : FuncData} {N ps : List Str} {sp : Sp} (F : FunD K name qual params body scope dvs kws f fd) (S : FnScope N ps scope)
    (len : ∀ vs H Q E, sp vs H Q E → vs.length = ps.length)
    (does : ∀ (cdv : Value) (A : Around), A.guards = some [] → ∀ (outer : List Env) (s : Shared) (H : Hp) (vs : List V) (Q : VK) (E : XK), Room k (A.deeper (envOfC qual scope s.heap.objs.size f cdv)) → sp vs H Q E →
      ∃ t, PSs (cxOf CX P w K mg base N qual scope f cdv A outer s H E) body t ∧ t { nx := fun _ H' => Q .non H', rt := Q } (start N vs) H) : FnG P w K mg base CX (k + 1) f fd ps sp := by
  obtain ⟨oc, od, dV, kV, doc, pm, an, cdv, ct, osl, rfl, lk, hcd, _, _⟩ := F.ex
  refine ⟨len, fun A hg outer s H args us vs Q E hr e0 hb r hsp => ?_⟩
  have old : ∀ b o, base.get? b = some o → s.heap.get? b = some o := fun b o e => (e0.bs b o e).1
  have hK : K.In s.heap := e0.mod.kin.keeps old
  refine codeAny_call_function hr.depth (hK _ _ lk) rfl S.co S.gen rfl (PySem.W.codeRec_of hK hcd) (hb _ _ _ _ (wpAny_newFunctionEnv_cells S.kind (fun y hy => ?_) fun env he s1 x => ?_))
  · rcases S.par y.1 (List.of_mem_zip (b := y.2) hy).1 with q | q
    · exact .inl q
    · exact .inr ⟨q, PySem.W.cellsFrom_some _ _ _ (.inl q)⟩
  · subst he
    obtain ⟨t, ht, hq⟩ := does cdv A hg outer s H vs Q E (hr.deeper _) hsp
    refine ⟨(e0.mod.nolimit.keeps old).keeps x.toInCall.keep, codeAny_func (wpAny_mono (ht.run [] s1 (start N vs) H _ (inv_start S hr.hd e0 (len _ _ _ _ hsp) r x) hq) (fun fl s' hs => ?_) fun _ _ hs => hs)⟩
    match fl, hs with
    | .ret u, ⟨v, _, H', J, rv, q⟩ => exact ⟨v, H', J.os, J.bare, J.base, J.hok, rv, q⟩
    | .next, ⟨_, H', J, q⟩ => exact ⟨.non, H', J.os, J.bare, J.base, J.hok, rfl, q⟩
    | .brk, ⟨_, _, _, q⟩ => exact q.elim
    | .cont, ⟨_, _, _, q⟩ => exact q.elim
end
end Pl
end L2
set_option Elab.async false
set_option linter.all false
set_option maxRecDepth 100000
set_option maxHeartbeats 4000000
namespace L2
namespace Pl
open PySem PySem.Spec PyProof.Rows
/-! ### the end of a law whose def may show things -/
section
variable {P : Program} {w : World} {K : PySem.W.Frag} {mg mb : Str → Option Value} {CX : CXT} {k : Nat} {fa a : Addr} {fd : FuncData} {x : Str} {sp : Sp} {s₁ : Shared} {vs : List Value} {ns : List Int}
abbrev scrO (vs : List Value) : Obj := { cls := .type "list", data := .seq vs.toArray }
/-- what is tracked at the law's entry: the script, if it is not of the written part -/
def entryH (K : PySem.W.Frag) (a : Addr) (vs : List Value) (ns : List Int) : Hp := fun b => if b = a ∧ K.lookup a = none then some (.frz (scrO vs) (.lst (ns.map V.int))) else none
theorem entryH_some {b : Addr} {u : HO} (h : entryH K a vs ns b = some u) : b = a ∧ K.lookup a = none ∧ u = .frz (scrO vs) (.lst (ns.map V.int)) := by
  unfold entryH at h
  split at h
  · rename_i e
    exact ⟨e.1, e.2, (Option.some.inj h).symm⟩
  · cases h
theorem law_runs (hK : K.In s₁.heap) (hns : s₁.heap.Ns mainGlobals mg) (hb : s₁.heap.Ns builtinsNs mb) (hbb : ∀ x : Str, x ≠ "__name__" → mb x = bootBuiltins x) (hlim : s₁.heap.NoLimit) (hg : s₁.gens = #[])
    (ha : s₁.heap.get? a = some (scrO vs)) (hi : IntsAre vs ns) (hl : ns.length ≤ sizeLine) (hr : Room k callerA)
    (F : ∀ base : Heap, K.In base → base.Ns mainGlobals mg → FnG P w K mg base CX k fa fd [x] sp) (hbind : ∀ (s : Shared) (u : Value), BindsTo s fd ⟨[u], []⟩ [(x, u)])
    (hsp : ∀ H : Hp, Only H → SqL K H a (ns.map V.int) → sp [.ref a] H (fun v _ => v = .bl true) fun _ _ _ => False)
    (hCX : ∀ H e s', CX [] H s₁ (fun _ _ _ => False) e s' → False) :
    codeAny (model P w) callerA (.call (.ref fa) ⟨[.ref a], []⟩) (fun r s' => r = .ok (.ret (.bool true)) ∧ OldK s₁.heap s'.heap ∧ s'.os = s₁.os ∧ AllBare s'.gens) s₁ := by
  let H : Hp := entryH K a vs ns
  have rel := vals_ints hi
  have short : (ns.map V.int).length ≤ sizeLine := by rw [List.length_map]; exact hl
  have only : Only H := fun b => by
    cases q : H b with
    | none => exact .inl rfl
    | some u => exact .inr ⟨_, _, by rw [(entryH_some q).2.2]⟩
  have held : HOk P w H s₁.heap := fun b u q => by
    obtain ⟨rfl, _, rfl⟩ := entryH_some q
    exact ⟨ha, short, vs, _, rel, ha⟩
  have script : SqL K H a (ns.map V.int) := by
    cases q : K.lookup a with
    | none => exact .inl (.inr ⟨scrO vs, if_pos ⟨rfl, q⟩⟩)
    | some o =>
      have e := (hK a o q).symm.trans ha
      have e2 : o = scrO vs := Option.some.inj e
      subst e2
      refine .inr ⟨_, vs.toArray, _, q, rfl, rfl, rfl, ?_, by simpa using rel⟩
      rw [List.size_toArray, hi.length]
      exact hl
  have stays : ∀ {b : Addr} {o : Obj}, s₁.heap.get? b = some o → (b = a → K.lookup a ≠ none) → (hidT s₁.heap H).get? b = some o := fun {b o} e n => hidT_get e (by
    cases q : H b with
    | none => rfl
    | some u =>
      obtain ⟨e1, e2, _⟩ := entryH_some q
      exact absurd e2 (n e1))
  have ofNs : ∀ {b : Addr} {m : Str → Option Value}, s₁.heap.Ns b m → (hidT s₁.heap H).Ns b m := fun {b m} ⟨o, es, ep, e, dd, rr⟩ => ⟨o, es, ep, stays e (fun z => by
    rw [z, ha] at e
    have e2 := Option.some.inj e
    rw [← e2] at dd
    cases dd), dd, rr⟩
  have ofK : K.In (hidT s₁.heap H) := fun b o e => stays (hK b o e) fun z q => by
    rw [z, q] at e
    cases e
  have modu : Mod K mg (hidT s₁.heap H) := ⟨ofK, ofNs hns, ⟨mb, ofNs hb, hbb⟩, hlim.elim fun c hc => ⟨c, ofNs hc.1, hc.2⟩⟩
  have env : Env0 P w K mg (hidT s₁.heap H) callerA [] s₁ H := ⟨rfl, modu, fun b o e => of_hidT e, Nat.le_of_eq (hidT_size _ _), trivial, (fun b hb => by cases hb), held, .of_eq hg⟩
  refine codeAny_mono ((F _ ofK (ofNs hns)).run callerA rfl [] s₁ H ⟨[.ref a], []⟩ [.ref a] [.ref a] _ _ hr env (hbind s₁ (.ref a)) (.cons rfl .nil) (hsp H only script)) fun r s' y => ?_
  match r, y with
  | .error e, y => exact (hCX H e s' y).elim
  | .ok .next, y => exact y.elim
  | .ok .brk, y => exact y.elim
  | .ok .cont, y => exact y.elim
  | .ok (.ret u), ⟨v, H', os, bare, un, held', ru, q⟩ =>
    subst q
    obtain rfl : u = Value.bool true := ru
    refine ⟨rfl, OldK.of_keep fun b o e => ?_, os, bare⟩
    cases q : H b with
    | none => exact un.keep b o e q (fun z => by cases z) (fun z => by cases z)
    | some t =>
      obtain ⟨rfl, _, rfl⟩ := entryH_some q
      have there := un.frzs b _ _ q
      have now := held' b _ there
      rw [ha] at e
      rw [← Option.some.inj e]
      exact now.1
end
/-- a law: F gives the written part, the function object, the promise; the script's bits are told, and that no repr runs around -/
theorem walk_G {l : PySem.W.OpenLaw} {n k : Nat} {q : Program} {loose : List Str} {XP : (Str → Option Value) → Heap → Prop} {YP : World → Heap → Prop} {d : DefRec} {CX : World → CXT} {x : Str}
    (hn : l.most = some n) (hn2 : n ≤ sizeLine) (hdf : d.params.defaults = []) (hr : Room k callerA)
    (F : ∀ (w : World) (mg : Str → Option Value) (fa : Addr) (h : Heap), YP w h → h.Ns mainGlobals mg → mg d.name = some (.ref fa) →
      ∃ (K : PySem.W.Frag) (fd : FuncData) (sp : Sp), K.In h ∧ (∀ (s : Shared) (u : Value), BindsTo s fd ⟨[u], []⟩ [(x, u)]) ∧
        (∀ (H : Hp) (a : Addr) (ns : List Int), ns.length ≤ n → (∀ z ∈ ns, Builtin.Int.intBits z ≤ 1048576) → Only H → SqL K H a (ns.map V.int) → sp [.ref a] H (fun v _ => v = .bl true) fun _ _ _ => False) ∧
        ∀ base : Heap, K.In base → base.Ns mainGlobals mg → FnG l.prog w K mg base (CX w) k fa fd [x] sp)
    (hCX : ∀ (w : World) (H : Hp) (s : Shared) (e : Value) (s' : Shared), CX w [] H s (fun _ _ _ => False) e s' → False) :
    PySem.W.WalkO q loose XP YP l.row.toRowW d [] (fun f vs => PySem.call f vs) :=
  Att.attach_callB hn hdf fun w s₀ s₁ mg mb fa o pm cd doc a vs ns G Y ho hd hcd hmg hobj hints hlen hbits hg => by
    obtain ⟨K, fd, sp, hK, hb, hsp, hF⟩ := F w mg fa _ Y G.T.g hmg
    exact law_runs hK G.T.g G.T.b G.T.builtins G.T.nolimit hg hobj hints (Nat.le_trans hlen hn2) hr hF hb (fun H hO hS => hsp H a ns hlen hbits hO hS) fun H e s' => hCX w H s₁ e s'
end Pl
end L2
set_option Elab.async false
set_option linter.all false
set_option maxRecDepth 100000
set_option maxHeartbeats 4000000
namespace L2
namespace Pl
open PySem PySem.Spec PyProof.Rows
/-! ### facts of the head by one Bool -/
abbrev Fr := PySem.W.Frag
def isB (a b : Option (Option Value)) : Bool := decide (a = b)
/-- the class object at C is one of an own exception over ValueError -/
def klsB (K : Fr) (C : Addr) : Bool := match K.lookup C with
  | some ⟨.type t, _, .cls cd, sl⟩ => (match cd.mro, sl.toList with
    | .ref c :: bm, [_, _, _, _, some (.builtin n), _] => decide (t = "type") && (decide (c = C) && (decide (n = "ValueError.__new__") && (!cd.hasDel && (cd.hasDict && PySem.HandSPX.refsVE bm))))
    | _, _ => false)
  | _ => false
theorem kls_ok {K : Fr} {C : Addr} (h : klsB K C = true) : ∃ nm q N bs bm sn sub ab col dd k0 k1 k2 k3 k5, K.lookup C = some (excClassObj nm q C N bs bm true sn sub ab col dd k0 k1 k2 k3 k5 "ValueError.__new__") ∧ PySem.HandSPX.refsVE bm = true := by
  unfold klsB at h
  split at h
  · rename_i t dd cd sl found
    split at h
    · rename_i c bm y0 y1 y2 y3 n y5 em es
      obtain ⟨h1, h⟩ := He.ba h
      obtain ⟨h2, h⟩ := He.ba h
      obtain ⟨h3, h⟩ := He.ba h
      obtain ⟨h4, h⟩ := He.ba h
      obtain ⟨h5, h6⟩ := He.ba h
      have e1 := of_decide_eq_true h1
      have e2 := of_decide_eq_true h2
      have e3 := of_decide_eq_true h3
      obtain ⟨cn, cb, cm, cns, cq, chd, csn, csub, cab, ccol, cdel⟩ := cd
      dsimp only at em h4 h5
      have e4 : cdel = false := by simpa using h4
      obtain ⟨l⟩ := sl
      dsimp only at es
      subst e1 e2 e3 e4 em h5 es
      exact ⟨cn, cq, cns, cb, bm, csn, csub, cab, ccol, dd, y0, y1, y2, y3, y5, found, h6⟩
    · cases h
  · cases h
/-- all that ExV asks of the class x, but its __init__'s promise -/
def excB (K : Fr) (x f : Str) : Bool :=
  let C := He.ga K x
  isB (PySem.W.nsIn K mainGlobals x) (some (some (.ref C))) && (klsB K C && (isB (PySem.W.findIn K (.ref C) "__setattr__") (some (some (.builtin "object.__setattr__"))) && (decide (PySem.W.subIn K (.ref C) (.type "BaseException") = some true) && (decide (PySem.W.typeIn K (.ref C) = some (.type "type")) && (PySem.W.keepIn K (.ref C) &&
  (isB (PySem.W.findIn K (.ref C) "__getattribute__") (some (some (.builtin "BaseException.__getattribute__"))) && (isB (PySem.W.findIn K (.ref C) "__getattr__") (some none) && (PySem.W.hasDictIn K C && (isB (PySem.W.findIn K (.ref C) "__class__") (some (some (.builtin "object.__class__"))) && (isB (PySem.W.specialIn K (.builtin "object.__class__") "__get__") (some (some (.builtin "getset_descriptor.__get__"))) &&
  (decide (PySem.W.takesIn K (.builtin "object.__class__") = some true) && (decide (PySem.W.mroIn K C (.type "object") = some true) && (isB (PySem.W.findIn K (.ref C) f) (some none) && (isB (PySem.W.findIn K (.ref C) "__init__") (some (some (.ref (He.ma K C "__init__")))) && decide (PySem.W.typeIn K (.ref (He.ma K C "__init__")) = some (.type "function"))))))))))))))))
structure ExF (K : Fr) (x f : Str) : Prop where
  gl : PySem.W.nsIn K mainGlobals x = some (some (.ref (He.ga K x)))
  o : OexC K (He.ga K x)
  e : ExcC K (He.ga K x)
  nf : PySem.W.findIn K (.ref (He.ga K x)) f = some none
  iC : PySem.W.findIn K (.ref (He.ga K x)) "__init__" = some (some (.ref (He.ma K (He.ga K x) "__init__")))
  tI : PySem.W.typeIn K (.ref (He.ma K (He.ga K x) "__init__")) = some (.type "function")
theorem exc_ok {K : Fr} {x f : Str} (h : excB K x f = true) : ExF K x f := by
  obtain ⟨h1, h⟩ := He.ba h
  obtain ⟨h2, h⟩ := He.ba h
  obtain ⟨h3, h⟩ := He.ba h
  obtain ⟨h4, h⟩ := He.ba h
  obtain ⟨h5, h⟩ := He.ba h
  obtain ⟨h6, h⟩ := He.ba h
  obtain ⟨h7, h⟩ := He.ba h
  obtain ⟨h8, h⟩ := He.ba h
  obtain ⟨h9, h⟩ := He.ba h
  obtain ⟨h10, h⟩ := He.ba h
  obtain ⟨h11, h⟩ := He.ba h
  obtain ⟨h12, h⟩ := He.ba h
  obtain ⟨h13, h⟩ := He.ba h
  obtain ⟨h14, h⟩ := He.ba h
  obtain ⟨h15, h16⟩ := He.ba h
  exact ⟨of_decide_eq_true h1, ⟨kls_ok h2, of_decide_eq_true h3, of_decide_eq_true h4, of_decide_eq_true h5, h6⟩,
    ⟨of_decide_eq_true h7, of_decide_eq_true h8, of_decide_eq_true h4, h9, of_decide_eq_true h10, of_decide_eq_true h11, of_decide_eq_true h12, of_decide_eq_true h13⟩, of_decide_eq_true h14, of_decide_eq_true h15, of_decide_eq_true h16⟩
/-- sys.modules is looked at, too -/
def sysB (K : Fr) : Bool := match K.lookup sysModules with
  | some ⟨.type t, _, _, _⟩ => decide (t = "dict")
  | _ => false
theorem sys_ok {K : Fr} (h : sysB K = true) : SysK K := by
  unfold sysB at h
  split at h
  · rename_i t _ _ _ e
    exact ⟨_, e, congrArg Value.type (of_decide_eq_true h)⟩
  · cases h
/-! ### the Hook: the defs, and a Bool of one's own -/
def fragP (n : Nat) (g : Addr → Option Obj) : Fr := He.frG g (sysModules :: He.asD g n)
abbrev AlP : Type := He.AlD × Bool
def obsP (n : Nat) (fa : List He.Fa) (fn : List He.DefD) (ex : Fr → Bool) (g : Addr → Option Obj) : AlP := (He.obsD fa fn (fragP n g), ex (fragP n g))
structure SaysP (fa : List He.Fa) (fn : List He.DefD) (ex : Fr → Bool) (K : Fr) : Prop where
  d : He.SaysD fa fn K
  more : ex K = true
def hookP (n : Nat) (fa : List He.Fa) (fn : List He.DefD) (ex : Fr → Bool) : PySem.W.Hook where
  α := AlP
  obs := fun s => obsP n fa fn ex s.heap.get?
  val := fun _ => (He.valD fn, true)
  says := fun _ h => ∃ K : Fr, K.In h ∧ SaysP fa fn ex K
  of := fun _ _ e => ⟨_, He.frG_in, congrArg (fun z : AlP => z.1) e, congrArg (fun z : AlP => z.2) e⟩
  keeps := fun _ _ _ ⟨K, hK, c⟩ k => ⟨K, PySem.W.Frag.In.keeps hK k, c⟩
theorem obsP_eq {n : Nat} {fa : List He.Fa} {fn : List He.DefD} {ex : Fr → Bool} {g : Addr → Option Obj} {s : Shared} (h : ∀ a, g a = s.heap.get? a) : obsP n fa fn ex g = (hookP n fa fn ex).obs s := by
  have e : g = s.heap.get? := funext h
  rw [e] <;> rfl
end Pl
end L2
set_option Elab.async false
set_option linter.all false
set_option maxRecDepth 100000
set_option maxHeartbeats 0
namespace Bs
open PySem PySem.Spec PyProof.Rows L2 L2.Pl
abbrev rw0 := PySem.Challenge.rw_playedlate_k30_days_played_again
def top (i : Nat) : Stmt := PySem.Challenge.pw_playedlate_k30_days_played_again.main.body.getD i (.Pass ⟨0, 0, 0, 0⟩)
abbrev sRowsFrom : Stmt := top 1
abbrev sRowWhere : Stmt := top 2
abbrev sParting : Stmt := top 4
abbrev sAlike : Stmt := top 5
abbrev sClasses : Stmt := top 6
abbrev sPlayed : Stmt := top 8
abbrev sDay : Stmt := top 9
abbrev sSince : Stmt := top 10
abbrev sIsName : Stmt := top 21
abbrev sRStand : Stmt := top 25
abbrev sFromAll : Stmt := top 26
abbrev sRLeads : Stmt := top 27
abbrev sRDeeds : Stmt := top 28
abbrev sRLooks : Stmt := top 29
abbrev sStore (j : Nat) : Stmt := inClass (top 30) j
abbrev sSource : Stmt := top 32
abbrev sDraw : Stmt := top 33
abbrev sPick : Stmt := top 34
abbrev sMixed : Stmt := top 35
abbrev sWord : Stmt := top 36
abbrev sNames : Stmt := top 37
abbrev sLeads : Stmt := top 38
abbrev sBase : Stmt := top 39
abbrev sMade : Stmt := top 40
abbrev sLed : Stmt := top 41
abbrev sSeen : Stmt := top 42
abbrev sDeeds : Stmt := top 43
abbrev sFrom : Stmt := top 44
abbrev sFar : Stmt := top 45
abbrev sParts : Stmt := top 46
abbrev sTables : Stmt := top 47
abbrev sBears : Stmt := top 48
abbrev sRight : Stmt := top 49
abbrev sLaw : Stmt := top 50
end Bs
set_option Elab.async false
set_option linter.all false
set_option maxRecDepth 100000
set_option maxHeartbeats 2000000
namespace L2
namespace Pl
open PySem PySem.Spec PyProof.Rows
/-! ### sizes of ints -/
theorem bits_of_lt {a : Int} {n : Nat} (h : a.natAbs < 2 ^ n) : Builtin.Int.intBits a ≤ n := by
  unfold Builtin.Int.intBits
  split
  · exact Nat.zero_le _
  · rename_i hz
    have h0 : a.natAbs ≠ 0 := by
      intro z
      have : a = 0 := by omega
      simp [this] at hz
    have := (Nat.log2_lt h0).mpr h
    omega
theorem lt_of_bits {a : Int} {n : Nat} (h : Builtin.Int.intBits a ≤ n) : a.natAbs < 2 ^ n := by
  refine Nat.lt_of_lt_of_le ?_ (Nat.pow_le_pow_right (by decide) h)
  unfold Builtin.Int.intBits
  split
  · rename_i hz
    have : a = 0 := by simpa using hz
    rw [this]
    decide
  · exact Nat.lt_log2_self
theorem bits_sum {a b : Int} {m : Nat} (ha : a.natAbs < 2 ^ m) (hb : Builtin.Int.intBits b ≤ m) : Builtin.Int.intBits (a + b) ≤ m + 1 := by
  refine bits_of_lt ?_
  have h2 := lt_of_bits hb
  have h3 : (a + b).natAbs ≤ a.natAbs + b.natAbs := by omega
  rw [Nat.pow_succ]
  omega
theorem cube_big {a b : Int} (m : Nat) (hm : 60 ≤ m) (h : a.natAbs < 2 ^ 60) (hb : Builtin.Int.intBits b ≤ m) : Builtin.Int.intBits (a + b) ≤ m + 1 := bits_sum (Nat.lt_of_lt_of_le h (Nat.pow_le_pow_right (by decide) hm)) hb
theorem cube_ok {a b : Int} (ha : -(2 ^ 60) < a ∧ a < 2 ^ 60) (hb : Builtin.Int.intBits b ≤ 1048576) : CPowW (a + b) 3 := by
  refine ⟨by decide, ?_⟩
  have h60 : a.natAbs < 2 ^ 60 := by omega
  have h2 := cube_big 1048576 (by decide) h60 hb
  have e : (2 : Int) ^ 27 = 134217728 := by decide
  rw [e]
  omega
/-! ### the free names of a law -/
structure Gn (mg : Str → Option Value) : Prop where
  len : mg "len" = none
  int : mg "int" = none
  isi : mg "isinstance" = none
  range : mg "range" = none
  max : mg "max" = none
  min : mg "min" = none
  enum : mg "enumerate" = none
  list : mg "list" = none
  dict : mg "dict" = none
  tuple : mg "tuple" = none
  zip : mg "zip" = none
  set : mg "set" = none
  all : mg "all" = none
  str : mg "str" = none
  repr : mg "repr" = none
theorem bInt : bootBuiltins "int" = some (.type "int") := by decide +kernel
theorem bLen : bootBuiltins "len" = some (.builtin "len") := by decide +kernel
theorem bIsi : bootBuiltins "isinstance" = some (.builtin "isinstance") := by decide +kernel
theorem bMax : bootBuiltins "max" = some (.builtin "max") := by decide +kernel
theorem bMin : bootBuiltins "min" = some (.builtin "min") := by decide +kernel
theorem bAll : bootBuiltins "all" = some (.builtin "all") := by decide +kernel
theorem bRepr : bootBuiltins "repr" = some (.builtin "repr") := by decide +kernel
theorem bList : bootBuiltins "list" = some (.type "list") := by decide +kernel
theorem bDict : bootBuiltins "dict" = some (.type "dict") := by decide +kernel
theorem bTuple : bootBuiltins "tuple" = some (.type "tuple") := by decide +kernel
theorem bSet : bootBuiltins "set" = some (.type "set") := by decide +kernel
theorem bZip : bootBuiltins "zip" = some (.type "zip") := by decide +kernel
theorem bStr : bootBuiltins "str" = some (.type "str") := by decide +kernel
theorem bRange : bootBuiltins "range" = some (.type "range") := by decide +kernel
/-! ### heaps -/
theorem same_new {H : Hp} {p : Addr} {o : HO} (h : H p = none) : Same H (upd H p o) := fun b x e => (upd_ne (ne_of_none e h)).trans e
theorem ne_new {H : Hp} {a b : Addr} {o : HO} (h : upd H b o a = none) : a ≠ b := fun z => by
  rw [z, upd_same] at h
  cases h
theorem new_old {H : Hp} {a b : Addr} {o : HO} (h : upd H b o a = none) : H a = none := (upd_ne (ne_new h)).symm.trans h
/-- a source: a list of two ints -/
def Src (H : Hp) (s : Addr) : Prop := ∃ own mixed : Int, H s = some (.lst [.int own, .int mixed])
theorem Src.some {H : Hp} {s : Addr} (h : Src H s) : ∃ o, H s = some o := let ⟨_, _, e⟩ := h; ⟨_, e⟩
/-- the heap moves: the source may be drawn from, all else stays -/
structure Mv (s : Addr) (H H' : Hp) : Prop where
  src : Src H' s
  same : Same (del H s) (del H' s)
theorem del_some {H : Hp} {s b : Addr} {o : HO} (h : del H s b = some o) : b ≠ s ∧ H b = some o := by
  by_cases e : b = s
  · rw [e, del_same] at h
    cases h
  · exact ⟨e, (del_ne e).symm.trans h⟩
theorem del_of {H : Hp} {s b : Addr} {o : HO} (n : b ≠ s) (h : H b = some o) : del H s b = some o := (del_ne n).trans h
theorem del_all {H : Hp} {s : Addr} : Same (del H s) H := fun _ _ e => (del_some e).2
theorem Mv.refl {H : Hp} {s : Addr} (h : Src H s) : Mv s H H := ⟨h, Same.refl _⟩
theorem Mv.trans {H H1 H2 : Hp} {s : Addr} (a : Mv s H H1) (b : Mv s H1 H2) : Mv s H H2 := ⟨b.src, a.same.trans b.same⟩
theorem Mv.of_same {H H' : Hp} {s : Addr} (h : Src H s) (e : Same H H') : Mv s H H' := by
  obtain ⟨own, mixed, q⟩ := h
  exact ⟨⟨own, mixed, e _ _ q⟩, fun b o z => by
    obtain ⟨n, z⟩ := del_some z
    exact del_of n (e _ _ z)⟩
theorem Mv.new {H : Hp} {s p : Addr} {o : HO} (h : Src H s) (hp : H p = none) : Mv s H (upd H p o) := .of_same h (same_new hp)
theorem Mv.draw {H : Hp} {s : Addr} {own mixed : Int} : Mv s H (upd H s (.lst [.int own, .int mixed])) := ⟨⟨own, mixed, upd_same⟩, fun b o z => by
  obtain ⟨n, z⟩ := del_some z
  exact del_of n ((upd_ne n).trans z)⟩
/-- an object of ours, not there at first, is changed -/
theorem Mv.write {H H' : Hp} {s p : Addr} {o : HO} (m : Mv s H H') (hp : H p = none) (n : p ≠ s) : Mv s H (upd H' p o) := by
  obtain ⟨own, mixed, q⟩ := m.src
  exact ⟨⟨own, mixed, (upd_ne (Ne.symm n)).trans q⟩, fun b o z => by
    have nb : b ≠ p := ne_of_none (del_some z).2 hp
    obtain ⟨n2, z2⟩ := del_some (m.same _ _ z)
    exact del_of n2 ((upd_ne nb).trans z2)⟩
theorem Mv.get {H H' : Hp} {s b : Addr} {o : HO} (m : Mv s H H') (n : b ≠ s) (h : H b = some o) : H' b = some o := (del_some (m.same _ _ (del_of n h))).2
theorem Mv.free {H H' : Hp} {s p : Addr} (m : Mv s H H') (hs : Src H s) (h : H' p = none) : H p = none := by
  by_cases e : p = s
  · obtain ⟨_, _, q⟩ := m.src
    rw [e, q] at h
    cases h
  · cases q : H p with
    | none => rfl
    | some o =>
      rw [m.get e q] at h
      cases h
theorem Src.ne {H : Hp} {s p : Addr} (h : Src H s) (hp : H p = none) : p ≠ s := fun e => by
  obtain ⟨_, _, q⟩ := h
  rw [e, q] at hp
  cases hp
/-! ### a list beside an empty one -/
theorem op_ne_nil {X : Cx} (hu : X.A.units < cLine) : OpR X (compareOp .NotEq) (fun x y H Q => ∃ l b xs, x = .ref l ∧ y = .ref b ∧ SqL X.K H l xs ∧ SqL X.K H b [] ∧ Q (.bl (!xs.isEmpty)) H) := by
  intro pins s σ H x y v u Q I rx ry h
  obtain ⟨l, b, xs, rfl, rfl, hx, hb, q⟩ := h
  cases rx
  cases ry
  obtain ⟨its, r1, p1, z1⟩ := I.list hx
  obtain ⟨its2, r2, p2, z2⟩ := I.list hb
  have l1 := r1.length
  have l2 := r2.length
  have s1 : its.toArray.size = xs.length := by rw [List.size_toArray, l1]
  have s2 : its2.toArray.size = 0 := by
    rw [List.size_toArray, ← l2]
    rfl
  by_cases h0 : xs = []
  · subst h0
    have z : its.toArray.size = 0 := s1
    refine SeqAt.RcNeAt.lists (e := fun _ => true) p1.isList p2.isList (by rw [z, s2]) hu (fun j h1 _ => ?_) _ _ _ _ ⟨.bl false, H, I, ?_, q⟩
    · rw [z] at h1
      exact absurd h1 (Nat.not_lt_zero _)
    · rw [z]
      rfl
  · refine SeqAt.RcNeAt.lists_lengths p1.isList p2.isList ?_ hu _ _ _ _ ⟨.bl (!xs.isEmpty), H, I, ?_, q⟩
    · rw [s1, s2]
      have : xs.length ≠ 0 := fun e => h0 (List.length_eq_zero_iff.mp e)
      simp [this]
    · cases xs with
      | nil => exact absurd rfl h0
      | cons _ _ => rfl
/-! ### what a pick is made of -/
def Items (K : PySem.W.Frag) (H : Hp) (v : V) (xs : List V) : Prop := (∃ l, v = .ref l ∧ SqL K H l xs) ∨ (∃ l, v = .ref l ∧ SqT K H l xs) ∨ ∃ z : Str, v = .str z ∧ z.length ≤ sizeLine ∧ xs = z.cps.toList.map fun c => V.str ⟨#[c]⟩
theorem Items.same {K : PySem.W.Frag} {H H' : Hp} {v : V} {xs : List V} (h : Items K H v xs) (e : Same H H') : Items K H' v xs := by
  rcases h with ⟨l, rfl, h⟩ | ⟨l, rfl, h⟩ | h
  · exact .inl ⟨l, rfl, e.seq h⟩
  · refine .inr (.inl ⟨l, rfl, ?_⟩)
    rcases h with (h | ⟨o, h⟩) | h
    · exact .inl (.inl (e _ _ h))
    · exact .inl (.inr ⟨o, e _ _ h⟩)
    · exact .inr h
  · exact .inr (.inr h)
theorem Items.len {K : PySem.W.Frag} {H : Hp} {v : V} {xs : List V} (h : Items K H v xs) : LenV K v H xs.length := by
  rcases h with ⟨l, rfl, h⟩ | ⟨l, rfl, h⟩ | ⟨z, rfl, hz, rfl⟩
  · exact .inl ⟨xs, h, rfl⟩
  · exact .inr ⟨xs, h, rfl⟩
  · refine ⟨hz, ?_⟩
    rw [List.length_map, Array.length_toList]
    rfl
theorem Items.ix {K : PySem.W.Frag} {H : Hp} {v x : V} {xs : List V} {j : Nat} {Q : VK} (h : Items K H v xs) (hx : xs[j]? = some x) (q : Q x H) : rIx K v (.int (j : Int)) H Q := by
  rcases h with ⟨l, rfl, h⟩ | ⟨l, rfl, h⟩ | ⟨z, rfl, hz, rfl⟩
  · exact .inl ⟨l, xs, _, x, rfl, rfl, h, atI_nat hx, q⟩
  · exact .inr (.inl ⟨l, xs, _, x, rfl, rfl, h, atI_nat hx, q⟩)
  · rw [List.getElem?_map] at hx
    cases e : z.cps.toList[j]? with
    | none =>
      rw [e] at hx
      cases hx
    | some c =>
      rw [e] at hx
      cases hx
      exact .inr (.inr ⟨z, _, c, rfl, rfl, hz, atI_nat e, q⟩)
/-! ### the draws: promises -/
section
variable {P : Program} {w : World} {K : PySem.W.Frag} {mg : Str → Option Value} {base : Heap}
abbrev FnP (K : PySem.W.Frag) (x : Str) (st : Stmt) (f : Addr) (fd : FuncData) : Prop := FunD K x x (defArgs st) (defBody st) (defScope st) [] [] f fd
/-- a def that others call -/
structure Has (P : Program) (w : World) (K : PySem.W.Frag) (mg : Str → Option Value) (base : Heap) (CX : CXT) (x : Str) (k : Nat) (ps : List Str) (sp : Sp) : Prop where
  ex : ∃ (f : Addr) (fd : FuncData), FnOk P w K mg base CX k f fd ps sp ∧ Binds K fd ps [] ∧ mg x = some (.ref f) ∧ PySem.W.keepIn K (.ref f) = true
def spSource (K : PySem.W.Frag) : Sp := fun vs H Q _ => ∃ (a : Addr) (ns : List Int) (st : Nat), vs = [.ref a, .int (st : Int)] ∧ SqL K H a (ns.map V.int) ∧ ns.length ≤ 63 ∧ (∀ z ∈ ns, Builtin.Int.intBits z ≤ 1048576) ∧ st < 100 ∧
  ∀ p own mixed, H p = none → Q (.ref p) (upd H p (.lst [.int own, .int mixed]))
def spDraw : Sp := fun vs H Q _ => ∃ (s : Addr) (span : Int), vs = [.ref s, .int span] ∧ Src H s ∧ 0 < span ∧ span < 1000000 ∧ ∀ H' found, Mv s H H' → (∀ b, b ≠ s → H' b = H b) → 0 ≤ found → found < span → Q (.int found) H'
def spPick (K : PySem.W.Frag) : Sp := fun vs H Q _ => ∃ (s : Addr) (v : V) (xs : List V), vs = [.ref s, v] ∧ Src H s ∧ Items K (del H s) v xs ∧ xs ≠ [] ∧ xs.length < 1000000 ∧ ∀ H' x, Mv s H H' → (∀ b, b ≠ s → H' b = H b) → x ∈ xs → Q x H'
def spMixed (K : PySem.W.Frag) : Sp := fun vs H Q _ => ∃ (s l : Addr) (xs : List V), vs = [.ref s, .ref l] ∧ Src H s ∧ SqL K (del H s) l xs ∧ xs.length ≤ 100 ∧ ∀ p H' ys, Mv s H H' → H p = none → H' p = some (.lst ys) → ys.Perm xs → Q (.ref p) H'
/-- a name: 1 to 8 letters -/
structure IsName (w : Str) : Prop where
  pos : 1 ≤ w.length
  len : w.length ≤ 8
  low : ∀ c ∈ w.cps.toList, 97 ≤ c ∧ c ≤ 122
def spWord : Sp := fun vs H Q _ => ∃ s, vs = [.ref s] ∧ Src H s ∧ ∀ H' x, Mv s H H' → IsName x → Q (.str x) H'
end
end Pl
end L2
namespace Bs
open PySem PySem.Spec PyProof.Rows L2 L2.Pl
section
variable {P : Program} {w : World} {K : PySem.W.Frag} {mg : Str → Option Value} {base : Heap} {f : Addr} {fd : FuncData}
theorem scSource : FnScope ["script", "start", "mixed", "cell", "own"] ["script", "start"] (defScope sSource) := ⟨rfl, rfl, rfl, by decide +kernel, rfl, by decide +kernel, by decide +kernel⟩
theorem ok_source (G : Gn mg) (F : FnP K "_law_source" sSource f fd) : FnOk P w K mg base CX0 1 f fd ["script", "start"] (spSource K) := by
  refine F.ok scSource (fun vs H Q E h => ?_) (fun cdv A outer s H vs Q E hr h => ?_)
  · obtain ⟨_, _, _, rfl, _⟩ := h
    rfl
  · obtain ⟨a, ns, st, rfl, hS, hlen, hbits, hst, q⟩ := h
    refine ⟨_, PSs.nox (pss_cons (ps_set (i := 2) scSource.nd rfl (.inl rfl) (pe_op op_add pe_int (pv 1)))
      (pss_cons (ps_for PassesOwn.never rfl (pi_list (pv 0)) (pg_name (i := 3) scSource.nd rfl (.inl rfl))
        (pss_one (ps_set (i := 2) scSource.nd rfl (.inl rfl) (pe_op op_add (pe_op op_mod (pe_callTy call_int1 (by rfl) G.int bInt (pa_cons (pe_op op_powW (pe_callTy call_int1 (by rfl) G.int bInt (pa_cons (pe_op op_add (pe_op op_mul (pv 2) pe_int) (pe_callTy call_int1 (by rfl) G.int bInt (pa_cons (pv 3) pa_nil))) pa_nil)) pe_int) pa_nil)) pe_int) pe_int))))
      (pss_cons (ps_set (i := 4) scSource.nd rfl (.inl rfl) pe_int)
      (pss_cons (ps_if (PW.pt (pw_and (pt_cmpR op_lt (pv 1) (pe_callB call_len_seq (by rfl) G.len bLen (pa_cons (pv 0) pa_nil)) (nomark _)) (pw_and1 (pt_cmpR op_ge (pe_ix ix_list (pv 0) (pv 1) (fun _ _ => rfl)) (pe_op op_pow pe_int pe_int) (nomark _)))))
          (pss_one (ps_set (i := 4) scSource.nd rfl (.inl rfl) (pe_op op_sub (pe_ix ix_list (pv 0) (pv 1) (fun _ _ => rfl)) (pe_op op_pow pe_int pe_int)))) pss_nil)
      (pss_one (ps_ret (pe_lst (pa_cons (pv 4) (pa_cons (pv 2) pa_nil))))))))), ?_⟩
    refine ⟨_, rfl, _, _, rfl, rfl, ?_⟩
    refine ⟨_, rfl, a, rfl, ⟨_, hS⟩, for_list (K := K) (a := a) (xs := ns.map V.int) (fun i σ H' => ∃ (m : Int) (c : Option V), σ = [some (.ref a), some (.int (st : Int)), some (.int m), c, none] ∧ H' = H ∧ 0 ≤ m ∧ m < 2 ^ 40)
      ⟨57 + (st : Int), none, rfl, rfl, by omega, by omega⟩ (fun i σ H' _ ⟨_, _, _, e, _⟩ => by rw [e]; exact hS) ?_ ?_⟩
    · rintro i y σ H' hi ⟨m, c, rfl, rfl, h0, h1⟩
      obtain ⟨z, rfl, hz⟩ : ∃ z, y = V.int z ∧ z ∈ ns := by
        rw [List.getElem?_map] at hi
        cases e : ns[i]? with
        | none =>
          rw [e] at hi
          cases hi
        | some u =>
          rw [e] at hi
          exact ⟨u, (Option.some.inj hi).symm, List.mem_of_getElem? e⟩
      refine ⟨_, rfl, _, _, rfl, rfl, .inr ⟨by decide, by decide⟩, _, rfl, .inl ⟨_, rfl, _, _, rfl, rfl, .inl ⟨_, rfl, _, _, rfl, rfl, cube_ok ⟨by omega, by omega⟩ (hbits z hz), .inl ⟨_, rfl, _, _, rfl, rfl, (by show (0 : Int) < 2147483563; decide), _, _, rfl, rfl, ?_⟩⟩⟩⟩
      have hm : 0 ≤ ((m * 70001 + z) ^ (3 : Int).toNat) % 2147483563 ∧ ((m * 70001 + z) ^ (3 : Int).toNat) % 2147483563 < 2147483563 := ⟨Int.emod_nonneg _ (by decide), Int.emod_lt_of_pos _ (by decide)⟩
      exact ⟨_, _, rfl, rfl, by omega, by omega⟩
    · rintro σ H' ⟨m, c, rfl, rfl, h0, h1⟩
      refine ⟨_, rfl, _, rfl, _, _, rfl, .inl hS, _, _, rfl, rfl, _, rfl, ?_⟩
      rw [List.length_map]
      refine ite2 (fun hlt => ?_) (fun _ => ?_)
      · have hl : st < ns.length := by
          have := of_decide_eq_true hlt
          omega
        have hx : (ns.map V.int)[st]? = some (.int ns[st]) := by
          rw [List.getElem?_map, List.getElem?_eq_getElem hl]
          rfl
        refine ⟨_, rfl, _, rfl, a, _, _, _, rfl, rfl, hS, atI_nat hx, _, _, rfl, rfl, ⟨by decide, by decide, by decide⟩, _, _, rfl, rfl, _, rfl, ite2 (fun _ => ?_) (fun _ => ?_)⟩
        · refine ⟨_, rfl, _, rfl, a, _, _, _, rfl, rfl, hS, atI_nat hx, _, _, rfl, rfl, ⟨by decide, by decide, by decide⟩, _, _, rfl, rfl, ?_⟩
          exact ⟨_, rfl, _, rfl, by show 2 ≤ sizeLine; decide, fun p hp => q p _ _ hp⟩
        · exact ⟨_, rfl, _, rfl, by show 2 ≤ sizeLine; decide, fun p hp => q p _ _ hp⟩
      · refine iteF ?_
        exact ⟨_, rfl, _, rfl, by show 2 ≤ sizeLine; decide, fun p hp => q p _ _ hp⟩
theorem scDraw : FnScope ["source", "span", "found"] ["source", "span"] (defScope sDraw) := ⟨rfl, rfl, rfl, by decide +kernel, rfl, by decide +kernel, by decide +kernel⟩
theorem ok_draw (G : Gn mg) (F : FnP K "_law_draw" sDraw f fd) : FnOk P w K mg base CX0 1 f fd ["source", "span"] spDraw := by
  refine F.ok scDraw (fun vs H Q E h => ?_) (fun cdv A outer s H vs Q E hr h => ?_)
  · obtain ⟨_, _, rfl, _⟩ := h
    rfl
  · obtain ⟨a, span, rfl, ⟨own, mixed, hS⟩, h0, h1, q⟩ := h
    refine ⟨_, PSs.nox (pss_cons (ps_if (pt_cmpR op_ge (pe_ix ix_list (pv 0) pe_int (fun _ _ => rfl)) (pv 1) (nomark _))
        (pss_cons (ps_set (i := 2) scDraw.nd rfl (.inl rfl) (pe_op op_mod (pe_callTy call_int1 (by rfl) G.int bInt (pa_cons (pe_ix ix_list (pv 0) pe_int (fun _ _ => rfl)) pa_nil)) (pv 1)))
        (pss_cons (ps_asg (pe_op op_fdivW (pe_ix ix_list (pv 0) pe_int (fun _ _ => rfl)) (pv 1)) (pg_sub (pv 0) pe_int set_list))
        (pss_one (ps_ret (pv 2))))) pss_nil)
      (pss_cons (ps_asg (pe_op op_mod (pe_callTy call_int1 (by rfl) G.int bInt (pa_cons (pe_op op_add (pe_op op_mul (pe_ix ix_list (pv 0) pe_int (fun _ _ => rfl)) pe_int) pe_int) pa_nil)) pe_int) (pg_sub (pv 0) pe_int set_list))
      (pss_one (ps_ret (pe_op op_mod (pe_callTy call_int1 (by rfl) G.int bInt (pa_cons (pe_op op_fdiv (pe_op op_mod (pe_callTy call_int1 (by rfl) G.int bInt (pa_cons (pe_op op_pow (pe_callTy call_int1 (by rfl) G.int bInt (pa_cons (pe_ix ix_list (pv 0) pe_int (fun _ _ => rfl)) pa_nil)) pe_int) pa_nil)) pe_int) pe_int) pa_nil)) (pv 1)))))), ?_⟩
    have hL : SqL K H a [.int own, .int mixed] := SqL.of hS
    have fin : ∀ {o1 m1 f1 : Int}, 0 ≤ f1 → f1 < span → Q (.int f1) (upd H a (.lst [.int o1, .int m1])) := fun z1 z2 => q _ _ .draw (fun b n => upd_ne n) z1 z2
    refine ⟨_, rfl, a, _, 0, .int own, rfl, rfl, hL, atI_nat (j := 0) rfl, _, rfl, _, _, rfl, rfl, _, rfl, ite2 (fun hge => ?_) (fun hlt => ?_)⟩
    · refine ⟨_, rfl, a, _, 0, .int own, rfl, rfl, hL, atI_nat (j := 0) rfl, .inl ⟨_, rfl, _, rfl, _, _, rfl, rfl, h0, ?_⟩⟩
      refine ⟨_, rfl, a, _, 0, .int own, rfl, rfl, hL, atI_nat (j := 0) rfl, _, rfl, _, _, rfl, rfl, wide_div h0 (b := 60) (by omega) (by decide) (by decide), ?_⟩
      refine ⟨_, rfl, a, _, 0, 0, rfl, rfl, hS, rfl, ?_⟩
      exact ⟨_, rfl, fin (Int.emod_nonneg _ (by omega)) (Int.emod_lt_of_pos _ h0)⟩
    · refine ⟨_, rfl, a, _, 1, .int mixed, rfl, rfl, hL, atI_nat (j := 1) rfl, _, _, rfl, rfl, .inr ⟨by decide, by decide⟩, _, _, rfl, rfl, .inl ⟨_, rfl, _, _, rfl, rfl, (by show (0 : Int) < 2147483647; decide), ?_⟩⟩
      refine ⟨_, rfl, a, _, 1, 1, rfl, rfl, hS, rfl, ?_⟩
      have hm : 0 ≤ (mixed * 48271 + 6113) % 2147483647 ∧ (mixed * 48271 + 6113) % 2147483647 < 2147483647 := ⟨Int.emod_nonneg _ (by decide), Int.emod_lt_of_pos _ (by decide)⟩
      refine ⟨_, rfl, a, _, 1, .int ((mixed * 48271 + 6113) % 2147483647), rfl, rfl, SqL.of upd_same, atI_nat (j := 1) rfl, .inl ⟨_, rfl, _, _, rfl, rfl, ⟨by decide, by decide, by omega⟩, .inl ⟨_, rfl, _, _, rfl, rfl, (by show (0 : Int) < 1000000007; decide), _, _, rfl, rfl, ⟨by decide, by decide⟩, .inl ⟨_, rfl, _, rfl, _, _, rfl, rfl, h0, ?_⟩⟩⟩⟩
      exact fin (Int.emod_nonneg _ (by omega)) (Int.emod_lt_of_pos _ h0)
theorem scPick : FnScope ["source", "things"] ["source", "things"] (defScope sPick) := ⟨rfl, rfl, rfl, by decide +kernel, rfl, by decide +kernel, by decide +kernel⟩
theorem ok_pick (G : Gn mg) (F : FnP K "_law_pick" sPick f fd) (hD : Has P w K mg base CX0 "_law_draw" 1 ["source", "span"] spDraw) : FnOk P w K mg base CX0 2 f fd ["source", "things"] (spPick K) := by
  obtain ⟨fD, dD, oD, bD, gD, kD⟩ := hD.ex
  refine F.ok scPick (fun vs H Q E h => ?_) (fun cdv A outer s H vs Q E hr h => ?_)
  · obtain ⟨_, _, _, rfl, _⟩ := h
    rfl
  · obtain ⟨a, v, xs, rfl, hS, hX, h0, h1, q⟩ := h
    refine ⟨_, PSs.nox (pss_one (ps_ret (pe_ix ix_seq (pv 1) (pe_call oD hr (by rfl) gD kD bD .nil pass0 (pa_cons (pv 0) (pa_cons (pe_callB call_len (by rfl) G.len bLen (pa_cons (pv 1) pa_nil)) pa_nil))) (fun _ _ => rfl)))), ?_⟩
    have hpos : 0 < xs.length := List.length_pos_iff.mpr h0
    refine ⟨_, rfl, _, rfl, _, rfl, _, xs.length, rfl, (hX.same del_all).len, a, (xs.length : Int), rfl, hS, by omega, by omega, fun H' found m eqs h2 h3 => ?_⟩
    obtain ⟨x, hx⟩ : ∃ x, xs[found.toNat]? = some x := ⟨_, List.getElem?_eq_getElem (by omega)⟩
    have e : found = ((found.toNat : Nat) : Int) := by omega
    rw [e]
    exact ((hX.same m.same).same del_all).ix hx (q H' x m eqs (List.mem_of_getElem? hx))
end
end Bs
set_option Elab.async false
set_option linter.all false
set_option maxRecDepth 100000
set_option maxHeartbeats 2000000
namespace L2
namespace Pl
open PySem PySem.Spec PyProof.Rows
theorem eraseIdx_perm' {α : Type} : ∀ (l : List α) (i : Nat) (y : α), l[i]? = some y → (y :: l.eraseIdx i).Perm l
  | [], _, _, h => by simp at h
  | a :: r, 0, y, h => by
    cases h
    exact .refl _
  | a :: r, i + 1, y, h => by
    have ih := eraseIdx_perm' r i y (by simpa using h)
    exact (List.Perm.swap a y _).trans (ih.cons a)
/-- the length of the list in a slot -/
def lenAt (i : Nat) (σ : St) (H : Hp) : Nat := match σ[i]? with
  | some (some (.ref l)) => (match H l with
    | some (.lst xs) => xs.length
    | _ => 0)
  | _ => 0
end Pl
end L2
namespace Bs
open PySem PySem.Spec PyProof.Rows L2 L2.Pl
section
variable {P : Program} {w : World} {K : PySem.W.Frag} {mg : Str → Option Value} {base : Heap} {f : Addr} {fd : FuncData}
theorem scMixed : FnScope ["source", "things", "lot", "found"] ["source", "things"] (defScope sMixed) := ⟨rfl, rfl, rfl, by decide +kernel, rfl, by decide +kernel, by decide +kernel⟩
theorem ok_mixed (G : Gn mg) (F : FnP K "_law_mixed" sMixed f fd) (hD : Has P w K mg base CX0 "_law_draw" 1 ["source", "span"] spDraw) : FnOk P w K mg base CX0 2 f fd ["source", "things"] (spMixed K) := by
  obtain ⟨fD, dD, oD, bD, gD, kD⟩ := hD.ex
  refine F.ok scMixed (fun vs H Q E h => ?_) (fun cdv A outer s H vs Q E hr h => ?_)
  · obtain ⟨_, _, _, rfl, _⟩ := h
    rfl
  · obtain ⟨a, l, xs, rfl, hS, hX, h1, q⟩ := h
    have hu : (A.deeper (envOfC "_law_mixed" (defScope sMixed) s.heap.objs.size f cdv)).units < cLine := by
      have z := hr.un
      omega
    refine ⟨_, PSs.nox (pss_cons (ps_par (i := 2) (j := 3) rfl scMixed.nd rfl rfl (by decide) rfl rfl (pa_cons (pe_callTy call_list_of (by rfl) G.list bList (pa_cons (pv 1) pa_nil)) (pa_cons (pe_lst pa_nil) pa_nil)) rfl)
      (pss_cons (ps_while PassesOwn.never (pt_cmpR (op_ne_nil hu) (pv 2) (pe_lst pa_nil) (nomark _))
        (pss_one (ps_expr (pe_bm PySem.F.plainAttrs_list PySem.F.slot_list_append PySem.F.type_list_append mt_append (pv 3) (pa_cons (pe_bm PySem.F.plainAttrs_list PySem.F.slot_list_pop PySem.F.type_list_pop mt_popAt (pv 2)
          (pa_cons (pe_call oD hr (by rfl) gD kD bD .nil pass0 (pa_cons (pv 0) (pa_cons (pe_callB call_len (by rfl) G.len bLen (pa_cons (pv 2) pa_nil)) pa_nil))) pa_nil)) pa_nil)))))
      (pss_one (ps_ret (pv 3))))), ?_⟩
    refine ⟨_, rfl, l, xs, rfl, .inl (del_all.seq hX), fun lot hlot => ⟨Nat.zero_le _, fun fo hfo => ⟨_, _, rfl, ?_⟩⟩⟩
    have nlf := ne_new hfo
    have ofo := new_old hfo
    have nls := hS.ne hlot
    have nfs := hS.ne ofo
    have m0 : Mv a H (upd (upd H lot (.lst xs)) fo (.lst [])) := ((Mv.refl hS).write hlot nls).write ofo nfs
    refine while_by (fun σ H' => ∃ rest done, σ = [some (.ref a), some (.ref l), some (.ref lot), some (.ref fo)] ∧ Mv a H H' ∧ H' lot = some (.lst rest) ∧ H' fo = some (.lst done) ∧ (done ++ rest).Perm xs) (lenAt 2)
      ⟨xs, [], rfl, m0, (upd_ne (Ne.symm nlf)).trans upd_same, upd_same, .refl _⟩ ?_ ?_
    · rintro σ H1 ⟨rest, done, rfl, m, hl, hf, pm⟩
      have hlen := pm.length_eq
      rw [List.length_append] at hlen
      refine ⟨_, rfl, Nat.zero_le _, fun b hb => ?_⟩
      have nbl := ne_of_none hl hb
      have nbf := ne_of_none hf hb
      refine ⟨lot, b, rest, rfl, rfl, SqL.of ((upd_ne nbl).trans hl), SqL.of upd_same, _, rfl, ?_⟩
      cases rest with
      | nil =>
        refine iteF ⟨_, rfl, ?_⟩
        rw [List.append_nil] at pm
        have m2 := m.write (o := .lst []) (m.free hS hb) (m.src.ne hb)
        exact q fo _ done m2 ofo ((upd_ne nbf).trans hf) pm
      | cons z zs =>
        refine iteT ?_
        have m2 := m.write (o := .lst []) (m.free hS hb) (m.src.ne hb)
        refine ⟨_, rfl, .inl ⟨rfl, _, SqL.of ((upd_ne nbf).trans hf)⟩, _, rfl, .inl ⟨rfl, _, SqL.of ((upd_ne nbl).trans hl)⟩, _, rfl, _, rfl, _, (z :: zs).length, rfl, .inl ⟨_, SqL.of ((upd_ne nbl).trans hl), rfl⟩, ?_⟩
        refine ⟨a, ((z :: zs).length : Int), rfl, m2.src, by rw [List.length_cons]; omega, by omega, fun H2 found m3 eqs h0 h1' => ?_⟩
        obtain ⟨y, hy⟩ : ∃ y, (z :: zs)[found.toNat]? = some y := ⟨_, List.getElem?_eq_getElem (by omega)⟩
        have hl2 : H2 lot = some (.lst (z :: zs)) := (eqs lot nls).trans ((upd_ne nbl).trans hl)
        have hf2 : H2 fo = some (.lst done) := (eqs fo nfs).trans ((upd_ne nbf).trans hf)
        refine ⟨lot, _, found, found.toNat, y, rfl, rfl, hl2, by omega, by omega, PySem.StrLaws.seqIndex_nonneg h0 h1', hy, ?_⟩
        refine ⟨fo, done, y, rfl, rfl, (upd_ne (nlf)).trans hf2, small1000 (by omega), ?_⟩
        have m4 := ((m2.trans m3).write (o := .lst ((z :: zs).eraseIdx found.toNat)) hlot nls).write (o := .lst (done ++ [y])) ofo nfs
        refine ⟨⟨_, _, rfl, m4, (upd_ne (Ne.symm nlf)).trans upd_same, upd_same, ?_⟩, ?_⟩
        · rw [List.append_assoc]
          exact ((eraseIdx_perm' _ _ _ hy).append_left done).trans pm
        · have hk : found.toNat < (z :: zs).length := by omega
          show lenAt 2 [some (.ref a), some (.ref l), some (.ref lot), some (.ref fo)] _ < lenAt 2 _ H1
          have e1 : lenAt 2 [some (.ref a), some (.ref l), some (.ref lot), some (.ref fo)] H1 = (z :: zs).length := by
            show (match H1 lot with | some (.lst xs) => xs.length | _ => 0) = _
            rw [hl]
          have e2 : lenAt 2 [some (.ref a), some (.ref l), some (.ref lot), some (.ref fo)] (upd (upd H2 lot (.lst ((z :: zs).eraseIdx found.toNat))) fo (.lst (done ++ [y]))) = ((z :: zs).eraseIdx found.toNat).length := by
            show (match (upd (upd H2 lot (.lst ((z :: zs).eraseIdx found.toNat))) fo (.lst (done ++ [y]))) lot with | some (.lst xs) => xs.length | _ => 0) = _
            rw [upd_ne (Ne.symm nlf), upd_same]
          rw [e1, e2, List.length_eraseIdx, if_pos hk]
          omega
    · rintro σ H1 Q1 Q2 hq ⟨v, e, z, k⟩
      exact ⟨v, e, z, fun p hp => by
        obtain ⟨l1, b1, xs1, e1, e2, s1, s2, c, ec, r⟩ := k p hp
        exact ⟨l1, b1, xs1, e1, e2, s1, s2, c, ec, hq _ _ r⟩⟩
end
end Bs
set_option Elab.async false
set_option linter.all false
set_option maxRecDepth 100000
set_option maxHeartbeats 2000000
namespace L2
namespace Pl
open PySem PySem.Spec PyProof.Rows
theorem perm_map {α β : Type} {f : α → β} {ys zs : List β} (h : ys.Perm zs) : ∀ {l : List α}, zs = l.map f → ∃ l' : List α, l'.Perm l ∧ ys = l'.map f := by
  induction h with
  | nil =>
    intro l e
    cases l with
    | nil => exact ⟨[], .refl _, rfl⟩
    | cons _ _ => cases e
  | cons x _ ih =>
    intro l e
    cases l with
    | nil => cases e
    | cons a l =>
      obtain ⟨e1, e2⟩ := List.cons.inj e
      obtain ⟨l', p, e3⟩ := ih e2
      exact ⟨a :: l', p.cons a, by rw [List.map_cons, e1, e3]⟩
  | swap x y t =>
    intro l e
    match l, e with
    | a :: b :: l, e =>
      obtain ⟨e1, e⟩ := List.cons.inj e
      obtain ⟨e2, e3⟩ := List.cons.inj e
      exact ⟨b :: a :: l, .swap _ _ _, by rw [List.map_cons, List.map_cons, e1, e2, e3]⟩
  | trans _ _ ih1 ih2 =>
    intro l e
    obtain ⟨l2, p2, e2⟩ := ih2 e
    obtain ⟨l1, p1, e1⟩ := ih1 e2
    exact ⟨l1, p1.trans p2, e1⟩
def ten : List Str := ["a", "b", "c", "d", "e", "set", "send", "work", "done", "abcdefgh"]
theorem ten_nd : ten.Nodup := by decide +kernel
def isNameB (w : Str) : Bool := decide (1 ≤ w.length) && (decide (w.length ≤ 8) && w.cps.toList.all fun c => decide (97 ≤ c) && decide (c ≤ 122))
theorem isName_of {w : Str} (h : isNameB w = true) : IsName w := by
  obtain ⟨h1, h⟩ := He.ba h
  obtain ⟨h2, h3⟩ := He.ba h
  refine ⟨of_decide_eq_true h1, of_decide_eq_true h2, fun c hc => ?_⟩
  obtain ⟨q1, q2⟩ := He.ba (List.all_eq_true.mp h3 c hc)
  exact ⟨of_decide_eq_true q1, of_decide_eq_true q2⟩
theorem ten_names : ∀ w ∈ ten, IsName w := by
  have h : ten.all isNameB = true := by decide +kernel
  exact fun w hw => isName_of (List.all_eq_true.mp h w hw)
theorem inV_strs {x : Str} : ∀ {ws : List Str}, inV (.str x) (ws.map V.str) = decide (x ∈ ws)
  | [] => by simp [inV]
  | a :: r => by
    have ih := inV_strs (x := x) (ws := r)
    unfold inV at ih ⊢
    rw [List.map_cons, List.any_cons, ih]
    have e : eqV (.str a) (.str x) = decide (x = a) := by
      show (a == x) = _
      by_cases h : x = a
      · subst h
        simp
      · have h2 : (a == x) = false := beq_eq_false_iff_ne.mpr (Ne.symm h)
        rw [h2, decide_eq_false h]
    rw [e]
    by_cases h : x = a
    · simp [h]
    · simp [h]
theorem flat_strsO : ∀ ws : List Str, (ws.map V.str).all flatV = true
  | [] => rfl
  | _ :: r => flat_strsO r
theorem set_strs {x : Str} : ∀ {ws : List Str} {j : Nat}, (ws.map V.str).set j (.str x) = (ws.set j x).map V.str := fun {ws j} => (List.map_set).symm
theorem nodup_set {α : Type} {x : α} : ∀ {l : List α} {j : Nat}, l.Nodup → x ∉ l → (l.set j x).Nodup
  | [], _, _, _ => .nil
  | a :: r, 0, h, hx => by
    rw [List.set_cons_zero]
    exact List.nodup_cons.mpr ⟨fun z => hx (List.mem_cons_of_mem _ z), (List.nodup_cons.mp h).2⟩
  | a :: r, j + 1, h, hx => by
    rw [List.set_cons_succ]
    obtain ⟨h1, h2⟩ := List.nodup_cons.mp h
    refine List.nodup_cons.mpr ⟨fun z => ?_, nodup_set h2 fun z => hx (List.mem_cons_of_mem _ z)⟩
    rcases List.mem_or_eq_of_mem_set z with z | z
    · exact h1 z
    · exact hx (z ▸ List.mem_cons_self ..)
def spNames : Sp := fun vs H Q _ => ∃ (s : Addr) (m : Nat), vs = [.ref s, .int (m : Int)] ∧ Src H s ∧ 1 ≤ m ∧ m ≤ 5 ∧ ∀ p H' (ws : List Str), Mv s H H' → H p = none → H' p = some (.lst (ws.map V.str)) → ws.length = m → ws.Nodup → (∀ x ∈ ws, IsName x) → Q (.ref p) H'
def spLeads : Sp := fun vs H Q _ => ∃ (s : Addr) (m : Nat), vs = [.ref s, .int (m : Int)] ∧ Src H s ∧ 1 ≤ m ∧ m ≤ 5 ∧ ∀ p H' (ks : List Nat), Mv s H H' → H p = none → H' p = some (.lst (ks.map fun k : Nat => V.int (k : Int))) → ks.length = m → (∀ k ∈ ks, k < m) → Q (.ref p) H'
theorem cut_to {xs : List V} (m : Nat) (h : m ≤ xs.length) : cutV xs none (some (m : Int)) = xs.take m := by
  unfold cutV
  rw [HT.sIx_none, HT.sIx_nat, Nat.min_eq_left h, Nat.sub_zero, List.drop_zero]
end Pl
end L2
namespace Bs
open PySem PySem.Spec PyProof.Rows L2 L2.Pl
section
variable {P : Program} {w : World} {K : PySem.W.Frag} {mg : Str → Option Value} {base : Heap} {f : Addr} {fd : FuncData}
theorem scWord : FnScope ["source", "word", "turn"] ["source"] (defScope sWord) := ⟨rfl, rfl, rfl, by decide +kernel, rfl, by decide +kernel, by decide +kernel⟩
def abc : Str := "abcdefghijklmnopqrstuvwxyz"
theorem abc_low : ∀ c ∈ abc.cps.toList, 97 ≤ c ∧ c ≤ 122 := by decide +kernel
theorem ok_word (G : Gn mg) (F : FnP K "_law_word" sWord f fd) (hD : Has P w K mg base CX0 "_law_draw" 1 ["source", "span"] spDraw) (hP : Has P w K mg base CX0 "_law_pick" 2 ["source", "things"] (spPick K)) : FnOk P w K mg base CX0 3 f fd ["source"] spWord := by
  obtain ⟨fD, dD, oD, bD, gD, kD⟩ := hD.ex
  obtain ⟨fP, dP, oP, bP, gP, kP⟩ := hP.ex
  refine F.ok scWord (fun vs H Q E h => ?_) (fun cdv A outer s H vs Q E hr h => ?_)
  · obtain ⟨_, rfl, _⟩ := h
    rfl
  · obtain ⟨a, rfl, hS, q⟩ := h
    have hr1 := hr.mono (j := 1) (by decide)
    refine ⟨_, PSs.nox (pss_cons (ps_set (i := 1) scWord.nd rfl (.inl rfl) pe_str)
      (pss_cons (ps_for PassesOwn.never rfl (pi_range1 (by rfl) G.range (pa_cons (pe_op op_add pe_int (pe_call oD hr1 (by rfl) gD kD bD .nil pass0 (pa_cons (pv 0) (pa_cons pe_int pa_nil)))) pa_nil)) (pg_name (i := 2) scWord.nd rfl (.inl rfl))
        (pss_one (ps_set (i := 1) scWord.nd rfl (.inl rfl) (pe_op op_add_str (pv 1) (pe_call oP hr (by rfl) gP kP bP .nil pass0 (pa_cons (pv 0) (pa_cons pe_str pa_nil)))))))
      (pss_one (ps_ret (pv 1))))), ?_⟩
    refine ⟨_, rfl, a, 8, rfl, hS, by decide, by decide, fun H1 found m1 _ h0 h1 => ⟨1, found, rfl, rfl, 1 + found, rfl, by omega, by omega, ?_⟩⟩
    refine for_range (fun i σ H' => ∃ (x : Str) (y : Option V), σ = [some (.ref a), some (.str x), y] ∧ Mv a H H' ∧ x.length = i ∧ ∀ c ∈ x.cps.toList, 97 ≤ c ∧ c ≤ 122) ⟨_, none, rfl, m1, rfl, fun c hc => by cases hc⟩ ?_ ?_
    · rintro i σ H2 hi ⟨x, y, rfl, m, hx, hl⟩
      refine ⟨_, rfl, _, rfl, a, .str abc, _, rfl, m.src, .inr (.inr ⟨abc, rfl, by decide +kernel, rfl⟩), by decide +kernel, by decide +kernel, fun H3 z m3 _ hz => ?_⟩
      obtain ⟨c, hc, rfl⟩ := List.mem_map.mp hz
      have e1 : (⟨#[c]⟩ : Str).length = 1 := rfl
      refine ⟨x, ⟨#[c]⟩, rfl, rfl, by rw [hx, e1, sizeLine_eq]; omega, _, _, rfl, m.trans m3, by rw [strLen_append, hx, e1], fun d hd => ?_⟩
      have e2 : (x ++ (⟨#[c]⟩ : Str)).cps.toList = x.cps.toList ++ [c] := by simp [Str.cps_append]
      rw [e2] at hd
      rcases List.mem_append.mp hd with hd | hd
      · exact hl d hd
      · rw [List.mem_singleton.mp hd]
        exact abc_low c hc
    · rintro σ H2 ⟨x, y, rfl, m, hx, hl⟩
      exact ⟨_, rfl, q _ _ m ⟨by omega, by omega, hl⟩⟩
theorem scNames : FnScope ["source", "many", "some", "word"] ["source", "many"] (defScope sNames) := ⟨rfl, rfl, rfl, by decide +kernel, rfl, by decide +kernel, by decide +kernel⟩
theorem ok_names (G : Gn mg) (F : FnP K "_law_names" sNames f fd) (hD : Has P w K mg base CX0 "_law_draw" 1 ["source", "span"] spDraw) (hM : Has P w K mg base CX0 "_law_mixed" 2 ["source", "things"] (spMixed K)) (hW : Has P w K mg base CX0 "_law_word" 3 ["source"] spWord) : FnOk P w K mg base CX0 4 f fd ["source", "many"] spNames := by
  obtain ⟨fD, dD, oD, bD, gD, kD⟩ := hD.ex
  obtain ⟨fM, dM, oM, bM, gM, kM⟩ := hM.ex
  obtain ⟨fW, dW, oW, bW, gW, kW⟩ := hW.ex
  refine F.ok scNames (fun vs H Q E h => ?_) (fun cdv A outer s H vs Q E hr h => ?_)
  · obtain ⟨_, _, rfl, _⟩ := h
    rfl
  · obtain ⟨a, m, rfl, hS, h1, h5, q⟩ := h
    have hr1 := hr.mono (j := 1) (by decide)
    have hr2 := hr.mono (j := 2) (by decide)
    refine ⟨_, PSs.nox (pss_cons (ps_set (i := 2) scNames.nd rfl (.inl rfl) (pe_call oM hr2 (by rfl) gM kM bM .nil pass0 (pa_cons (pv 0) (pa_cons (pe_lst (pa_cons pe_str (pa_cons pe_str (pa_cons pe_str (pa_cons pe_str (pa_cons pe_str (pa_cons pe_str (pa_cons pe_str (pa_cons pe_str (pa_cons pe_str (pa_cons pe_str pa_nil))))))))))) pa_nil))))
      (pss_cons (ps_set (i := 3) scNames.nd rfl (.inl rfl) (pe_call oW hr (by rfl) gW kW bW .nil pass0 (pa_cons (pv 0) pa_nil)))
      (pss_cons (ps_if (pt_cmpR op_notIn_seq (pv 3) (pv 2) (by with_unfolding_all rfl)) (pss_one (ps_asg (pv 3) (pg_sub (pv 2) (pe_call oD hr1 (by rfl) gD kD bD .nil pass0 (pa_cons (pv 0) (pa_cons (pv 1) pa_nil))) set_list))) pss_nil)
      (pss_one (ps_ret (pe_slice sl_list (pv 2) po_none (po_some (pv 1)))))))), ?_⟩
    refine ⟨_, rfl, by show 10 ≤ sizeLine; decide, fun l hl => ?_⟩
    have m0 : Mv a H _ := .new (o := .lst (ten.map V.str)) hS hl
    have nla := hS.ne hl
    refine ⟨a, l, ten.map V.str, rfl, m0.src, SqL.of (del_of nla upd_same), by decide +kernel, fun p H1 ys m1 np hp py => ?_⟩
    obtain ⟨ws, pw, rfl⟩ := perm_map py (l := ten) rfl
    have mm := m0.trans m1
    have npa := m0.src.ne np
    have np0 := m0.free hS np
    have wl := pw.length_eq
    have wl10 : ws.length = 10 := wl.trans (by decide +kernel)
    have wn : ws.Nodup := pw.nodup_iff.mpr ten_nd
    have wi : ∀ x ∈ ws, IsName x := fun x hx => ten_names x (pw.mem_iff.mp hx)
    refine ⟨_, rfl, a, rfl, mm.src, fun H2 x m2 hx => ?_⟩
    have hp2 := m2.get npa hp
    have mm2 := mm.trans m2
    have fin : ∀ {H3 : Hp} {us : List Str}, Mv a H H3 → H3 p = some (.lst (us.map V.str)) → us.length = 10 → us.Nodup → (∀ x ∈ us, IsName x) → ∀ c, H3 c = none → Q (.ref c) (upd H3 c (.lst (cutV (us.map V.str) none (some (m : Int))))) := fun {H3 us} m3 e3 l3 n3 i3 c hc => by
      refine q c _ (us.take m) (m3.trans (.new m3.src hc)) (m3.free hS hc) ?_ (by rw [List.length_take]; omega) (List.Nodup.sublist (List.take_sublist _ _) n3) fun x hx => i3 x (List.mem_of_mem_take hx)
      rw [upd_same, cut_to m (by rw [List.length_map]; omega), List.map_take]
    refine ⟨_, rfl, _, rfl, p, ws.map V.str, rfl, .inl (SqL.of hp2), rfl, flat_strsO ws, _, rfl, ?_⟩
    rw [inV_strs]
    by_cases hin : x ∈ ws
    · rw [decide_eq_true hin]
      refine iteF ⟨_, rfl, _, rfl, _, rfl, p, _, rfl, SqL.of hp2, fun c hc => fin mm2 hp2 wl10 wn wi c hc⟩
    · rw [decide_eq_false hin]
      refine iteT ⟨_, rfl, _, rfl, _, rfl, _, rfl, a, (m : Int), rfl, m2.src, by omega, by omega, fun H3 found m3 eqs h0 hf => ?_⟩
      have hp3 : H3 p = some (.lst (ws.map V.str)) := (eqs p npa).trans hp2
      refine ⟨p, _, found, found.toNat, rfl, rfl, hp3, ?_, ?_⟩
      · unfold ixN
        rw [List.length_map, if_pos h0, if_pos (by omega)]
      · rw [set_strs]
        have m4 := (mm2.trans m3).write (o := .lst ((ws.set found.toNat x).map V.str)) np0 npa
        refine ⟨_, rfl, _, rfl, _, rfl, p, _, rfl, SqL.of upd_same, fun c hc => fin m4 upd_same (by rw [List.length_set]; exact wl10) (nodup_set wn hin) (fun y hy => ?_) c hc⟩
        rcases List.mem_or_eq_of_mem_set hy with hy | hy
        · exact wi y hy
        · rw [hy]
          exact hx
end
end Bs
set_option Elab.async false
set_option linter.all false
set_option maxRecDepth 100000
set_option maxHeartbeats 2000000
namespace L2
namespace Pl
open PySem PySem.Spec PyProof.Rows
/-- nats as values -/
abbrev nV (ks : List Nat) : List V := ks.map fun k : Nat => V.int (k : Int)
/-- [e for at in range(m)], e a number below m that may draw -/
theorem lc_nats {m sl : Nat} {te : TE} {σ : St} {H0 : Hp} {D s : Addr} {Qd : Hp → Prop} (hm : m ≤ 5) (hS : Src H0 s) (hD : H0 D = none) (hw : ∀ x : V, wipe ((wipe σ [sl]).set sl (some x)) [sl] = wipe σ [sl])
    (step : ∀ (i : Nat) (H' : Hp) (Q : VK), i < m → Src H' s → (∀ (k : Nat) (H4 : Hp), k < m → Mv s H' H4 → Q (.int (k : Int)) H4) → te ((wipe σ [sl]).set sl (some (.int (0 + (i : Int))))) H' Q)
    (hd : ∀ (H : Hp) (ks : List Nat), Mv s H0 H → H D = some (.lst (nV ks)) → ks.length = m → (∀ k ∈ ks, k < m) → Qd H) :
    ∃ W : Nat → Nat → Hp → Prop, (∃ n, W 0 n (upd H0 D (.lst []))) ∧ ∀ i n H, W i n H →
      ((Itr 0 m).stop i H ∧ Qd H) ∨ ((Itr 0 m).go i H ∧ ∃ Nx : Hp → Prop, (∀ H', Nx H' → ∃ m', m' < n ∧ W (i + 1) m' H') ∧ ∀ x H', (Itr 0 m).yld i H x H' → gName sl x (wipe σ [sl]) H' fun σ2 H2 => wipe σ2 [sl] = wipe σ [sl] ∧ tYes σ2 H2 fun b H3 =>
        if b = true then te σ2 H3 fun y H4 => ∃ acc, H4 D = some (.lst acc) ∧ acc.length < sizeLine ∧ Nx (upd H4 D (.lst (acc ++ [y]))) else Nx H3) := by
  have nD := hS.ne hD
  refine lc_range (fun i H => Mv s H0 H ∧ ∃ ks : List Nat, H D = some (.lst (nV ks)) ∧ ks.length = i ∧ ∀ k ∈ ks, k < m) ⟨.new hS hD, [], upd_same, rfl, fun k hk => by cases hk⟩ (fun i H hi p => ?_) (fun H p => ?_)
  · obtain ⟨mv, ks, hk, hl, ha⟩ := p
    refine ⟨hw _, iteT (B := Mv s H0 H ∧ ∃ ks : List Nat, H D = some (.lst (nV ks)) ∧ ks.length = i + 1 ∧ ∀ k ∈ ks, k < m) (step i H _ hi mv.src fun k H4 hkm m4 => ?_)⟩
    · refine ⟨nV ks, m4.get nD hk, by rw [List.length_map]; exact small1000 (by omega), (mv.trans m4).write hD nD, ks ++ [k], ?_, by rw [List.length_append, hl]; rfl, fun j hj => ?_⟩
      · rw [upd_same]
        simp [nV]
      · rcases List.mem_append.mp hj with hj | hj
        · exact ha j hj
        · rw [List.mem_singleton.mp hj]
          exact hkm
  · obtain ⟨mv, ks, hk, hl, ha⟩ := p
    exact hd H ks mv hk hl ha
end Pl
end L2
namespace Bs
open PySem PySem.Spec PyProof.Rows L2 L2.Pl
section
variable {P : Program} {w : World} {K : PySem.W.Frag} {mg : Str → Option Value} {base : Heap} {f : Addr} {fd : FuncData}
abbrev NLd : List Str := ["source", "many", "kind", "to", "at"]
theorem scLeads : FnScope NLd ["source", "many"] (defScope sLeads) := ⟨rfl, rfl, rfl, by decide +kernel, rfl, by decide +kernel, by decide +kernel⟩
theorem ok_leads (G : Gn mg) (F : FnP K "_law_leads" sLeads f fd) (hD : Has P w K mg base CX0 "_law_draw" 1 ["source", "span"] spDraw) (hM : Has P w K mg base CX0 "_law_mixed" 2 ["source", "things"] (spMixed K)) : FnOk P w K mg base CX0 3 f fd ["source", "many"] spLeads := by
  obtain ⟨fD, dD, oD, bD, gD, kD⟩ := hD.ex
  obtain ⟨fM, dM, oM, bM, gM, kM⟩ := hM.ex
  refine F.ok scLeads (fun vs H Q E h => ?_) (fun cdv A outer s H vs Q E hr h => ?_)
  · obtain ⟨_, _, rfl, _⟩ := h
    rfl
  · obtain ⟨a, m, rfl, hS, h1, h5, q⟩ := h
    have hr1 := hr.mono (j := 1) (by decide)
    refine ⟨_, PSs.nox (pss_cons (ps_asg (pe_tup (pa_cons (pe_call oD hr1 (by rfl) gD kD bD .nil pass0 (pa_cons (pv 0) (pa_cons pe_int pa_nil))) (pa_cons (pe_call oD hr1 (by rfl) gD kD bD .nil pass0 (pa_cons (pv 0) (pa_cons (pv 1) pa_nil))) pa_nil))) (pg_tup rfl (pgs_cons (pg_name (i := 2) scLeads.nd rfl (.inl rfl)) (pgs_cons (pg_name (i := 3) scLeads.nd rfl (.inr rfl)) pgs_nil))))
      (pss_cons (ps_if (pt_cmpR op_eq (pv 2) pe_int (nomark _)) (pss_one (ps_ret (pe_op op_rep (pe_lst (pa_cons (pv 3) pa_nil)) (pv 1)))) pss_nil)
      (pss_cons (ps_if (pt_cmpR op_eq (pv 2) pe_int (nomark _)) (pss_one (ps_ret (pe_call oM hr (by rfl) gM kM bM .nil pass0 (pa_cons (pv 0) (pa_cons (pe_listRg rfl (by rfl) G.list (prg_1 (by rfl) G.range (pv 1))) pa_nil))))) pss_nil)
      (pss_cons (ps_if (pt_cmpR op_eq (pv 2) pe_int (nomark _)) (pss_one (ps_ret (pe_lc (own := [("at", 4)]) (g := gName 4) (tt := tYes) (te := tCB (fun xs H Q => ∃ i j, xs = [.int i, .int j] ∧ Q (.int (if j > i then j else i)) H) (tCons (tVar 4) (tCons (tVar 3) tNil))) rfl scLeads.nd (pi_range1 (by rfl) G.range (pa_cons (pv 1) pa_nil)) (blkOk_by (N := NLd) (sc := defScope sLeads) (by decide +kernel)) (fun _ _ _ _ _ => pg_name (i := 4) scLeads.nd rfl (.inl rfl)) (fun _ _ _ _ _ => pts_nil) (fun _ _ _ _ _ => pe_callB (call_max2 rfl) (by rfl) G.max bMax (pa_cons (pv 4) (pa_cons (pv 3) pa_nil)))))) pss_nil)
      (pss_cons (ps_if (pt_cmpR op_eq (pv 2) pe_int (nomark _)) (pss_one (ps_ret (pe_lc (own := [("at", 4)]) (g := gName 4) (tt := tYes) (te := tOp (rI (fun _ j => 0 < j) fun i j => .int (i % j)) (tOp (rI0 fun i j => .int (i + j)) (tVar 4) (tC (.int 1))) (tVar 1)) rfl scLeads.nd (pi_range1 (by rfl) G.range (pa_cons (pv 1) pa_nil)) (blkOk_by (N := NLd) (sc := defScope sLeads) (by decide +kernel)) (fun _ _ _ _ _ => pg_name (i := 4) scLeads.nd rfl (.inl rfl)) (fun _ _ _ _ _ => pts_nil) (fun _ _ _ _ _ => pe_op op_mod (pe_op op_add (pv 4) pe_int) (pv 1))))) pss_nil)
      (pss_one (ps_ret (pe_lc (own := [("at", 4)]) (g := gName 4) (tt := tYes) (te := tIf (tTest (tOp rEq (tCall spDraw [] E0 (tCons (tVar 0) (tCons (tC (.int 3)) tNil))) (tC (.int 0)))) (tVar 4) (tCall spDraw [] E0 (tCons (tVar 0) (tCons (tVar 1) tNil)))) rfl scLeads.nd (pi_range1 (by rfl) G.range (pa_cons (pv 1) pa_nil)) (blkOk_by (N := NLd) (sc := defScope sLeads) (by decide +kernel)) (fun _ _ _ _ _ => pg_name (i := 4) scLeads.nd rfl (.inl rfl)) (fun _ _ _ _ _ => pts_nil)
          (fun _ _ _ _ _ => pe_ifExp (pt_cmpR op_eq (pe_call oD hr1 (by rfl) gD kD bD .nil pass0 (pa_cons (pv 0) (pa_cons pe_int pa_nil))) pe_int (nomark _)) (pv 4) (pe_call oD hr1 (by rfl) gD kD bD .nil pass0 (pa_cons (pv 0) (pa_cons (pv 1) pa_nil)))))))))))), ?_⟩
    refine ⟨_, rfl, a, 6, rfl, hS, by decide, by decide, fun H1 kd m1 _ hk0 hk1 => ?_⟩
    refine ⟨_, rfl, _, rfl, a, (m : Int), rfl, m1.src, by omega, by omega, fun H2 to m2 _ ht0 ht1 => ⟨by show 2 ≤ sizeLine; decide, fun t ht => ?_⟩⟩
    have mm : Mv a H _ := (m1.trans m2).trans (.new (o := .tup [.int kd, .int to]) m2.src ht)
    refine ⟨t, _, rfl, .inl (.inl upd_same), rfl, _, [.int to], rfl, _, [], rfl, rfl, ?_⟩
    -- the five kinds
    refine ⟨_, rfl, rfl, _, rfl, ite2 (fun _ => ?_) (fun _ => ⟨_, rfl, rfl, _, rfl, ite2 (fun _ => ?_) (fun _ => ⟨_, rfl, rfl, _, rfl, ite2 (fun _ => ?_) (fun _ => ⟨_, rfl, rfl, _, rfl, ite2 (fun _ => ?_) (fun _ => ?_)⟩)⟩)⟩)⟩
    · refine ⟨_, rfl, by show 1 ≤ sizeLine; decide, fun l hl => ?_⟩
      refine ⟨_, rfl, l, (m : Int), [.int to], rfl, rfl, upd_same, by omega, by omega, by rw [sizeLine_eq]; simp; omega, fun p hp => ?_⟩
      have mn := (mm.trans (.new (o := .lst [.int to]) mm.src hl)).trans (.new (o := .lst (List.replicate (m : Int).toNat [.int to]).flatten) (Mv.new mm.src hl).src hp)
      refine q p _ (List.replicate m to.toNat) mn ((mm.trans (.new mm.src hl)).free hS hp) ?_ (List.length_replicate) (fun k hk => by rw [List.eq_of_mem_replicate hk]; omega)
      rw [upd_same, Int.toNat_natCast, List.map_replicate]
      have e : ((to.toNat : Nat) : Int) = to := by omega
      rw [e]
      simp [List.flatten_replicate_singleton]
    · refine ⟨_, rfl, _, rfl, _, rfl, RgOk.of_le (by decide) (by omega) (by decide) (by omega), fun l hl => ?_⟩
      have nla := mm.src.ne hl
      have e : rgV 0 (m : Int) = nV (List.range m) := by
        unfold rgV nV
        rw [Int.sub_zero, Int.toNat_natCast]
        exact List.map_congr_left fun i _ => by rw [Int.zero_add]
      refine ⟨a, l, rgV 0 (m : Int), rfl, (Mv.new mm.src hl).src, SqL.of (del_of nla upd_same), by rw [rgV_length]; omega, fun p H3 ys m3 np hp py => ?_⟩
      rw [e] at py
      obtain ⟨ks, pk, rfl⟩ := perm_map py (l := List.range m) rfl
      have mn := mm.trans (.new (o := .lst (rgV 0 (m : Int))) mm.src hl)
      exact q p H3 ks (mn.trans m3) (mn.free hS np) hp (pk.length_eq.trans List.length_range) fun k hk => List.mem_range.mp (pk.mem_iff.mp hk)
    · refine ⟨_, rfl, _, rfl, by omega, by omega, fun D hD' => ?_⟩
      rw [Int.toNat_natCast]
      refine lc_nats (s := a) h5 mm.src hD' (fun x => by simp [wipe]) (fun i H' Q' hi sr k => ?_) (fun H3 ks m3 hk hl ha => q D H3 ks (mm.trans m3) (mm.free hS hD') hk hl ha)
      refine ⟨_, rfl, _, rfl, _, _, rfl, ?_⟩
      have e : (if to > 0 + (i : Int) then to else 0 + (i : Int)) = ((if to > (i : Int) then to.toNat else i : Nat) : Int) := by
        split <;> split <;> omega
      rw [e]
      exact k _ H' (by split <;> omega) (.refl sr)
    · refine ⟨_, rfl, _, rfl, by omega, by omega, fun D hD' => ?_⟩
      rw [Int.toNat_natCast]
      refine lc_nats (s := a) h5 mm.src hD' (fun x => by simp [wipe]) (fun i H' Q' hi sr k => ?_) (fun H3 ks m3 hk hl ha => q D H3 ks (mm.trans m3) (mm.free hS hD') hk hl ha)
      refine ⟨_, rfl, _, _, rfl, rfl, _, rfl, _, _, rfl, rfl, by omega, ?_⟩
      have e : (0 + (i : Int) + 1) % (m : Int) = (((i + 1) % m : Nat) : Int) := by
        rw [Int.zero_add]
        exact (Int.natCast_emod (i + 1) m).symm
      show Q' (.int ((0 + (i : Int) + 1) % (m : Int))) H'
      rw [e]
      exact k _ H' (Nat.mod_lt _ (by omega)) (.refl sr)
    · refine ⟨_, rfl, _, rfl, by omega, by omega, fun D hD' => ?_⟩
      rw [Int.toNat_natCast]
      refine lc_nats (s := a) h5 mm.src hD' (fun x => by simp [wipe]) (fun i H' Q' hi sr k => ?_) (fun H3 ks m3 hk hl ha => q D H3 ks (mm.trans m3) (mm.free hS hD') hk hl ha)
      refine ⟨_, rfl, a, 3, rfl, sr, by decide, by decide, fun H3 u m3 _ hu0 hu1 => ⟨rfl, _, rfl, ite2 (fun _ => ?_) (fun _ => ?_)⟩⟩
      · refine ⟨_, rfl, ?_⟩
        have e : 0 + (i : Int) = ((i : Nat) : Int) := by omega
        rw [e]
        exact k _ H3 hi m3
      · refine ⟨_, rfl, _, rfl, a, (m : Int), rfl, m3.src, by omega, by omega, fun H4 v m4 _ hv0 hv1 => ?_⟩
        have e : v = ((v.toNat : Nat) : Int) := by omega
        rw [e]
        exact k _ H4 (by omega) (m3.trans m4)
end
end Bs
set_option Elab.async false
set_option linter.all false
set_option maxRecDepth 100000
set_option maxHeartbeats 4000000
namespace PlayL
open PySem PySem.Spec PyProof.Rows
/-! ### the different ones of a row of texts, and set(xs) of a list of texts -/
def metS (xs : List Str) : List Str := xs.foldl (fun a x => if x ∈ a then a else a ++ [x]) []
theorem metS_snoc (xs : List Str) (x : Str) : metS (xs ++ [x]) = if x ∈ metS xs then metS xs else metS xs ++ [x] := by
  unfold metS
  rw [List.foldl_append]
  rfl
theorem metS_mem : ∀ (n : Nat) (xs : List Str), xs.length = n → ∀ y, y ∈ metS xs ↔ y ∈ xs := by
  intro n
  induction n with
  | zero =>
    intro xs e y
    rw [List.length_eq_zero_iff.mp e]
    exact Iff.rfl
  | succ n ih =>
    intro xs e y
    obtain ⟨zs, z, rfl⟩ : ∃ zs z, xs = zs ++ [z] := ⟨_, _, (List.dropLast_concat_getLast (by intro h; rw [h] at e; cases e)).symm⟩
    have hz : zs.length = n := by
      rw [List.length_append] at e
      exact Nat.succ.inj e
    have q := ih zs hz
    rw [metS_snoc]
    split
    · rename_i hm
      rw [q y, List.mem_append, List.mem_singleton]
      exact ⟨.inl, fun c => c.elim id fun c => c ▸ (q z).mp hm⟩
    · rw [List.mem_append, List.mem_append, q y]
theorem metS_le : ∀ (n : Nat) (xs : List Str), xs.length = n → (metS xs).length ≤ n := by
  intro n
  induction n with
  | zero =>
    intro xs e
    rw [List.length_eq_zero_iff.mp e]
    exact Nat.le_refl _
  | succ n ih =>
    intro xs e
    obtain ⟨zs, z, rfl⟩ : ∃ zs z, xs = zs ++ [z] := ⟨_, _, (List.dropLast_concat_getLast (by intro h; rw [h] at e; cases e)).symm⟩
    have hz : zs.length = n := by
      rw [List.length_append] at e
      exact Nat.succ.inj e
    have q := ih zs hz
    rw [metS_snoc]
    split
    · omega
    · rw [List.length_append, List.length_singleton]
      omega
theorem metS_nd : ∀ (n : Nat) (xs : List Str), xs.length = n → ((metS xs).length = n ↔ xs.Nodup) := by
  intro n
  induction n with
  | zero =>
    intro xs e
    rw [List.length_eq_zero_iff.mp e]
    exact ⟨fun _ => .nil, fun _ => rfl⟩
  | succ n ih =>
    intro xs e
    obtain ⟨zs, z, rfl⟩ : ∃ zs z, xs = zs ++ [z] := ⟨_, _, (List.dropLast_concat_getLast (by intro h; rw [h] at e; cases e)).symm⟩
    have hz : zs.length = n := by
      rw [List.length_append] at e
      exact Nat.succ.inj e
    have q := ih zs hz
    have le := metS_le n zs hz
    rw [metS_snoc, List.nodup_append]
    split
    · rename_i hm
      refine ⟨fun c => by omega, fun c => ?_⟩
      exact absurd rfl (c.2.2 z ((metS_mem n zs hz z).mp hm) z (List.mem_singleton.mpr rfl))
    · rename_i hm
      rw [List.length_append, List.length_singleton]
      refine ⟨fun c => ⟨q.mp (by omega), List.nodup_cons.mpr ⟨by simp, .nil⟩, fun a ha b hb e2 => hm ?_⟩, fun c => by rw [q.mpr c.1]⟩
      rw [← List.mem_singleton.mp hb, ← e2]
      exact (metS_mem n zs hz a).mpr ha
theorem metS_has (xs : List Str) (y : Str) : (metS xs).any (· == y) = decide (y ∈ xs) := by
  by_cases h : y ∈ xs
  · rw [decide_eq_true h, List.any_eq_true]
    exact ⟨y, (metS_mem _ xs rfl y).mpr h, beq_self_eq_true y⟩
  · rw [decide_eq_false h, List.any_eq_false]
    intro z hz c
    have := beq_iff_eq.mp c
    rw [this] at hz
    exact h ((metS_mem _ xs rfl y).mp hz)
section
variable {prog : Program} {w : World} {A : Around} {R : Result → Shared → Prop} {I : Addr} {fp wr : List Addr} {G : Array GenState → Array GenState → Prop} {n : Nat} {P : Nat → Value → Prop} {St : Nat → Shared → Prop}
/-- where the set of texts is at s -/
abbrev SetAtS (prog : Program) (w : World) (S : Addr) (xs : List Str) (s : Shared) : Prop := s.heap.SetOf (PySem.strKind prog w) S (fun y => decide (y ∈ xs)) (metS xs).length
theorem setAtS_keep {S : Addr} {xs : List Str} {s s' : Shared} (h : SetAtS prog w S xs s) (k : ∀ o, s.heap.get? S = some o → s'.heap.get? S = some o) : SetAtS prog w S xs s' :=
  let ⟨o, es, ep, tb, ho, r⟩ := h
  ⟨o, es, ep, tb, k o ho, r⟩
theorem loop_strs (W : WalksS prog w A.in1 I fp wr G n P St) (S : Addr) (free : S ∉ fp) (xs : List Str) (room : n + 1 < scanBound) (len : xs.length = n)
    (val : ∀ i v, P i v → ∃ t x, xs[i]? = some x ∧ v = .str x t) : ∀ (m i : Nat) (s : Shared), n - i = m → i ≤ n → St i s → SetAtS prog w S (xs.take i) s →
      (∀ s', Moved (S :: wr) G s s' → SetAtS prog w S xs s' → R (.ok (.ret .none)) s') →
      codeAny (model prog w) A (.builtin "set.update.loop" ⟨[.ref S, .ref I], []⟩) R s := by
  have fw : S ∉ wr := fun h => free (W.sub _ h)
  intro m
  induction m with
  | zero =>
    intro i s e hi st at_ fin
    obtain rfl : i = n := by omega
    refine codeAny_builtin F.entry_set_update_loop ?_
    rw [Around.under_plainId F.plain_set_update_loop _]
    refine wpAny_bind (m := pyNext (.ref I)) (W.done s _ _ st fun s1 mv => ?_)
    refine wpAny_pure (fin s1 (mv.mono fun b hb => .tail _ hb) ?_)
    rw [List.take_of_length_le (Nat.le_of_eq len)] at at_
    exact setAtS_keep at_ fun o => mv.heap S o fw
  | succ m ih =>
    intro i s e hi st at_ fin
    have lt : i < n := by omega
    refine codeAny_builtin F.entry_set_update_loop ?_
    rw [Around.under_plainId F.plain_set_update_loop _]
    refine wpAny_bind (m := pyNext (.ref I)) (W.item i s _ _ lt st fun v s1 hv st1 mv => ?_)
    obtain ⟨tk, x, hx, rfl⟩ := val i v hv
    have at1 := setAtS_keep at_ fun o => mv.heap S o fw
    refine wpAny_bind (m := holding [Value.str x tk] (setAdd S (.str x tk))) (wpAny_holding ?_)
    unfold setAdd
    refine wpAny_holding (wpAny_bind ((PySem.strKind prog w).pyHash (k := x) (strKind_is _ _ _ _) ?_))
    have few : (metS (xs.take i)).length ≤ i := by
      have := metS_le _ (xs.take i) rfl
      rw [List.length_take] at this
      omega
    refine wpAny_setAddHashed_of (knd := PySem.strKind prog w) (s := { s1 with toks := s1.toks + 1 }) (strKind_is _ _ _ _) rfl at1 (by omega) fun h2 only at2 => ?_
    have tk1 : xs.take (i + 1) = xs.take i ++ [x] := by
      rw [List.take_succ, hx]
      rfl
    have at3 : h2.SetOf (PySem.strKind prog w) S (fun y => decide (y ∈ xs.take (i + 1))) (metS (xs.take (i + 1))).length := by
      refine SetOf_congr at2 (fun y => ?_) ?_
      · rw [tk1, Bool.eq_iff_iff, Bool.or_eq_true, decide_eq_true_iff, decide_eq_true_iff, decide_eq_true_iff, List.mem_append, List.mem_singleton]
      · rw [tk1, metS_snoc]
        have q := metS_mem _ (xs.take i) rfl x
        by_cases c : x ∈ xs.take i
        · rw [if_pos (decide_eq_true c), if_pos (q.mpr c)]
        · rw [if_neg (by rw [decide_eq_false c]; decide), if_neg fun z => c (q.mp z), List.length_append]
          rfl
    have other : ∀ b o, b ≠ S → s1.heap.get? b = some o → h2.get? b = some o := fun b o hb z => (only.2 b hb).trans z
    refine wpAny_pure ⟨plainId_quiet F.plain_set_update_loop _, ih (i + 1) _ (by omega) lt (W.frame _ s1 _ _ st1 (Nat.le_succ _) fun b hb o z => other b o (fun c => free (c ▸ hb)) z) at3 fun s3 mv3 at4 => fin s3 (Moved.trans W.gtrans (Moved.then_heap (mv.mono fun b hb => .tail _ hb) (Nat.le_succ _) fun b o hb z => other b o (fun c => hb (c ▸ .head _)) z) mv3) at4⟩
end
section
variable {prog : Program} {w : World} {A : Around} {E : Value → Shared → Prop} {s : Shared}
/-- a set that was just made -/
abbrev set0 (led : Bool) : Obj := { cls := .type "set", dict := none, data := .set #[] 0 (.fresh 0 0 led) }
abbrev withSet (s : Shared) (led : Bool) : Shared := { s with heap := s.heap.push (set0 led) }
theorem set_init_list {l : Addr} {items : Array Value} {xs : List Str} {led : Bool} (free : A.handled = none) (isL : s.heap.IsList l items) (are : StrsAre items.toList xs) (room : xs.length + 1 < scanBound) {Q : Value → Shared → Prop}
    (fin : ∀ (h' : Heap) (tk : Nat), h'.SetOf (PySem.strKind prog w) s.heap.objs.size (fun y => decide (y ∈ xs)) (metS xs).length → (∀ b o, s.heap.get? b = some o → h'.get? b = some o) → Q .none { s with heap := h', toks := tk }) :
    codeAny (model prog w) A (.call (.builtin "set.__init__") ⟨[.ref s.heap.objs.size, .ref l], []⟩) (wants Q E) (withSet s led) := by
  have new : (withSet s led).heap.get? s.heap.objs.size = some (set0 led) := Heap.get?_push_size _ rfl
  refine codeAny_call_builtin F.called_set.init.plain F.entry_set_init (check_set_init_1 ⟨_, new, rfl⟩ ?_)
  obtain ⟨ol, hol, hcl, nl, hdl⟩ := isL
  obtain ⟨c, dd, data, sl⟩ := ol
  dsimp only at hcl hdl
  subst hcl hdl
  have at2 : (withSet s led).heap.get? l = some { cls := .type "list", dict := dd, data := .seq items nl, slots := sl } := Heap.get?_push_of_some _ hol
  have n1 := F.sub_list_set
  have n2 := F.sub_list_frozenset
  have n3 : (Value.type "list" == Value.type "dict") = false := by decide
  unfold Builtin.«set.__init__» noKeywords Builtin.Frozenset.updateFrom
  generalize eP : pyIter = PI
  wp_walk
  subst eP
  have isL2 : (withSet s led).heap.IsList l items := ⟨_, at2, rfl, nl, rfl⟩
  refine wpAny_pyIter_list isL2 (wpAny_bind (wpAny_runValue ?_))
  have lt : l < s.heap.objs.size := Heap.lt_size hol
  have sz : (withSet s led).heap.objs.size = s.heap.objs.size + 1 := Heap.size_push _ _
  have apart : s.heap.objs.size ∉ [(withSet s led).heap.objs.size, l] := fun c => by
    rcases List.mem_cons.mp c with c | c
    · exact absurd (c.trans sz) (Nat.ne_of_lt (Nat.lt_succ_self _))
    · exact absurd (List.mem_singleton.mp c).symm (Nat.ne_of_lt lt)
  have at3 : ((withSet s led).heap.push { cls := .type "list_iterator", data := .fields #[.ref l, .int 0 0] }).get? s.heap.objs.size = some (set0 led) := Heap.get?_push_of_some _ new
  have len : xs.length = items.size := by
    have := StrsAre.len_eq are
    rw [← this, Array.length_toList]
  have val : ∀ (i : Nat) (v : Value), items[i]? = some v → ∃ t x, xs[i]? = some x ∧ v = .str x t := fun i v hv => by
    have lt : i < xs.length := len ▸ (Array.getElem?_eq_some_iff.mp hv).1
    obtain ⟨t, e⟩ := SS.strs_at are i v (by rw [Array.getElem?_toList]; exact hv)
    exact ⟨t, xs[i], List.getElem?_eq_getElem lt, by rw [e, List.getD_eq_getElem?_getD, List.getElem?_eq_getElem lt]; rfl⟩
  refine loop_strs ((Walks.list (by simp [free]) _ l (fun c => absurd (c.trans sz) (Nat.ne_of_lt (Nat.lt_succ_of_lt lt))) items).toS) s.heap.objs.size apart xs (by rw [← len]; exact room) len val items.size 0 _ (by omega) (Nat.zero_le _) ⟨⟨_, Heap.get?_push_size _ rfl, rfl, rfl⟩, isL2.push _⟩ ?_ fun s1 mv at4 => ?_
  · exact SetOf_congr ((setObjOf_fresh (knd := PySem.strKind prog w) led).setOf at3 (by unfold scanBound; omega)) (fun _ => rfl) rfl
  · obtain ⟨h1, g1, d1, t1, o1⟩ := s1
    obtain rfl : g1 = s.gens := mv.gens
    obtain rfl : d1 = s.drawn := mv.drawn
    obtain rfl : o1 = s.os := mv.os
    refine wpAny_pure (wpAny_pure (fin h1 t1 at4 fun b o hb => ?_))
    have ltb : b < s.heap.objs.size := Heap.lt_size hb
    refine mv.heap b o (fun c => ?_) (Heap.get?_push_of_some _ (Heap.get?_push_of_some _ hb))
    rcases List.mem_cons.mp c with c | c
    · exact absurd c (Nat.ne_of_lt ltb)
    · exact absurd ((List.mem_singleton.mp c).trans sz) (Nat.ne_of_lt (Nat.lt_succ_of_lt ltb))
theorem set_of_list {l : Addr} {items : Array Value} {xs : List Str} (free : A.handled = none) (isL : s.heap.IsList l items) (are : StrsAre items.toList xs) (room : xs.length + 1 < scanBound) {Q : Value → Shared → Prop}
    (fin : ∀ (h' : Heap) (tk : Nat), h'.SetOf (PySem.strKind prog w) s.heap.objs.size (fun y => decide (y ∈ xs)) (metS xs).length → (∀ b o, s.heap.get? b = some o → h'.get? b = some o) → Q (.ref s.heap.objs.size) { s with heap := h', toks := tk }) :
    wpAny (model prog w) A (call (.type "set") [.ref l]) Q E s := by
  obtain ⟨head, tail, mro⟩ := F.called_set.mro
  refine wpAny_call (codeAny_of_tree ?_)
  change wpAny _ _ (callAny (Value.type "set") _) _ _ s
  refine wpAny_pure ⟨Code.quiet_builtin _ (by decide +kernel), codeAny_builtin F.entry_type_call (?_ : wpAny _ _ _ _ _ _)⟩
  rw [Around.under_plain (weight_type_call_type "set" [.ref l] []) rfl]
  have c1 := F.called_set.made
  have c2 := F.called_set.sub
  have c3 := F.called_set.notType
  have c4 := F.called_set.canCreate
  have c5 := F.typeCall_set_1 (.ref l)
  repeat (any_goals (first | assumption | wp_step))
  refine codeAny_mono (code_set_new_1 (.ref l) (E := E) (Q₁ := fun o s1 => ∃ led : Bool, o = .ref s.heap.objs.size ∧ s1 = withSet s led) fun led => ⟨led, rfl, rfl⟩) fun r s1 hr => ?_
  match r, hr with
  | .error e, hr => exact hr
  | .ok (.ret o), hr =>
    obtain ⟨led, rfl, rfl⟩ := hr
    have new : (withSet s led).heap.get? s.heap.objs.size = some (set0 led) := Heap.get?_push_size _ rfl
    have isS : (withSet s led).TypeIs (.ref s.heap.objs.size) "set" := ⟨_, new, rfl⟩
    have c6 := F.called_set.init.lookup
    have c7 := F.called_set.init.bind (.ref s.heap.objs.size)
    repeat (any_goals (first | assumption | wp_step))
    refine codeAny_mono (set_init_list (A := A.in1) (led := led) (E := E) (Q := fun r s2 => r = .none ∧ ∃ h' tk, s2 = { s with heap := h', toks := tk } ∧ h'.SetOf (PySem.strKind prog w) s.heap.objs.size (fun y => decide (y ∈ xs)) (metS xs).length ∧ ∀ b o, s.heap.get? b = some o → h'.get? b = some o) (by simp [free]) isL are room fun h' tk a b => ⟨rfl, h', tk, rfl, a, b⟩) fun r2 s2 hr2 => ?_
    match r2, hr2 with
    | .error e, hr2 => exact hr2
    | .ok (.ret r3), hr2 =>
      obtain ⟨rfl, h', tk, rfl, isSet, keep⟩ := hr2
      repeat (any_goals (first | assumption | wp_step))
      exact fin _ _ isSet keep
end
end PlayL
namespace L2
open PySem PySem.Spec PyProof.Rows
/-- len(set(xs)), xs a list of texts -/
def tLenSetS (K : PySem.W.Frag) (ta : TE) : TE := fun σ H Q => ta σ H fun x H1 => ∃ l, ∃ xs : List Str, x = .ref l ∧ SqL K H1 l (xs.map V.str) ∧ xs.length ≤ 1000 ∧ Q (.int ((PlayL.metS xs).length : Nat)) H1
section
variable {X : Cx}
theorem pe_lenSetS {a : Expr} {ta : TE} {p p2 q pos : Pos} (hc : X.calm = true) (hg : Gl X "len") (hm : X.mg "len" = none) (hg2 : Gl X "set") (hm2 : X.mg "set" = none) (ha : PE X a ta)
    (one : starEach [a] X.env = (false, eval a X.env) :: starEach [] X.env := by rfl) : PE X (.Call (.Name "len" p) [.Call (.Name "set" p2) [a] [] q] [] pos) (tLenSetS X.K ta) := by
  refine ⟨fun pins s σ H Q I h => Call_ (ld_blt I hg hm boot_len (callWith_builtin1 (args_cons (Call_ (ld_blt I hg2 hm2 boot_set ?_)) rfl) rfl rfl))⟩
  refine callWith_type1 (args_cons (thn (ha.run pins s σ H _ I h) fun v s1 ⟨x, H1, I1, r1, q1⟩ => args_nil ?_) one) one rfl
  obtain ⟨l, xs, rfl, hl, few, q1⟩ := q1
  cases r1
  obtain ⟨its, r, pl, _⟩ := I1.list hl
  refine PlayL.set_of_list (I1.ok.hd hc) pl.isList (by simpa using strsAre_of r) (by unfold scanBound; omega) fun h' tk isS keep => args_nil ?_
  obtain ⟨o, es, ep, t, ho, hex, hd, _, _, _, hf, hn⟩ := isS
  have le := PlayL.metS_le _ xs rfl
  have I2 : Inv X pins σ H1 { s1 with heap := h', toks := tk } := I1.kept keep
  exact call_len_set ho hex hd hf (by rw [hn]; omega) ⟨.int ((PlayL.metS xs).length : Nat), H1, I2.tok _, ⟨_, by rw [hn]⟩, q1⟩
end
end L2
set_option Elab.async false
set_option linter.all false
set_option maxRecDepth 100000
set_option maxHeartbeats 4000000
namespace PlayL
open PySem PySem.Spec PyProof.Rows RZ
/-! ### list(zip(..)) of two tuples: the first pair is kept, so all others are laid anew -/
section
variable {prog : Program} {w : World} {A : Around} {E : Value → Shared → Prop} {s : Shared}
/-- the zip at z, behind k pairs; T, its first pair, is held -/
structure ZipAt (h : Heap) (z TI TO i1 i2 l1 l2 T : Addr) (f : Bool) (k : Nat) (xs ys : Array Value) : Prop where
  zip : IsZipHeld h z TI TO T f
  kept : ∃ o, h.get? T = some o
  both : IsPair h TI (.ref i1) (.ref i2)
  one : h.IsTupleIter i1 l1 k
  two : h.IsTupleIter i2 l2 k
  left : h.IsTuple l1 xs
  right : h.IsTuple l2 ys
theorem zip_alive {z TI TO i1 i2 l1 l2 T k : Addr} {f : Bool} {xs ys : Array Value} {x y : Value} {Q : Option Value → Shared → Prop} (D : ZipApart z TI TO i1 i2 l1 l2) (Z : ZipAt s.heap z TI TO i1 i2 l1 l2 T f k xs ys) (hx : xs[k]? = some x) (hy : ys[k]? = some y) (nT : T ≠ z ∧ T ≠ i1 ∧ T ≠ i2)
    (q : ∀ h', ZipAt h' z TI TO i1 i2 l1 l2 T true (k + 1) xs ys → IsPair h' s.heap.objs.size x y → (∀ c o, c ≠ z → c ≠ i1 → c ≠ i2 → s.heap.get? c = some o → h'.get? c = some o) → Q (some (.ref s.heap.objs.size)) { s with heap := h' }) :
    wpAny (model prog w) A (pyNext (.ref z)) Q E s := by
  obtain ⟨hz, ⟨oT, hT⟩, hTI, h1, h2, hl1, hl2⟩ := Z
  have isZ : s.TypeIs (.ref z) "zip" := ⟨_, hz, rfl⟩
  unfold pyNext
  refine wpAny_bind (wpAny_attempt (wpAny_callSpecial?_slot (name := Str.ofString "__next__") isZ F.slot_zip_next (wpAny_call_entry F.slot_zip_next isZ F.entry_zip_next ?_ (F.args_zip_next_1 _))))
  change wpAny _ _ (field (.ref z) 2 >>= _) _ _ s
  refine wpAny_bind (wpAny_field hz rfl (x := .bool false) rfl ?_)
  change wpAny _ _ (field (.ref z) 3 >>= _) _ _ s
  refine wpAny_bind (wpAny_field hz rfl (x := .ref TI) rfl (wpAny_bind (wpAny_seqItems hTI rfl ?_)))
  change wpAny _ _ (Builtin.SmallTypes.ownedTupleIsFree (.ref z) >>= _) _ _ s
  refine wpAny_bind (wpAny_tupleHeld_zip hz hT fun ha hza sa => ?_)
  rw [if_neg Bool.false_ne_true]
  dsimp only
  refine wpAny_bind ?_
  rw [← Array.forIn_toList]
  dsimp only
  rw [List.forIn_cons]
  refine wpAny_bind (wpAny_bind (wpAny_holding ?_))
  change wpAny _ _ (Builtin.SmallTypes.nextOf (.ref i1) >>= _) _ _ _
  refine wpAny_bind (nextOf_tuple_item (s := { s with heap := ha }) (h1.extBut sa.extBut D.i1z) (hl1.extBut sa.extBut D.l1z) hx fun hb h1b sb => wpAny_pure (wpAny_pure ?_))
  dsimp only
  rw [List.forIn_cons]
  refine wpAny_bind (wpAny_bind (wpAny_holding ?_))
  change wpAny _ _ (Builtin.SmallTypes.nextOf (.ref i2) >>= _) _ _ _
  refine wpAny_bind (nextOf_tuple_item (s := { s with heap := hb }) ((h2.extBut sa.extBut D.i2z).extBut sb.extBut D.i12.symm) ((hl2.extBut sa.extBut D.l2z).extBut sb.extBut D.l2i1) hy fun hc h2c sc => wpAny_pure (wpAny_pure (wpAny_pure ?_)))
  change wpAny _ _ (newTuple [x, y] >>= _) _ _ _
  refine wpAny_bind (wpAny_newTuple (wpAny_pure ⟨_, rfl, ?_⟩))
  have keep : ∀ c o, c ≠ z → c ≠ i1 → c ≠ i2 → s.heap.get? c = some o → hc.get? c = some o := fun c o n1 n2 n3 e => sc.extBut _ _ n3 (sb.extBut _ _ n2 (sa.extBut _ _ n1 e))
  have size : hc.objs.size = s.heap.objs.size := by rw [sc.1, sb.1, sa.1]
  have up : ∀ {c o}, hc.get? c = some o → (hc.push { cls := .type "tuple", data := .seq #[x, y] }).get? c = some o := fun e => Heap.get?_push_of_some _ e
  have new : IsPair (hc.push { cls := .type "tuple", data := .seq #[x, y] }) hc.objs.size x y := Heap.get?_push_size _ rfl
  refine wpAny_pure ?_
  rw [size] at new
  show Q (some (.ref hc.objs.size)) _
  rw [size]
  refine q _ ⟨up (sc.extBut _ _ D.i2z.symm (sb.extBut _ _ D.i1z.symm hza)), ⟨oT, up (keep T oT nT.1 nT.2.1 nT.2.2 hT)⟩, up (keep TI _ D.TIz D.TIi1 D.TIi2 hTI), (h1b.extBut sc.extBut D.i12).at fun o e => up e, h2c.at fun o e => up e,
    hl1.at fun o e => up (keep l1 o D.l1z D.l1i1 D.l1i2 e), hl2.at fun o e => up (keep l2 o D.l2z D.l2i1 D.l2i2 e)⟩ new fun c o n1 n2 n3 e => up (keep c o n1 n2 n3 e)
theorem zip_done {z TI TO i1 i2 l1 l2 T k : Addr} {f : Bool} {xs ys : Array Value} {Q : Option Value → Shared → Prop} (free : A.handled = none) (D : ZipApart z TI TO i1 i2 l1 l2) (Z : ZipAt s.heap z TI TO i1 i2 l1 l2 T f k xs ys) (hx : xs[k]? = none)
    (q : ∀ h', (∀ c o, c ≠ z → c ≠ i1 → c ≠ i2 → s.heap.get? c = some o → h'.get? c = some o) → Q none { s with heap := h' }) : wpAny (model prog w) A (pyNext (.ref z)) Q E s := by
  obtain ⟨hz, ⟨oT, hT⟩, hTI, h1, h2, hl1, hl2⟩ := Z
  have isZ : s.TypeIs (.ref z) "zip" := ⟨_, hz, rfl⟩
  unfold pyNext
  refine wpAny_bind (wpAny_attempt (wpAny_callSpecial?_slot (name := Str.ofString "__next__") isZ F.slot_zip_next (wpAny_call_entry F.slot_zip_next isZ F.entry_zip_next ?_ (F.args_zip_next_1 _))))
  change wpAny _ _ (field (.ref z) 2 >>= _) _ _ s
  refine wpAny_bind (wpAny_field hz rfl (x := .bool false) rfl ?_)
  change wpAny _ _ (field (.ref z) 3 >>= _) _ _ s
  refine wpAny_bind (wpAny_field hz rfl (x := .ref TI) rfl (wpAny_bind (wpAny_seqItems hTI rfl ?_)))
  change wpAny _ _ (Builtin.SmallTypes.ownedTupleIsFree (.ref z) >>= _) _ _ s
  refine wpAny_bind (wpAny_tupleHeld_zip hz hT fun ha hza sa => ?_)
  rw [if_neg Bool.false_ne_true]
  dsimp only
  refine wpAny_bind ?_
  rw [← Array.forIn_toList]
  dsimp only
  rw [List.forIn_cons]
  refine wpAny_bind (wpAny_bind (wpAny_holding ?_))
  change wpAny _ _ (Builtin.SmallTypes.nextOf (.ref i1) >>= _) _ _ _
  refine wpAny_bind (nextOf_tuple_end (s := { s with heap := ha }) free (h1.extBut sa.extBut D.i1z) (hl1.extBut sa.extBut D.l1z) hx fun hb e eb ⟨o, ho, hc⟩ => ?_)
  refine wpAny_bind (wpAny_isInstance (T := "StopIteration") (b := true) ⟨o, ho, hc⟩ isSubtype_stop (wpAny_pure (q _ fun c o n1 n2 _ e => eb _ _ n2 (sa.extBut _ _ n1 e))))
/-- the turns of list.extend over it -/
theorem extend_zip {R : Result → Shared → Prop} {z TI TO i1 i2 l1 l2 T S : Addr} {xs ys : Array Value} {res : Value} (free : A.handled = none) (D : ZipApart z TI TO i1 i2 l1 l2) (nT : T ≠ z ∧ T ≠ i1 ∧ T ≠ i2) (nS : S ≠ z ∧ S ≠ TI ∧ S ≠ i1 ∧ S ≠ i2 ∧ S ≠ l1 ∧ S ≠ l2 ∧ S ≠ T)
    (same : xs.size = ys.size) (few : xs.size ≤ 1000) (lo : Addr) (hlo : lo ≤ z) (P0 : Addr → Prop) (h00 : ∀ c, P0 c → c ≠ z ∧ c ≠ i1 ∧ c ≠ i2 ∧ c ≠ S) : ∀ (m k : Nat) (s : Shared) (f : Bool) (ts : List Addr) (c0 : Nat), xs.size - k = m → k ≤ xs.size → ZipAt s.heap z TI TO i1 i2 l1 l2 T f k xs ys →
      s.heap.get? S = some { cls := .type "list", dict := none, data := .seq (ts.map Value.ref).toArray c0, slots := #[] } → ts.length = k → (∀ (i : Nat) (t : Addr), ts[i]? = some t → ∃ x y, xs[i]? = some x ∧ ys[i]? = some y ∧ IsPair s.heap t x y ∧ t ≠ z ∧ t ≠ i1 ∧ t ≠ i2 ∧ t ≠ S) → ts.Nodup → (∀ t ∈ ts, lo ≤ t) →
      (∀ h' (ts : List Addr) c1, h'.get? S = some { cls := .type "list", dict := none, data := .seq (ts.map Value.ref).toArray c1, slots := #[] } → ts.length = xs.size → (∀ (i : Nat) (t : Addr), ts[i]? = some t → ∃ x y, xs[i]? = some x ∧ ys[i]? = some y ∧ IsPair h' t x y) → ts.Nodup → (∀ t ∈ ts, lo ≤ t) →
        (∀ c o, P0 c → s.heap.get? c = some o → h'.get? c = some o) → R (.ok (.ret res)) { s with heap := h' }) →
      codeAny (model prog w) A (.builtin "list.extend.loop" ⟨[.ref S, .ref z, res], []⟩) R s := by
  intro m
  induction m with
  | zero =>
    intro k s f ts c0 e hk Z hS hl ht nd low fin
    obtain rfl : k = xs.size := by omega
    refine codeAny_builtin F.entry_extend_loop ?_
    rw [Around.under_plainId F.plain_extend_loop _]
    change wpAny _ A.in1 (pyNext (.ref z) >>= _) _ _ s
    refine wpAny_bind (zip_done (A := A.in1) free D Z (Array.getElem?_eq_none (Nat.le_refl _)) fun h' keep => ?_)
    refine wpAny_pure (fin h' ts c0 (keep S _ nS.1 nS.2.2.1 nS.2.2.2.1 hS) hl (fun i t hi => ?_) nd low fun c o hc e => ?_)
    · obtain ⟨x, y, a1, a2, a3, a4, a5, a6, _⟩ := ht i t hi
      exact ⟨x, y, a1, a2, keep t _ a4 a5 a6 a3⟩
    · obtain ⟨b1, b2, b3, _⟩ := h00 c hc
      exact keep c o b1 b2 b3 e
  | succ m ih =>
    intro k s f ts c0 e hk Z hS hl ht nd low fin
    have lt : k < xs.size := by omega
    refine codeAny_builtin F.entry_extend_loop ?_
    rw [Around.under_plainId F.plain_extend_loop _]
    change wpAny _ A.in1 (pyNext (.ref z) >>= _) _ _ s
    refine wpAny_bind (zip_alive (A := A.in1) D Z (x := xs[k]) (y := ys[k]) (Array.getElem?_eq_getElem lt) (Array.getElem?_eq_getElem (by omega)) nT fun h' Z' new keep => ?_)
    have hS' := keep S _ nS.1 nS.2.2.1 nS.2.2.2.1 hS
    change wpAny _ A.in1 (updateSeq S (·.push (.ref s.heap.objs.size)) >>= _) _ _ _
    refine wpAny_bind (wpAny_updateSeq hS' rfl (wpAny_pure ⟨plainId_quiet F.plain_extend_loop _, ?_⟩) (by rw [List.size_toArray, List.length_map, hl, sizeLine_eq]; omega) (by rw [Array.size_push, List.size_toArray, List.length_map, hl, sizeLine_eq]; omega))
    have at2 := Heap.get?_update_self (Obj.mapSeq (·.push (.ref s.heap.objs.size))) hS' rfl
    have oth : ∀ c o, c ≠ S → h'.get? c = some o → (h'.update S (Obj.mapSeq (·.push (.ref s.heap.objs.size)))).get? c = some o := fun c o n e => (Heap.get?_update_other _ _ (Ne.symm n)).trans e
    have big : ∀ {c o}, s.heap.get? c = some o → s.heap.objs.size ≠ c := fun e => Nat.ne_of_gt (Heap.lt_size e)
    obtain ⟨_, z1, _⟩ := Z.one
    obtain ⟨_, z2, _⟩ := Z.two
    obtain ⟨hz, ⟨oT, hT⟩, hTI, h1, h2, hl1, hl2⟩ := Z'
    obtain ⟨c2, at3⟩ : ∃ c2, (h'.update S (Obj.mapSeq (·.push (.ref s.heap.objs.size)))).get? S = some { cls := .type "list", dict := none, data := .seq ((ts ++ [s.heap.objs.size]).map Value.ref).toArray c2, slots := #[] } := by
      have push : (ts.map Value.ref).toArray.push (.ref s.heap.objs.size) = ((ts ++ [s.heap.objs.size]).map Value.ref).toArray := by simp
      have at3 := at2
      unfold Obj.mapSeq at at3
      dsimp only at at3
      rw [push] at at3
      exact ⟨_, at3⟩
    refine ih (k + 1) _ true (ts ++ [s.heap.objs.size]) c2 (by omega) lt ⟨oth _ _ nS.1.symm hz, ⟨oT, oth _ _ nS.2.2.2.2.2.2.symm hT⟩, oth _ _ nS.2.1.symm hTI, h1.at fun o e => oth _ o nS.2.2.1.symm e, h2.at fun o e => oth _ o nS.2.2.2.1.symm e, hl1.at fun o e => oth _ o nS.2.2.2.2.1.symm e, hl2.at fun o e => oth _ o nS.2.2.2.2.2.1.symm e⟩ at3 (by rw [List.length_append, hl]; rfl) (fun i t hi => ?_) (List.nodup_append.mpr ⟨nd, List.nodup_cons.mpr ⟨fun z => (by cases z), .nil⟩, fun a ha b hb e2 => ?_⟩) (fun t hm => ?_) fun h3 us c1 a1 a2 a3 a5 a6 a4 => fin h3 us c1 a1 a2 a3 a5 a6 fun c o hc e => ?_
    · by_cases hik : i < ts.length
      · rw [List.getElem?_append_left hik] at hi
        obtain ⟨x, y, b1, b2, b3, b4, b5, b6, b7⟩ := ht i t hi
        exact ⟨x, y, b1, b2, oth _ _ b7 (keep t _ b4 b5 b6 b3), b4, b5, b6, b7⟩
      · have hlt := (List.getElem?_eq_some_iff.mp hi).1
        rw [List.length_append, List.length_singleton] at hlt
        obtain rfl : i = ts.length := by omega
        rw [List.getElem?_append_right (Nat.le_refl _), Nat.sub_self] at hi
        obtain rfl : s.heap.objs.size = t := Option.some.inj hi
        rw [hl]
        exact ⟨_, _, Array.getElem?_eq_getElem lt, Array.getElem?_eq_getElem (by omega), oth _ _ (big hS) new, big Z.zip, big z1, big z2, big hS⟩
    · obtain ⟨i, hi⟩ := List.mem_iff_getElem?.mp ha
      obtain ⟨x, y, _, _, b3, _⟩ := ht i a hi
      rw [e2, List.mem_singleton.mp hb] at b3
      exact big b3 rfl
    · rcases List.mem_append.mp hm with hm | hm
      · exact low t hm
      · rw [List.mem_singleton.mp hm]
        exact Nat.le_of_lt (Nat.lt_of_le_of_lt hlo (Heap.lt_size Z.zip))
    · obtain ⟨b1, b2, b3, b4⟩ := h00 c hc
      exact a4 c o hc (oth c o b4 (keep c o b1 b2 b3 e))
theorem zip_no_len : typeLookup (.type "zip") "__len__" = pure none := am_miss_of_fast (by decide +kernel)
theorem zip_no_hint : typeLookup (.type "zip") "__length_hint__" = pure none := am_miss_of_fast (by decide +kernel)
theorem hint_zip {z : Addr} {Q : Bool → Shared → Prop} (isZ : s.TypeIs (.ref z) "zip") (h : Q true s) : wpAny (model prog w) A (Builtin.List.listLengthHint (.ref z)) Q E s := by
  unfold Builtin.List.listLengthHint
  refine wpAny_bind (wpAny_specialOf isZ zip_no_len ?_)
  refine wpAny_bind (wpAny_specialOf isZ zip_no_hint ?_)
  exact wpAny_pure h
theorem with_zip {R : Result → Shared → Prop} {z TI TO i1 i2 l1 l2 S lo : Addr} {xs ys : Array Value} {res a b : Value} {c0 : Nat} (free : A.handled = none) (D : ZipApart z TI TO i1 i2 l1 l2) (nS : S ≠ z ∧ S ≠ TI ∧ S ≠ i1 ∧ S ≠ i2 ∧ S ≠ l1 ∧ S ≠ l2 ∧ S ≠ TO)
    (same : xs.size = ys.size) (few : xs.size ≤ 1000) (some1 : 0 < xs.size) (hlo : lo ≤ z ∧ lo ≤ TO ∧ lo ≤ i1 ∧ lo ≤ i2 ∧ lo ≤ S) (hz : IsZip s.heap z TI TO .none) (hTI : IsPair s.heap TI (.ref i1) (.ref i2)) (hTO : IsPair s.heap TO a b)
    (h1 : s.heap.IsTupleIter i1 l1 0) (h2 : s.heap.IsTupleIter i2 l2 0) (hl1 : s.heap.IsTuple l1 xs) (hl2 : s.heap.IsTuple l2 ys) (hS : s.heap.get? S = some { cls := .type "list", dict := none, data := .seq #[] c0, slots := #[] })
    (fin : ∀ h' (ts : List Addr) c1, h'.get? S = some { cls := .type "list", dict := none, data := .seq (ts.map Value.ref).toArray c1, slots := #[] } → ts.length = xs.size → (∀ (i : Nat) (t : Addr), ts[i]? = some t → ∃ x y, xs[i]? = some x ∧ ys[i]? = some y ∧ IsPair h' t x y) → ts.Nodup → (∀ t ∈ ts, lo ≤ t ∧ t ≠ S) →
        (∀ c o, c < lo → s.heap.get? c = some o → h'.get? c = some o) → R (.ok (.ret res)) { s with heap := h' }) :
    wpAny (model prog w) A.in1 (Builtin.List.listExtendWith (.ref S) (.ref z) res)
      (fun fin s' => match fin with | .done f => R (.ok f) s' | .again c' => c'.quiet = true ∧ codeAny (model prog w) A c' R s') (fun e s' => R (.error e) s') s := by
  have isZ : s.TypeIs (.ref z) "zip" := ⟨_, hz, rfl⟩
  unfold Builtin.List.listExtendWith
  refine wpAny_bind (wpAny_typeOf isZ ?_)
  have d1 : Builtin.List.listSameRef (.ref S) (.ref z) = false := by simp [Builtin.List.listSameRef, nS.1]
  have d2 : (Value.type "zip" == Value.type "list") = false := by decide
  have d3 : (Value.type "zip" == Value.type "tuple") = false := by decide
  rw [d1, d2, d3, if_neg (show ¬((false || false || false) = true) from Bool.false_ne_true)]
  refine wpAny_bind (wpAny_pyIter_zip hz ?_)
  refine wpAny_bind (wpAny_holding (hint_zip isZ ?_))
  rw [if_pos (by rfl)]
  refine wpAny_bind (wpAny_rule (wpAny_bind ?_))
  change wpAny _ _ (updateSeq S (·.push .none) >>= fun _ => updateSeq S (·.pop)) _ _ _
  refine wpAny_bind (wpAny_updateSeq hS rfl ?_)
  have g1 := Heap.get?_update_self (Obj.mapSeq (·.push Value.none)) hS rfl
  refine wpAny_updateSeq (hz := by seq_fits) g1 rfl ?_
  have g2 := Heap.get?_update_self (Obj.mapSeq (·.pop)) g1 rfl
  have oth : ∀ c o, c ≠ S → s.heap.get? c = some o → ((s.heap.update S (Obj.mapSeq (·.push Value.none))).update S (Obj.mapSeq (·.pop))).get? c = some o := fun c o n e => (Heap.get?_update_other _ _ (Ne.symm n)).trans ((Heap.get?_update_other _ _ (Ne.symm n)).trans e)
  obtain ⟨c2, g3⟩ : ∃ c2, ((s.heap.update S (Obj.mapSeq (·.push Value.none))).update S (Obj.mapSeq (·.pop))).get? S = some { cls := .type "list", dict := none, data := .seq #[] c2, slots := #[] } := by
    have e := g2
    unfold Obj.mapSeq at e
    dsimp only at e
    rw [Array.pop_push] at e
    exact ⟨_, e⟩
  generalize (s.heap.update S (Obj.mapSeq (·.push Value.none))).update S (Obj.mapSeq (·.pop)) = h4 at g2 g3 oth
  refine wpAny_pure ⟨plainId_quiet F.plain_extend_loop _, ?_⟩
  -- the first pair
  have hz4 : IsZip h4 z TI TO .none := oth _ _ nS.1.symm hz
  have hTI4 : IsPair h4 TI (.ref i1) (.ref i2) := oth _ _ nS.2.1.symm hTI
  have hTO4 : IsPair h4 TO a b := oth _ _ nS.2.2.2.2.2.2.symm hTO
  have h14 : h4.IsTupleIter i1 l1 0 := h1.at fun o e => oth _ o nS.2.2.1.symm e
  have h24 : h4.IsTupleIter i2 l2 0 := h2.at fun o e => oth _ o nS.2.2.2.1.symm e
  have hl14 : h4.IsTuple l1 xs := hl1.at fun o e => oth _ o nS.2.2.2.2.1.symm e
  have hl24 : h4.IsTuple l2 ys := hl2.at fun o e => oth _ o nS.2.2.2.2.2.1.symm e
  refine codeAny_builtin F.entry_extend_loop ?_
  rw [Around.under_plainId F.plain_extend_loop _]
  change wpAny _ A.in1 (pyNext (.ref z) >>= _) _ _ _
  refine wpAny_bind (pyNext_zipT_item (A := A.in1) (s := { s with heap := h4 }) D hz4 hTI4 hTO4 h14 h24 hl14 hl24 (x := xs[0]) (y := ys[0]) (Array.getElem?_eq_getElem some1) (Array.getElem?_eq_getElem (by omega)) fun h5 a1 a2 a3 a4 a5 a6 keep => ?_)
  dsimp only at a1 a5 a6 keep
  have big : ∀ {c o}, h4.get? c = some o → h4.objs.size ≠ c := fun e => Nat.ne_of_gt (Heap.lt_size e)
  obtain ⟨o1, w1, _⟩ := h14
  obtain ⟨o2, w2, _⟩ := h24
  have hS5 := keep S _ nS.1 nS.2.2.2.2.2.2 nS.2.2.1 nS.2.2.2.1 g3
  change wpAny _ A.in1 (updateSeq S (·.push (.ref h4.objs.size)) >>= _) _ _ _
  refine wpAny_bind (wpAny_updateSeq hS5 rfl (wpAny_pure ⟨plainId_quiet F.plain_extend_loop _, ?_⟩) (Nat.zero_le _) (by rw [sizeLine_eq]; exact Nat.le_of_ble_eq_true rfl))
  have at2 := Heap.get?_update_self (Obj.mapSeq (·.push (.ref h4.objs.size))) hS5 rfl
  have oth2 : ∀ c o, c ≠ S → h5.get? c = some o → (h5.update S (Obj.mapSeq (·.push (.ref h4.objs.size)))).get? c = some o := fun c o n e => (Heap.get?_update_other _ _ (Ne.symm n)).trans e
  have nTS : h4.objs.size ≠ S := big g3
  refine extend_zip free D (T := h4.objs.size) ⟨big hz4, big w1, big w2⟩ ⟨nS.1, nS.2.1, nS.2.2.1, nS.2.2.2.1, nS.2.2.2.2.1, nS.2.2.2.2.2.1, nTS.symm⟩ same few lo hlo.1 (fun c => c < lo) (fun c hc => ?_) (xs.size - 1) 1 _ false [h4.objs.size] _ rfl some1
    ⟨oth2 _ _ nS.1.symm a1, ⟨_, oth2 _ _ nTS a5⟩, oth2 _ _ nS.2.1.symm (keep TI _ D.TIz D.TITO D.TIi1 D.TIi2 hTI4), a3.at fun o e => oth2 _ o nS.2.2.1.symm e, a4.at fun o e => oth2 _ o nS.2.2.2.1.symm e, (hl14.at fun o e => keep l1 o D.l1z D.l1TO D.l1i1 D.l1i2 e).at fun o e => oth2 _ o nS.2.2.2.2.1.symm e, (hl24.at fun o e => keep l2 o D.l2z D.l2TO D.l2i1 D.l2i2 e).at fun o e => oth2 _ o nS.2.2.2.2.2.1.symm e⟩
    at2 rfl (fun i t hi => ?_) (List.nodup_cons.mpr ⟨fun z => (by cases z), .nil⟩) (fun t ht => ?_) fun h6 ts c3 b1 b2 b3 b4 b5 b6 => fin h6 ts c3 b1 b2 b3 b4 (fun t ht => ⟨b5 t ht, fun c => ?_⟩) fun c o hc e => ?_
  · exact ⟨fun z => absurd (z ▸ hc) (Nat.not_lt.mpr hlo.1), fun z => absurd (z ▸ hc) (Nat.not_lt.mpr hlo.2.2.1), fun z => absurd (z ▸ hc) (Nat.not_lt.mpr hlo.2.2.2.1), fun z => absurd (z ▸ hc) (Nat.not_lt.mpr hlo.2.2.2.2)⟩
  · have hlt := (List.getElem?_eq_some_iff.mp hi).1
    obtain rfl : i = 0 := Nat.lt_one_iff.mp hlt
    obtain rfl : h4.objs.size = t := Option.some.inj hi
    exact ⟨_, _, Array.getElem?_eq_getElem some1, Array.getElem?_eq_getElem (by omega), oth2 _ _ nTS a5, big hz4, big w1, big w2, nTS⟩
  · rw [List.mem_singleton.mp ht]
    exact Nat.le_of_lt (Nat.lt_of_le_of_lt hlo.1 (Heap.lt_size hz4))
  · obtain ⟨i, hi⟩ := List.mem_iff_getElem?.mp ht
    obtain ⟨x, y, _, _, e⟩ := b3 i t hi
    rw [c] at e
    have z := congrArg (Option.map Obj.cls) (b1.symm.trans e)
    simp at z
  · have n1 : c ≠ S := fun z => absurd (z ▸ hc) (Nat.not_lt.mpr hlo.2.2.2.2)
    exact b6 c o hc (oth2 c o n1 (keep c o (fun z => absurd (z ▸ hc) (Nat.not_lt.mpr hlo.1)) (fun z => absurd (z ▸ hc) (Nat.not_lt.mpr hlo.2.1)) (fun z => absurd (z ▸ hc) (Nat.not_lt.mpr hlo.2.2.1)) (fun z => absurd (z ▸ hc) (Nat.not_lt.mpr hlo.2.2.2.1)) (oth c o n1 e)))
theorem list_of_zip {z TI TO i1 i2 l1 l2 lo : Addr} {xs ys : Array Value} {a b : Value} {Q : Value → Shared → Prop} (free : A.handled = none) (D : ZipApart z TI TO i1 i2 l1 l2) (same : xs.size = ys.size) (few : xs.size ≤ 1000) (some1 : 0 < xs.size)
    (hlo : lo ≤ z ∧ lo ≤ TO ∧ lo ≤ i1 ∧ lo ≤ i2) (hz : IsZip s.heap z TI TO .none) (hTI : IsPair s.heap TI (.ref i1) (.ref i2)) (hTO : IsPair s.heap TO a b) (h1 : s.heap.IsTupleIter i1 l1 0) (h2 : s.heap.IsTupleIter i2 l2 0) (hl1 : s.heap.IsTuple l1 xs) (hl2 : s.heap.IsTuple l2 ys)
    (fin : ∀ h' (ts : List Addr) c1, h'.get? s.heap.objs.size = some { cls := .type "list", dict := none, data := .seq (ts.map Value.ref).toArray c1, slots := #[] } → ts.length = xs.size → (∀ (i : Nat) (t : Addr), ts[i]? = some t → ∃ x y, xs[i]? = some x ∧ ys[i]? = some y ∧ IsPair h' t x y) → ts.Nodup → (∀ t ∈ ts, lo ≤ t ∧ t ≠ s.heap.objs.size) →
        (∀ c o, c < lo → s.heap.get? c = some o → h'.get? c = some o) → Q (.ref s.heap.objs.size) { s with heap := h' }) :
    wpAny (model prog w) A (call (.type "list") [.ref z]) Q E s := by
  refine callType_codes (Q₁ := fun o s1 => o = .ref s.heap.objs.size ∧ s1 = { s with heap := s.heap.push { cls := .type "list", data := .seq #[] } }) F.called_list (F.typeCall_list_1 _) F.entry_list_init (code_list_new _ ⟨rfl, rfl⟩) fun o s1 e => ?_
  obtain ⟨rfl, rfl⟩ := e
  have new : (s.heap.push { cls := .type "list", data := .seq #[] }).get? s.heap.objs.size = some { cls := .type "list", dict := none, data := .seq #[], slots := #[] } := Heap.get?_push_size _ rfl
  refine ⟨⟨_, new, rfl⟩, F.args_list_init_2 _ _, ?_⟩
  change wpAny _ _ (Builtin.List.listItems (.ref s.heap.objs.size) >>= fun old => Builtin.List.listUpdate (.ref s.heap.objs.size) (fun _ => #[]) >>= fun _ => letGo old.toList.reverse >>= fun _ => Builtin.List.listExtendWith (.ref s.heap.objs.size) (.ref z) .none) _ _ _
  unfold Builtin.List.listItems
  refine wpAny_bind (wpAny_bind (wpAny_seqItems new rfl (wpAny_pure ?_)))
  change wpAny _ _ (updateSeq s.heap.objs.size (fun _ => #[]) >>= _) _ _ _
  refine wpAny_bind (wpAny_updateSeq new rfl ?_)
  have g2 := Heap.get?_update_self (Obj.mapSeq (fun _ => (#[] : Array Value))) new rfl
  have up : ∀ c o, s.heap.get? c = some o → ((s.heap.push { cls := .type "list", data := .seq #[] }).update s.heap.objs.size (Obj.mapSeq (fun _ => (#[] : Array Value)))).get? c = some o := fun c o e => (Heap.get?_update_other _ _ (Nat.ne_of_gt (Heap.lt_size e))).trans (Heap.get?_push_of_some _ e)
  have big : ∀ {c o}, s.heap.get? c = some o → s.heap.objs.size ≠ c := fun e => Nat.ne_of_gt (Heap.lt_size e)
  obtain ⟨o1, w1, r1⟩ := h1
  obtain ⟨o2, w2, r2⟩ := h2
  obtain ⟨o3, w3, r3⟩ := hl1
  obtain ⟨o4, w4, r4⟩ := hl2
  refine wpAny_bind (wpAny_letGo (with_zip (A := A.in1) (S := s.heap.objs.size) (lo := lo) free D ⟨big hz, big hTI, big w1, big w2, big w3, big w4, big hTO⟩ same few some1 ⟨hlo.1, hlo.2.1, hlo.2.2.1, hlo.2.2.2, Nat.le_of_lt (Nat.lt_of_le_of_lt hlo.1 (Heap.lt_size hz))⟩ (up _ _ hz) (up _ _ hTI) (up _ _ hTO) ⟨o1, up _ _ w1, r1⟩ ⟨o2, up _ _ w2, r2⟩ ⟨o3, up _ _ w3, r3⟩ ⟨o4, up _ _ w4, r4⟩ g2
    fun h' ts c1 b1 b2 b3 b4 b5 b6 => ⟨rfl, fin h' ts c1 b1 b2 b3 b4 b5 fun c o hc e => b6 c o hc (up c o e)⟩))
end
end PlayL
set_option Elab.async false
set_option linter.all false
set_option maxRecDepth 100000
set_option maxHeartbeats 1000000
namespace L2
open PySem PySem.Spec PyProof.Rows RZ
/-- list(zip(a, b)), two tuples of one length, not empty: a new list of new pairs -/
def tListZip (K : PySem.W.Frag) (ta : TA) : TE := fun σ H Q => ta σ H fun vs H1 => ∃ a b xs ys, vs = [.ref a, .ref b] ∧ SqT K H1 a xs ∧ SqT K H1 b ys ∧ xs.length = ys.length ∧ 0 < xs.length ∧ xs.length ≤ 1000 ∧
  ∀ H2 p (ts : List Addr), Same H1 H2 → H1 p = none → H2 p = some (.lst (ts.map V.ref)) → Paired (fun t (q : V × V) => H2 t = some (.tup [q.1, q.2])) ts (xs.zip ys) → Q (.ref p) H2
theorem paired_of_ix {α β : Type} {F : α → β → Prop} : ∀ {xs : List α} {ys : List β}, xs.length = ys.length → (∀ (i : Nat) a b, xs[i]? = some a → ys[i]? = some b → F a b) → Paired F xs ys
  | [], [], _, _ => .nil
  | [], _ :: _, h, _ => by cases h
  | _ :: _, [], h, _ => by cases h
  | a :: xs, b :: ys, h, f => .cons (f 0 a b rfl rfl) (paired_of_ix (Nat.succ.inj h) fun i x y hx hy => f (i + 1) x y hx hy)
section
variable {X : Cx}
theorem pe_listZip {e1 e2 : Expr} {ta : TA} {p p2 q pos : Pos} (hc : X.calm = true) (hg : Gl X "list") (hm : X.mg "list" = none) (hg2 : Gl X "zip") (hm2 : X.mg "zip" = none) (ha : PA X [e1, e2] ta)
    (hs : starEach [e1, e2] X.env = (false, eval e1 X.env) :: starEach [e2] X.env := by rfl) (hpl : (backTo q (starEach [e2] X.env)).any (·.1) = false := by rfl)
    (na : starEach [.Call (.Name "zip" p2) [e1, e2] [] q] X.env = (false, eval (.Call (.Name "zip" p2) [e1, e2] [] q) X.env) :: starEach [] X.env := by rfl) :
    PE X (.Call (.Name "list" p) [.Call (.Name "zip" p2) [e1, e2] [] q] [] pos) (tListZip X.K ta) := by
  refine ⟨fun pins s σ H Q I h => ?_⟩
  refine Call_ (ld_blt I hg hm boot_list ?_)
  refine callWith_type1 (args_cons ?_ na) na rfl
  refine Call_ (ld_blt I hg2 hm2 boot_zip ?_)
  refine callWith_type1 ?_ hs hpl
  refine thn (ha.run q pins s σ H _ I h) fun us s1 ⟨vs, H1, I1, r1, q1⟩ => ?_
  obtain ⟨a, b, xs, ys, rfl, hx, hy, same, pos1, few, q1⟩ := q1
  obtain ⟨u1, us, rfl, ra, rr⟩ : ∃ u1 us', us = u1 :: us' ∧ RelV (.ref a) u1 ∧ Vals [.ref b] us' := by
    cases r1 with
    | cons r rr => exact ⟨_, _, rfl, r, rr⟩
  obtain ⟨u2, rfl, rb⟩ := vals1 rr
  obtain rfl : u1 = .ref a := ra
  obtain rfl : u2 = .ref b := rb
  obtain ⟨its, rv, p1, _⟩ := I1.tuple hx
  obtain ⟨its2, rv2, p2, _⟩ := I1.tuple hy
  obtain ⟨o1, ho1, t1⟩ := id p1
  obtain ⟨o2, ho2, t2⟩ := id p2
  have l1 := rv.length
  have l2 := rv2.length
  refine call_zipT (show s1.heap.IsTuple a its.toArray from p1) (show s1.heap.IsTuple b its2.toArray from p2) fun h' hz hTI hTO h1 h2 hsz hk => args_nil ?_
  have D := PySem.W.ktu_apart s1.heap.objs.size a b (Heap.lt_size ho1) (Heap.lt_size ho2)
  refine PlayL.list_of_zip (s := { s1 with heap := h' }) (lo := s1.heap.objs.size) (I1.ok.hd hc) D (xs := its.toArray) (ys := its2.toArray) (by rw [List.size_toArray, List.size_toArray]; omega) (by rw [List.size_toArray]; omega) (by rw [List.size_toArray]; omega) ⟨Nat.le_add_right _ _, Nat.le_add_right _ _, Nat.le_refl _, Nat.le_add_right _ _⟩ hz hTI hTO h1 h2 ⟨o1, hk _ _ ho1, t1⟩ ⟨o2, hk _ _ ho2, t2⟩ fun h3 ts c1 e1 e2 e3 e4 e5 e6 => ?_
  have keep : ∀ c o, s1.heap.get? c = some o → h3.get? c = some o := fun c o e => e6 c o (Heap.lt_size e) (hk c o e)
  have low : s1.heap.objs.size ≤ h'.objs.size := by rw [hsz]; exact Nat.le_add_right _ _
  have few2 : ts.length ≤ 1000 := by rw [e2, List.size_toArray]; omega
  have I2 : Inv X pins σ (upd H1 h'.objs.size (.lst (ts.map V.ref))) { s1 with heap := h3, toks := s1.toks } := I1.laid keep low ⟨by rw [List.length_map, sizeLine_eq]; omega, ts.map Value.ref, c1, LiI.vals_refs ts, e1⟩
  have f0 : H1 h'.objs.size = none := I1.hok.fresh low
  obtain ⟨H2, I3, g, qt⟩ := DX.takeT (P := fun t vs => ∃ (i : Nat) (x y : V), ts[i]? = some t ∧ xs[i]? = some x ∧ ys[i]? = some y ∧ vs = [x, y]) I1 ts _ I2 e4 fun t ht => by
    obtain ⟨lo, ne⟩ := e5 t ht
    obtain ⟨i, hi⟩ := List.mem_iff_getElem?.mp ht
    obtain ⟨u1, u2, w1, w2, pr⟩ := e3 i t hi
    have hlt : i < its.length := by
      have := (List.getElem?_eq_some_iff.mp hi).1
      rw [e2, List.size_toArray] at this
      exact this
    obtain ⟨x, hx1⟩ : ∃ x, xs[i]? = some x := ⟨_, List.getElem?_eq_getElem (by omega)⟩
    obtain ⟨y, hy1⟩ : ∃ y, ys[i]? = some y := ⟨_, List.getElem?_eq_getElem (by omega)⟩
    obtain ⟨v1, a1, r1⟩ := L2.paired_get rv hx1
    obtain ⟨v2, a2, r2⟩ := L2.paired_get rv2 hy1
    rw [List.getElem?_toArray, a1] at w1
    rw [List.getElem?_toArray, a2] at w2
    obtain rfl := Option.some.inj w1
    obtain rfl := Option.some.inj w2
    exact ⟨lo, by rw [upd_ne ne]; exact I1.hok.fresh lo, [x, y], ⟨i, x, y, hi, hx1, hy1, rfl⟩, fun H2 => ⟨by show 2 ≤ sizeLine; decide, [v1, v2], .cons r1 (.cons r2 .nil), ⟨_, pr, rfl, _, rfl⟩⟩⟩
  refine ⟨.ref h'.objs.size, H2, I3, rfl, q1 H2 h'.objs.size ts (fun c o e => g c o ((upd_ne (ne_of_none e f0)).trans e)) f0 (g _ _ upd_same) ?_⟩
  refine paired_of_ix (by rw [List.length_zip, e2, List.size_toArray]; omega) fun i t p hi hp => ?_
  obtain ⟨vs, ⟨j, x, y, b1, b2, b3, rfl⟩, b4⟩ := qt t (List.mem_of_getElem? hi)
  obtain rfl : i = j := (List.getElem?_inj (List.getElem?_eq_some_iff.mp hi).1 e4).mp (hi.trans b1.symm)
  have z := List.getElem?_zip_eq_some.mp hp
  rw [b2, b3] at z
  obtain rfl := Option.some.inj z.1
  obtain rfl := Option.some.inj z.2
  exact b4
end
end L2
set_option Elab.async false
set_option linter.all false
set_option maxRecDepth 100000
set_option maxHeartbeats 2000000
namespace PlayL
open PySem PySem.Spec PyProof.Rows L2
section
variable {prog : Program} {w : World} {A : Around} {E : Value → Shared → Prop} {s : Shared} {T : String} {r d : Addr} {n : Nat} {P : Nat → Value → Prop} {OK : Heap → Prop}
/-- what a walk gives, gathered -/
theorem gather {Q : List Value → Shared → Prop} (K : W.KdlSrc prog w T r d n P OK) (free : A.handled = none) (ok : OK s.heap) (hn : n ≤ sizeLine)
    (q : ∀ (h' : Heap) (tk : Nat) (acc : Array Value), (∀ b o, s.heap.get? b = some o → h'.get? b = some o) → ItemsOf P acc n → Q acc.toList { s with heap := h', toks := tk }) : wpAny (model prog w) A (collect (.ref r)) Q E s := by
  unfold collect
  refine wpAny_bind (wpAny_runValue (codeAny_builtin F.entry_proto_collect ?_))
  rw [Around.under_plainId F.plain_proto_collect _]
  change wpAny _ A.in1 (newList [] >>= fun l => again (Code.builtin "list.__iadd__" ⟨[l, .ref r], []⟩)) _ _ s
  refine wpAny_bind (wpAny_newObj_type (wpAny_pure ⟨plainId_quiet F.plain_list_iadd _, codeAny_builtin F.entry_list_iadd ?_⟩))
  rw [Around.under_plainId F.plain_list_iadd _]
  change wpAny _ A.in1 (Builtin.List.listExtendWith (.ref s.heap.objs.size) (.ref r) (.ref s.heap.objs.size)) _ _ _
  have new : (s.heap.push { cls := .type "list", data := .seq ([] : List Value).toArray }).get? s.heap.objs.size = some { cls := .type "list", data := .seq #[] 0 } := Heap.get?_push_size _ rfl
  have lt := K.there _ ok
  refine wpAny_mono (W.kdl_extend (A := A) (R := fun rr s' => rr = .ok (.ret (.ref s.heap.objs.size)) ∧ ∃ (h' : Heap) (tk : Nat) (acc : Array Value) (c : Nat), s' = { s with heap := h', toks := tk } ∧ (∀ b o, s.heap.get? b = some o → h'.get? b = some o) ∧ h'.get? s.heap.objs.size = some { cls := .type "list", dict := none, data := .seq acc c, slots := #[] } ∧ ItemsOf P acc n)
    (s := { s with heap := s.heap.push { cls := .type "list", data := .seq ([] : List Value).toArray } }) K free (K.keep _ _ ok fun b _ o e => Heap.get?_push_of_some _ e) _ (Nat.ne_of_gt lt.1) (Nat.ne_of_gt lt.2) _ 0 new
    (fun h' tk acc c k e it => ⟨rfl, h', tk, acc, c, rfl, fun b o z => k b o (Nat.ne_of_lt (Heap.lt_size z)) (Heap.get?_push_of_some _ z), e, it⟩) hn) (fun f s' h => ?_) (fun e s' h => (nomatch h.1))
  match f, h with
  | .done f, ⟨e, h', tk, acc, c, e2, k, at_, it⟩ =>
    cases e
    cases e2
    change wpAny _ A (load s.heap.objs.size >>= _) _ _ _
    exact wpAny_bind (wpAny_load at_ (wpAny_pure (q h' tk acc k it)))
  | .again c', ⟨quiet, h⟩ =>
    refine ⟨quiet, codeAny_mono h fun rr s2 h2 => ?_⟩
    obtain ⟨rfl, h', tk, acc, c, rfl, k, at_, it⟩ := h2
    change wpAny _ A (load s.heap.objs.size >>= _) _ _ _
    exact wpAny_bind (wpAny_load at_ (wpAny_pure (q h' tk acc k it)))
theorem tuple_of_dict {Q : Value → Shared → Prop} (K : W.KdlSrc prog w "dict" d d n P OK) (free : A.handled = none) (ok : OK s.heap) (hn : n ≤ sizeLine)
    (q : ∀ (h' : Heap) (tk : Nat) (acc : Array Value), (∀ b o, s.heap.get? b = some o → h'.get? b = some o) → ItemsOf P acc n → Q (.ref h'.objs.size) { s with heap := h'.push { cls := .type "tuple", data := .seq acc }, toks := tk }) :
    wpAny (model prog w) A (call (.type "tuple") [.ref d]) Q E s := by
  refine callType_codes (Q₁ := fun o s1 => s1.TypeIs o "tuple" ∧ Q o s1) F.called_tuple (F.typeCall_tuple_1 _) F.entry_object_init (codeAny_of_tree ?_) fun o s1 h1 => ⟨h1.1, F.args_object_init_2 o _, object_init_meets F.called_tuple.init.lookup F.called_tuple.made (by decide) prog w A.in1 _ s1 ⟨h1.1, rfl, h1.2⟩⟩
  change wpAny _ A.in1.in1 (checkBuiltinCall "tuple.__new__" ⟨[.type "tuple", .ref d], []⟩ >>= fun _ => again (Code.builtin "tuple.__new__" ⟨[.type "tuple", .ref d], []⟩)) _ _ s
  refine wpAny_bind (wpAny_of_eq (F.newCall_tuple_1 _) (wpAny_pure ⟨plainId_quiet F.plain_tuple_new _, codeAny_builtin F.entry_tuple_new ?_⟩))
  rw [Around.under_plainId F.plain_tuple_new _]
  have f1 := sub_tuple_self
  have f2 := init_tuple_lookup
  have f3 := madeHere_tuple
  have isD := K.type s ok
  have free2 : A.in1.in1.handled = none := free
  wp_walk using wpAny_typeOf isD, gather K free2 ok hn
  intro h' tk acc keep it
  change wpAny _ _ (Builtin.Tuple.tupleExact acc.toList.toArray >>= fun v => ret v) _ _ _
  unfold Builtin.Tuple.tupleExact
  rw [Array.toArray_toList]
  refine wpAny_bind (wpAny_newObj_type (wpAny_pure ?_) (by show acc.size ≤ sizeLine; rw [it.1]; exact hn))
  exact ⟨⟨_, Heap.get?_push_size _ rfl, rfl⟩, q h' tk acc keep it⟩
end
end PlayL
namespace L2
open PySem PySem.Spec PyProof.Rows
section
variable {X : Cx}
/-- tuple(d): its keys -/
def rTupD : List V → Hp → VK → Prop := fun xs H Q => ∃ (a : Addr) (kvs : List (Key × V)), xs = [.ref a] ∧ Rd H a (.dK kvs) ∧ ∀ p, H p = none → Q (.ref p) (upd H p (.tup (kvs.map fun kv => kV kv.1)))
theorem call_tupD (hc : X.calm = true) : CallR X (.type "tuple") rTupD := by
  intro pins s σ H xs us Q I r q
  obtain ⟨a, kvs, rfl, hd, q⟩ := q
  obtain ⟨u, rfl, rx⟩ := vals1 r
  obtain rfl : u = .ref a := rx
  obtain ⟨z, lo, vs, rel, dd⟩ := dk_rd I.hok hd
  obtain ⟨ep, hat⟩ := dd.dictAt
  have ek : (kvs.map fun kv => kV kv.1) = vs.map fun p => kV p.1 := by
    have e := congrArg (List.map kV) rel.keys
    rwa [List.map_map, List.map_map] at e
  refine PlayL.tuple_of_dict (PySem.W.kdl_dict (knd := mixKind X.prog X.w) (kvs := vs) (ep := ep) lo) (I.ok.hd hc) hat (rel.length ▸ z) fun h' tk acc keep it => ?_
  have hv : Vals (vs.map fun p => kV p.1) acc.toList := keys_at (by rw [Array.length_toList]; exact it.1) fun j v e => it.2 j v (by rw [← Array.getElem?_toList]; exact e)
  have I1 : Inv X pins σ H { s with heap := h', toks := tk } := I.kept keep
  have f0 := I1.hok.fresh (Nat.le_refl h'.objs.size)
  refine ⟨.ref h'.objs.size, upd H h'.objs.size (.tup (kvs.map fun kv => kV kv.1)), I1.laid (t' := tk) (fun b o e => Heap.get?_push_of_some _ e) (Nat.le_refl _) ?_, rfl, q _ f0⟩
  exact ⟨by rw [List.length_map]; exact z, acc.toList, by rw [ek]; exact hv, _, Heap.get?_push_size _ rfl, rfl, 0, by rw [Array.toArray_toList]⟩
/-- the view d.values() at p -/
def valuesO (p d : Addr) : HO := .ext fun h => h.IsValuesView p d
/-- d.values() -/
def rVals : V → List V → Hp → VK → Prop := fun x xs H Q => ∃ (a : Addr) (kvs : List (Key × V)), x = .ref a ∧ xs = [] ∧ H a = some (.dK kvs) ∧ ∀ p, H p = none → Q (.ref p) (upd H p (valuesO p a))
theorem mt_values : MtR X "dict.values" rVals := by
  intro pins s σ H x xs v us Q I rx rxs h
  obtain ⟨a, kvs, rfl, rfl, ha, q⟩ := h
  obtain rfl : v = .ref a := rx
  cases rxs
  obtain ⟨z, lo, vs, rel, dd⟩ := dk_of I.hok ha
  refine call_meetsIn PySem.F.slot_dict_values dd.typeIs PySem.F.entry_dict_values (PySem.F.args_dict_values_1 _) (meets_dict_values (mixKind X.prog X.w) a lo) ⟨⟨vs, dd⟩, ?_⟩
  have f0 := I.hok.fresh (Nat.le_refl s.heap.objs.size)
  have at_ : (s.heap.push { cls := .type "dict_values", data := .fields #[.ref a] }).get? s.heap.objs.size = some { cls := .type "dict_values", data := .fields #[.ref a] } := Heap.get?_push_size _ rfl
  exact ⟨.ref s.heap.objs.size, upd H s.heap.objs.size (valuesO s.heap.objs.size a), I.laid (t' := s.toks) (fun b o e => Heap.get?_push_of_some _ e) (Nat.le_refl _) ⟨⟨_, at_, rfl, rfl⟩, ⟨_, at_⟩, fun h1 h2 ⟨o, ho, r⟩ k => ⟨o, k o ho, r⟩⟩, rfl, q _ f0⟩
/-- list(d.values()) -/
def rListV : List V → Hp → VK → Prop := fun xs H Q => ∃ (p a : Addr) (kvs : List (Key × V)), xs = [.ref p] ∧ H p = some (valuesO p a) ∧ H a = some (.dK kvs) ∧ ∀ q, H q = none → Q (.ref q) (upd H q (.lst (kvs.map (·.2))))
theorem call_listV (hc : X.calm = true) : CallR X (.type "list") rListV := by
  intro pins s σ H xs us Q I r q
  obtain ⟨p, a, kvs, rfl, hp, ha, q⟩ := q
  obtain ⟨u, rfl, rx⟩ := vals1 r
  obtain rfl : u = .ref p := rx
  obtain ⟨z, lo, vs, rel, dd⟩ := dk_of I.hok ha
  obtain ⟨ep, hat⟩ := dd.dictAt
  have hv : s.heap.IsValuesView p a := (I.hok p _ hp).1
  refine PySem.W.kdl_call (PySem.W.kdl_values (knd := mixKind X.prog X.w) (kvs := vs) (ep := ep)) (I.ok.hd hc) ⟨hv, hat⟩ (rel.length ▸ z) fun h' tk acc c' keep at_ it => ?_
  have len : acc.toList.length = kvs.length := by rw [Array.length_toList, it.1, rel.length]
  have vals : Vals (kvs.map (·.2)) acc.toList := paired_of_ix (by rw [List.length_map, len]) fun i x y hx hy => by
    rw [List.getElem?_map] at hx
    cases e : kvs[i]? with
    | none =>
      rw [e] at hx
      cases hx
    | some kv =>
      rw [e] at hx
      obtain rfl := Option.some.inj hx
      obtain ⟨k, w1⟩ := it.2 i y (by rw [← Array.getElem?_toList]; exact hy)
      obtain ⟨q1, w2, w3⟩ := L2.paired_get rel e
      rw [w1] at w2
      obtain rfl := Option.some.inj w2
      exact w3.2
  refine ⟨.ref s.heap.objs.size, upd H s.heap.objs.size (.lst (kvs.map (·.2))), I.laid (t' := tk) keep (Nat.le_refl _) ⟨by rw [List.length_map]; exact z, acc.toList, c', vals, by rw [Array.toArray_toList]; exact at_⟩, rfl, q _ (I.hok.fresh (Nat.le_refl _))⟩
end
end L2
set_option Elab.async false
set_option linter.all false
set_option maxRecDepth 100000
set_option maxHeartbeats 1000000
namespace L2
open PySem PySem.Spec PyProof.Rows
section
variable {X : Cx}
/-- {(.., ..): v}, a dict of one entry whose key is a tuple -/
def tDispT (tk tv : TE) : TE := fun σ H Q => ∀ p, H p = none → tk σ (upd H p (.dT [])) fun kx H1 => tv σ H1 fun vx H2 => H2 p = some (.dT []) ∧ ∃ b k, kx = .ref b ∧ H2 b = some (.tup (k.map kV)) ∧ Q (.ref p) (upd H2 p (.dT [(k, vx)]))
theorem pe_dispT {ke ve : Expr} {tk tv : TE} {pos : Pos} (hu : X.A.units + 1 < cLine) (hk : PE X ke tk) (hv : PE X ve tv) : PE X (.Dict [some ke] [ve] pos) (tDispT tk tv) := by
  refine ⟨fun pins s σ H Q I q => ?_⟩
  have f0 := I.hok.fresh (Nat.le_refl s.heap.objs.size)
  have I1 := I.laid (a := s.heap.objs.size) (o := .dT []) (h' := s.heap.push { cls := .type "dict", data := .dict #[] }) (t' := s.toks) (fun _ _ q => Heap.get?_push_of_some _ q) (Nat.le_refl _) (dt_empty s.heap I.big)
  have shape := zip_pairTrees [some ke] [ve] X.env pos rfl rfl
  have len := pairTrees_length [some ke] [ve] X.env pos rfl rfl
  rw [arm_eval_Dict, shape, dictDisplay_pairs _ (fun z => by rw [z] at len; cases len) (len ▸ (by decide : (1 : Nat) < 17))]
  refine wpAny_bind (wpAny_standAt (wpAny_bind ?_))
  unfold subDict
  refine wpAny_bind (wpAny_alloc (wpAny_bind (wpAny_holding ?_)))
  rw [if_pos (len ▸ (by decide : (1 : Nat) ≤ 15))]
  refine wpAny_bind (pairTrees_cons_walk (thn (hk.run pins _ σ _ _ I1 (q _ f0)) fun kv s1 ⟨kx, H1, I1, rk, q1⟩ => thn (hv.run pins s1 σ H1 _ I1 q1) fun vv s2 ⟨vx, H2, I2, rv, at_, b, k, ek, hb, q2⟩ => pairTrees_nil_walk ?_))
  subst ek
  obtain rfl : kv = .ref b := rk
  refine wpAny_holding ?_
  rw [List.forIn_cons]
  refine wpAny_bind (wpAny_bind (wpAny_bind ?_))
  obtain ⟨z, hd, xs, rel, dd⟩ := dt_of I2.hok at_
  have hz : xs.length ≤ sizeLine := by
    have := Paired.length rel
    rw [← this]
    exact Nat.zero_le _
  refine wpAny_dictSet_heap (hsz := hz) (knd := tupleKind (mixKind X.prog X.w)) (Nat.lt_of_succ_lt hu) (key_of I2.hok hb) dd fun h' dd' hs => wpAny_pure ?_
  dsimp only
  rw [List.forIn_nil]
  refine wpAny_pure (wpAny_pure (wpAny_pure (wpAny_pure ⟨.ref s.heap.objs.size, _, ?_, rfl, q2⟩)))
  obtain ⟨o, es, ep, ho, h2, h3, h4, _, h5⟩ := dd'
  refine d_write I2 (by rw [at_]; exact True.intro) hs ⟨o, ho⟩ ⟨by show 1 ≤ sizeLine; decide, hd, _, (rel.put k hb rv).keeps fun c ys ec => ?_, o, es, ep, ho, h2, h3, h4, h5⟩
  rw [upd_ne (ne_of ec at_ (fun z => nomatch z))]
  exact ec
end
end L2
set_option Elab.async false
set_option linter.all false
set_option maxRecDepth 100000
set_option maxHeartbeats 2000000
namespace L2
namespace Pl
open PySem PySem.Spec PyProof.Rows
section
variable {P : Program} {w : World} {K : PySem.W.Frag} {mg : Str → Option Value} {base : Heap}
/-- a def without defaults, called by position and by keyword -/
theorem kbn_of {x qual : Str} {params : Arguments} {body : List Stmt} {scope : Scope} {f : Addr} {fd : FuncData} {ps : List Str} (F : FunD K x qual params body scope [] [] f fd) (n : Nat) (ks : List Str)
    (h : ∀ (kV doc pm : Value) (an : Option Addr) (cdv ct : Value) (us ws : List Value), us.length = n → ws.length = ks.length → bindArgs (PySem.W.fnOf x qual params body scope .none kV doc pm an cdv ct) ⟨us, ks.zip ws⟩ = pure (ps.zip (us ++ ws))) :
    KBn K fd ps n ks (fun us ws => us ++ ws) (fun vs zs => vs ++ zs) := by
  obtain ⟨oc, od, dV, kV, doc, pm, an, cdv, ct, osl, rfl, _, _, hD, _⟩ := F.ex
  rcases hD with ⟨_, rfl⟩ | ⟨e, _⟩
  · exact ⟨fun s us ws _ h1 h2 => .of_eq (h kV doc pm an cdv ct us ws h1 h2), fun r1 r2 => r1.append r2⟩
  · exact absurd rfl e
/-- the whole of such an __init__ -/
theorem ini_ok {qual f : Str} {params : Arguments} {scope : Scope} {C fI : Addr} {fd : FuncData} {q1 q2 q3 q4 : Pos} (F : FunD K "__init__" qual params [.Assign [.Attribute (.Name "self" q1) f q2] (.Name f q3) q4] scope [] [] fI fd) (S : FnScope ["self", f] ["self", f] scope)
    (v1 : scope.names.lookup ("self" : Str) = some NameKind.local) (v2 : scope.names.lookup f = some NameKind.local) (d1 : (f == ("__debug__" : Str)) = false) (d2 : (f == ("__classdict__" : Str)) = false) (T : OexC K C) (nf : PySem.W.findIn K (.ref C) f = some none) : FnOk P w K mg base CX0 1 fI fd ["self", f] (spIni C f) := by
  refine F.ok S (fun vs H Q E h => ?_) (fun cdv A outer s H vs Q E hr h => ?_)
  · obtain ⟨_, _, rfl, _⟩ := h
    rfl
  · obtain ⟨a, v, rfl, ha, q⟩ := h
    refine ⟨_, PSs.nox (pss_one (ps_ost (pe_var (i := 0) rfl (.inl v1)) (pe_var (i := 1) rfl (.inl v2) d1 d2))), ?_⟩
    exact ⟨_, rfl, _, rfl, a, C, rfl, T, nf, .inl ⟨ha, fun d hd hne => q d hd hne⟩⟩
end
end Pl
end L2
namespace L2
namespace Pl
open PySem PySem.Spec PyProof.Rows
/-- an own error class x, made by place, its field f -/
structure RaF (P : Program) (w : World) (K : PySem.W.Frag) (mg : Str → Option Value) (base : Heap) (x f : Str) (C : Addr) : Prop where
  o : OexC K C
  xf : XfC K C
  nf : PySem.W.findIn K (.ref C) f = some none
  g : mg x = some (.ref C)
  ini : ∃ fI fd, PySem.W.findIn K (.ref C) "__init__" = some (some (.ref fI)) ∧ PySem.W.typeIn K (.ref fI) = some (.type "function") ∧ FnOk P w K mg base CX0 1 fI fd ["self", f] (spIni C f) ∧ L2.Binds K fd ["self", f] []
theorem raised_heap {H : Hp} {a d C : Addr} {f : Str} {v : V} (h : H a = none) (n : d ≠ a) : upd (del (exH (upd H a (exo a C none)) a d C f v) a) d (.xd [(f, v)]) = upd H d (.xd [(f, v)]) := by
  funext b
  by_cases hd : b = d
  · rw [hd, upd_same, upd_same]
  · rw [upd_ne hd, upd_ne hd]
    by_cases ha : b = a
    · rw [ha, del_same, h]
    · rw [del_ne ha]
      unfold exH
      simp only [upd, ha, hd, if_false]
end Pl
end L2
set_option Elab.async false
set_option linter.all false
set_option maxRecDepth 100000
set_option maxHeartbeats 1000000
namespace L2
open PySem PySem.Spec PyProof.Rows
section
variable {X : Cx}
/-- tuple(xs), xs a list: a new tuple of which it is known that it has no dict of its own (so that its methods can be called) -/
def rTupF (K : PySem.W.Frag) : List V → Hp → VK → Prop := fun xs H Q => ∃ p ys, xs = [.ref p] ∧ SqL K H p ys ∧ ∀ (o : Obj) l, o.dict = none → o.cls = .type "tuple" → H l = none → Q (.ref l) (upd H l (.frz o (.tup ys)))
theorem call_tupleF : CallR X (.type "tuple") (rTupF X.K) := by
  intro pins s σ H xs us Q I r q
  obtain ⟨p, ys, rfl, hp, q⟩ := q
  obtain ⟨u, rfl, rx⟩ := vals1 r
  obtain rfl : u = .ref p := rx
  obtain ⟨its, rv, pl, hz⟩ := I.list hp
  refine call_tuple_list pl.isList (fun h' keep => ?_) (by rw [List.size_toArray, ← rv.length]; exact hz)
  have I1 : Inv X pins σ H { s with heap := h' } := I.kept (t' := s.toks) keep
  have new : (h'.push { cls := .type "tuple", data := .seq its.toArray }).get? h'.objs.size = some { cls := .type "tuple", data := .seq its.toArray } := Heap.get?_push_size _ rfl
  refine ⟨.ref h'.objs.size, upd H h'.objs.size (.frz { cls := .type "tuple", data := .seq its.toArray } (.tup ys)), I1.laid (t' := s.toks) (fun b o e => Heap.get?_push_of_some _ e) (Nat.le_refl _) ⟨new, hz, its, rv, _, new, rfl, _, rfl⟩, rfl, q _ _ rfl rfl (I1.hok.fresh (Nat.le_refl _))⟩
/-- t.index(z) of such a tuple of texts, z in it -/
def tTupIdx (to te : TE) : TE := fun σ H Q => to σ H fun x H1 => ∃ a ob ys, x = .ref a ∧ H1 a = some (.frz ob (.tup (List.map V.str ys))) ∧ ob.dict = none ∧ te σ H1 fun y H2 => ∃ z j, y = .str z ∧ H2 a = some (.frz ob (.tup (List.map V.str ys))) ∧ ys[j]? = some z ∧ (∀ m, m < j → ys[m]? ≠ some z) ∧ Q (.int (j : Nat)) H2
theorem pe_tupIdx {o e : Expr} {to te : TE} {apos cpos : Pos} (ho : PE X o to) (he : PE X e te) (hbase : attributeBase o "index" X.env (eval o X.env) = eval o X.env := by rfl)
    (hfew : ((backTo cpos (starEach [e] X.env)).all (fun x => !x.1) && (backToKw cpos (keywordEach [] X.env)).all (fun x => x.1.isSome) && decide (([e] : List Expr).length + ([] : List Keyword).length + (if ([] : List Keyword).isEmpty then 0 else 1) < 30)) = true := by rfl)
    (hline : (apos.endLine == cpos.line) = true := by rfl) (hs : starEach [e] X.env = (false, eval e X.env) :: starEach [] X.env := by rfl) : PE X (.Call (.Attribute o "index" apos) [e] [] cpos) (tTupIdx to te) := by
  refine ⟨fun pins s σ H Q I h => ?_⟩
  refine wpAny_Call_method_late hbase hfew hline rfl (thn (ho.run pins s σ H _ I h) fun v s1 ⟨x, H1, I1, r1, a, ob, ys, ex, ha, hd, q1⟩ => ?_)
  subst ex
  obtain rfl : v = .ref a := r1
  obtain ⟨g1, _, its, _, o2, g2, hc, _⟩ := (show ObjOk X.prog X.w H1 s1.heap a (.frz ob (.tup (List.map V.str ys))) from I1.hok a _ ha)
  obtain rfl : ob = o2 := Option.some.inj (g1.symm.trans g2)
  refine ⟨"tuple", "tuple.index", PySem.F.plainAttrs_tuple, PySem.F.slot_tuple_index, PySem.F.type_tuple_index, ⟨ob, g1, hc⟩, fun b e => by cases e; exact ⟨ob, g1, hd⟩, ?_⟩
  have hA := (pa_cons he pa_nil (hs := hs)).run cpos pins s1 σ H1 (fun vs H2 => match vs with
    | [y] => ∃ z j, y = .str z ∧ H2 a = some (.frz ob (.tup (List.map V.str ys))) ∧ ys[j]? = some z ∧ (∀ m, m < j → ys[m]? ≠ some z) ∧ Q (.int (j : Nat)) H2
    | _ => False) I1 q1
  rw [hs] at hA ⊢
  refine Calls.callWith_builtin rfl (Calls.evalArgs_plain ?_)
  refine thn hA fun us s2 ⟨vs, H2, I2, r2, q2⟩ => ?_
  match vs, q2 with
  | [y], ⟨z, j, ey, h2, hj, first, q2⟩ =>
    subst ey
    exact mt_tup_index pins s2 σ H2 (.ref a) [.str z] (.ref a) us Q I2 rfl r2 ⟨a, ys, z, j, rfl, rfl, .inl (.inr ⟨ob, h2⟩), hj, first, q2⟩
end
end L2
set_option Elab.async false
set_option linter.all false
set_option maxRecDepth 100000
set_option maxHeartbeats 2000000
namespace L2
namespace Pl
open PySem PySem.Spec PyProof.Rows
/-- a comprehension over one walk of the items xs: which are kept, and what each of them gives; M holds of all heaps on the way -/
theorem lc_gen {J : It} {G : Hp → Prop} {xs : List V} (w : Walk J xs.length G (YAt xs)) {g : TG} {tt : TT} {te : TE} {vs : List Nat} {σ : St} {H1 : Hp} {D : Addr} {Qd : Hp → Prop}
    (M : Hp → Prop) (keep : V → Bool) (R : V → V → Prop) (h0 : M (upd H1 D (.lst []))) (hw : ∀ H acc, M H → H D = some (.lst acc) → ∀ y, M (upd H D (.lst (acc ++ [y])))) (hG : ∀ H, M H → G H) (hlen : xs.length ≤ 1000)
    (step : ∀ (x : V) (H' : Hp) (N : Hp → Prop) (Y : VK), x ∈ xs → M H' → (keep x = false → ∀ H3, M H3 → H3 D = H' D → N H3) → (keep x = true → ∀ y H4, M H4 → H4 D = H' D → R x y → Y y H4) →
      g x (wipe σ vs) H' fun σ2 H2 => wipe σ2 vs = wipe σ vs ∧ tt σ2 H2 fun b H3 => if b = true then te σ2 H3 Y else N H3)
    (hd : ∀ H ys, M H → H D = some (.lst ys) → Paired R (xs.filter keep) ys → Qd H) :
    ∃ W : Nat → Nat → Hp → Prop, (∃ m, W 0 m (upd H1 D (.lst []))) ∧ ∀ i m H, W i m H →
      (J.stop i H ∧ Qd H) ∨ (J.go i H ∧ ∃ Nx : Hp → Prop, (∀ H', Nx H' → ∃ m', m' < m ∧ W (i + 1) m' H') ∧ ∀ x H', J.yld i H x H' → g x (wipe σ vs) H' fun σ2 H2 => wipe σ2 vs = wipe σ vs ∧ tt σ2 H2 fun b H3 =>
        if b = true then te σ2 H3 fun y H4 => ∃ acc, H4 D = some (.lst acc) ∧ acc.length < sizeLine ∧ Nx (upd H4 D (.lst (acc ++ [y]))) else Nx H3) := by
  refine lc_it w (fun i H => M H ∧ ∃ ys, H D = some (.lst ys) ∧ Paired R ((xs.take i).filter keep) ys) ⟨h0, [], upd_same, by rw [List.take_zero]; exact .nil⟩ (fun i H _ p => hG H p.1) ?_ ?_
  · rintro i x H H' hi ⟨hm, ys, hy, hp⟩ ⟨rfl, hx⟩
    have hin := List.mem_of_getElem? hx
    have ht : xs.take (i + 1) = xs.take i ++ [x] := by
      rw [List.take_succ, hx]
      rfl
    have hle : ys.length ≤ 1000 := by
      rw [← hp.length]
      have := List.length_filter_le keep (xs.take i)
      rw [List.length_take] at this
      omega
    refine step x H' _ _ hin hm (fun hk H3 m3 e3 => ⟨m3, ys, e3.trans hy, ?_⟩) (fun hk y H4 m4 e4 r => ⟨ys, e4.trans hy, by rw [sizeLine_eq]; omega, hw _ _ m4 (e4.trans hy) y, ys ++ [y], upd_same, ?_⟩)
    · rw [ht, List.filter_append, List.filter_cons_of_neg (by rw [hk]; decide), List.filter_nil, List.append_nil]
      exact hp
    · rw [ht, List.filter_append, List.filter_cons_of_pos hk, List.filter_nil]
      exact hp.snoc r
  · rintro H ⟨hm, ys, hy, hp⟩
    rw [List.take_of_length_le (Nat.le_refl _)] at hp
    exact hd H ys hm hy hp
theorem paired_eq {α β : Type} {f : α → β} : ∀ {xs : List α} {ys : List β}, Paired (fun x y => y = f x) xs ys → ys = xs.map f
  | _, _, .nil => rfl
  | _, _, .cons h t => by rw [List.map_cons, h, paired_eq t]
theorem filt_all {α : Type} {xs : List α} : xs.filter (fun _ => true) = xs := List.filter_eq_self.mpr fun _ _ => rfl
theorem paired_strs {P : V → Str → Prop} : ∀ {xs ys : List V}, Paired (fun x y => ∃ z : Str, y = .str z ∧ P x z) xs ys → ∃ zs : List Str, ys = zs.map V.str ∧ Paired P xs zs
  | _, _, .nil => ⟨[], rfl, .nil⟩
  | _, _, .cons ⟨z, e, p⟩ t => by
    obtain ⟨zs, e2, p2⟩ := paired_strs t
    exact ⟨z :: zs, by rw [e, e2]; rfl, .cons p p2⟩
theorem paired_all {α β : Type} {P : α → β → Prop} {S : β → Prop} (h : ∀ a b, P a b → S b) : ∀ {xs : List α} {zs : List β}, Paired P xs zs → ∀ z ∈ zs, S z
  | _, _, .nil, z, hz => by cases hz
  | _, _, .cons p t, z, hz => by
    rcases List.mem_cons.mp hz with rfl | hz
    · exact h _ _ p
    · exact paired_all h t z hz
/-! ### a drawn store: names, deeds with their leads, looks -/
structure Bd where
  names : List Str
  deeds : List (Str × List Str)
  looks : List Str
structure Bd.Ok (b : Bd) : Prop where
  n1 : 1 ≤ b.names.length
  n5 : b.names.length ≤ 5
  nd : b.names.Nodup
  nn : ∀ x ∈ b.names, IsName x
  d1 : 1 ≤ b.deeds.length
  d4 : b.deeds.length ≤ 4
  dd : (b.deeds.map (·.1)).Nodup
  dn : ∀ x ∈ b.deeds, IsName x.1
  dl : ∀ x ∈ b.deeds, x.2.length = b.names.length
  di : ∀ x ∈ b.deeds, ∀ y ∈ x.2, y ∈ b.names
  ll : b.looks.length = b.names.length
  ln : ∀ x ∈ b.looks, IsName x
abbrev sV (ws : List Str) : List V := ws.map V.str
def PairAt (K : PySem.W.Frag) (H : Hp) (v : V) (p : Str × List Str) : Prop := ∃ t l, v = .ref t ∧ SqT K H t [.str p.1, .ref l] ∧ SqT K H l (sV p.2)
def BdAt (K : PySem.W.Frag) (H : Hp) (a : Addr) (b : Bd) : Prop := ∃ n d l ps, SqT K H a [.ref n, .ref d, .ref l] ∧ (∃ o : Obj, H n = some (.frz o (.tup (sV b.names))) ∧ o.dict = none) ∧ SqT K H d ps ∧ Paired (PairAt K H) ps b.deeds ∧ SqT K H l (sV b.looks)
theorem seqT_same {K : PySem.W.Frag} {H H' : Hp} {l : Addr} {xs : List V} (h : SqT K H l xs) (e : Same H H') : SqT K H' l xs := by
  rcases h with (h | ⟨o, h⟩) | h
  · exact .inl (.inl (e _ _ h))
  · exact .inl (.inr ⟨o, e _ _ h⟩)
  · exact .inr h
theorem PairAt.same {K : PySem.W.Frag} {H H' : Hp} {v : V} {p : Str × List Str} (h : PairAt K H v p) (e : Same H H') : PairAt K H' v p :=
  let ⟨t, l, z, a, b⟩ := h
  ⟨t, l, z, seqT_same a e, seqT_same b e⟩
theorem BdAt.same {K : PySem.W.Frag} {H H' : Hp} {a : Addr} {b : Bd} (h : BdAt K H a b) (e : Same H H') : BdAt K H' a b :=
  let ⟨n, d, l, ps, h1, h2, h3, h4, h5⟩ := h
  ⟨n, d, l, ps, seqT_same h1 e, (let ⟨o, q, r⟩ := h2; ⟨o, e _ _ q, r⟩), seqT_same h3 e, h4.mono fun _ _ q => q.same e, seqT_same h5 e⟩
def spBase (K : PySem.W.Frag) : Sp := fun vs H Q _ => ∃ (s : Addr) (most : Nat), vs = [.ref s, .int (most : Int)] ∧ Src H s ∧ 1 ≤ most ∧ most ≤ 5 ∧ ∀ p H' b, Mv s H H' → b.Ok → b.names.length ≤ most → BdAt K (del H' s) p b → Q (.ref p) H'
theorem del_mono {H H' : Hp} {p : Addr} (h : Same H H') : Same (del H p) (del H' p) := fun b o z => by
  obtain ⟨n, z⟩ := del_some z
  exact del_of n (h _ _ z)
theorem del_upd {H : Hp} {a p : Addr} {o : HO} : Same (del (del H a) p) (del (del (upd H p o) a) p) := fun b x z => by
  obtain ⟨n, z⟩ := del_some z
  obtain ⟨n2, z⟩ := del_some z
  exact del_of n (del_of n2 ((upd_ne n).trans z))
/-- the same while the source is drawn from -/
theorem lc_mv {J : It} {G : Hp → Prop} {xs : List V} (w : Walk J xs.length G (YAt xs)) {g : TG} {tt : TT} {te : TE} {vs : List Nat} {σ : St} {H1 : Hp} {D s : Addr} {Qd : Hp → Prop}
    (keep : V → Bool) (R : V → V → Prop) (hS : Src H1 s) (hD : H1 D = none) (hG : ∀ H, Mv s H1 H → G H) (hlen : xs.length ≤ 1000)
    (step : ∀ (x : V) (H' : Hp) (N : Hp → Prop) (Y : VK), x ∈ xs → Mv s H1 H' → (∃ o, H' D = some o) → (keep x = false → ∀ H3, Mv s H1 H3 → H3 D = H' D → N H3) → (keep x = true → ∀ y H4, Mv s H1 H4 → H4 D = H' D → R x y → Y y H4) →
      g x (wipe σ vs) H' fun σ2 H2 => wipe σ2 vs = wipe σ vs ∧ tt σ2 H2 fun b H3 => if b = true then te σ2 H3 Y else N H3)
    (hd : ∀ H ys, Mv s H1 H → H D = some (.lst ys) → Paired R (xs.filter keep) ys → Qd H) :
    ∃ W : Nat → Nat → Hp → Prop, (∃ m, W 0 m (upd H1 D (.lst []))) ∧ ∀ i m H, W i m H →
      (J.stop i H ∧ Qd H) ∨ (J.go i H ∧ ∃ Nx : Hp → Prop, (∀ H', Nx H' → ∃ m', m' < m ∧ W (i + 1) m' H') ∧ ∀ x H', J.yld i H x H' → g x (wipe σ vs) H' fun σ2 H2 => wipe σ2 vs = wipe σ vs ∧ tt σ2 H2 fun b H3 =>
        if b = true then te σ2 H3 fun y H4 => ∃ acc, H4 D = some (.lst acc) ∧ acc.length < sizeLine ∧ Nx (upd H4 D (.lst (acc ++ [y]))) else Nx H3) :=
  lc_gen w (fun H => Mv s H1 H ∧ ∃ o, H D = some o) keep R ⟨.new hS hD, _, upd_same⟩ (fun H acc p _ y => ⟨p.1.write hD (hS.ne hD), _, upd_same⟩) (fun H p => hG H p.1) hlen
    (fun x H' N Y hx p kn ky => step x H' N Y hx p.1 p.2 (fun e H3 m3 e3 => kn e H3 ⟨m3, p.2.elim fun o q => ⟨o, e3.trans q⟩⟩ e3) (fun e y H4 m4 e4 r => ky e y H4 ⟨m4, p.2.elim fun o q => ⟨o, e4.trans q⟩⟩ e4 r))
    (fun H ys p => hd H ys p.1)
theorem SqT.up {K : PySem.W.Frag} {H : Hp} {l : Addr} {xs : List V} (h : H l = some (.tup xs)) : SqT K H l xs := .inl (.inl h)
abbrev six : List Str := ["x", "y", "dark", "day", "xx", "xxx"]
theorem looks_three : ∀ x ∈ (["x", "y", "dark"] : List Str), IsName x := by
  have h : (["x", "y", "dark"] : List Str).all isNameB = true := by decide +kernel
  exact fun w hw => isName_of (List.all_eq_true.mp h w hw)
theorem looks_names : ∀ x ∈ (["x", "y", "dark", "day", "xx", "xxx"] : List Str), IsName x := by
  have h : (["x", "y", "dark", "day", "xx", "xxx"] : List Str).all isNameB = true := by decide +kernel
  exact fun w hw => isName_of (List.all_eq_true.mp h w hw)
end Pl
end L2
set_option Elab.async false
set_option linter.all false
set_option maxRecDepth 100000
set_option maxHeartbeats 2000000
namespace Bs
open PySem PySem.Spec PyProof.Rows L2 L2.Pl
section
variable {P : Program} {w : World} {K : PySem.W.Frag} {mg : Str → Option Value} {base : Heap} {f : Addr} {fd : FuncData}
abbrev NBs : List Str := ["source", "most", "many", "names", "deeds", "name", "some", "looks", "at"]
theorem scBase : FnScope NBs ["source", "most"] (defScope sBase) := ⟨rfl, rfl, rfl, by decide +kernel, rfl, by decide +kernel, by decide +kernel⟩
theorem ok_base (G : Gn mg) (F : FnP K "_law_base" sBase f fd) (hD : Has P w K mg base CX0 "_law_draw" 1 ["source", "span"] spDraw) (hP : Has P w K mg base CX0 "_law_pick" 2 ["source", "things"] (spPick K)) (hM : Has P w K mg base CX0 "_law_mixed" 2 ["source", "things"] (spMixed K))
    (hN : Has P w K mg base CX0 "_law_names" 4 ["source", "many"] spNames) (hL : Has P w K mg base CX0 "_law_leads" 3 ["source", "many"] spLeads) : FnOk P w K mg base CX0 5 f fd ["source", "most"] (spBase K) := by
  obtain ⟨fD, dD, oD, bD, gD, kD⟩ := hD.ex
  obtain ⟨fP, dP, oP, bP, gP, kP⟩ := hP.ex
  obtain ⟨fM, dM, oM, bM, gM, kM⟩ := hM.ex
  obtain ⟨fN, dN, oN, bN, gN, kN⟩ := hN.ex
  obtain ⟨fL, dL, oL, bL, gL, kL⟩ := hL.ex
  refine F.ok scBase (fun vs H Q E h => ?_) (fun cdv A outer s H vs Q E hr h => ?_)
  · obtain ⟨_, _, rfl, _⟩ := h
    rfl
  · obtain ⟨a, most, rfl, hS, h1, h5, q⟩ := h
    have hr1 := hr.mono (j := 1) (by decide)
    have hr2 := hr.mono (j := 2) (by decide)
    have hr3 := hr.mono (j := 3) (by decide)
    refine ⟨_, PSs.nox (pss_cons (ps_set (i := 2) scBase.nd rfl (.inl rfl) (pe_op op_add pe_int (pe_call oD hr1 (by rfl) gD kD bD .nil pass0 (pa_cons (pv 0) (pa_cons (pv 1) pa_nil)))))
      (pss_cons (ps_asg (pe_tup (pa_cons (pe_call oN hr (by rfl) gN kN bN .nil pass0 (pa_cons (pv 0) (pa_cons (pv 2) pa_nil))) (pa_cons (pe_lst pa_nil) pa_nil))) (pg_tup rfl (pgs_cons (pg_name (i := 3) scBase.nd rfl (.inr rfl)) (pgs_cons (pg_name (i := 4) scBase.nd rfl (.inl rfl)) pgs_nil))))
      (pss_cons (ps_for PassesOwn.never rfl (pi_list (pe_call oN hr (by rfl) gN kN bN .nil pass0 (pa_cons (pv 0) (pa_cons (pe_op op_add pe_int (pe_call oD hr1 (by rfl) gD kD bD .nil pass0 (pa_cons (pv 0) (pa_cons pe_int pa_nil)))) pa_nil)))) (pg_name (i := 5) scBase.nd rfl (.inl rfl))
        (pss_one (ps_expr (pe_bm PySem.F.plainAttrs_list PySem.F.slot_list_append PySem.F.type_list_append mt_append (pv 4) (pa_cons (pe_tup (pa_cons (pv 5) (pa_cons (pe_callTy call_tuple_of (by rfl) G.tuple bTuple
          (pa_cons (pe_lc (own := [("at", 8)]) (g := gName 8) (tt := tYes) (te := tOp (rIxL K) (tVar 3) (tVar 8)) rfl scBase.nd (pi_list (pe_call oL hr3 (by rfl) gL kL bL .nil pass0 (pa_cons (pv 0) (pa_cons (pv 2) pa_nil)))) (blkOk_by (N := NBs) (sc := defScope sBase) (by decide +kernel)) (fun _ _ _ _ _ => pg_name (i := 8) scBase.nd rfl (.inl rfl)) (fun _ _ _ _ _ => pts_nil) (fun _ _ _ _ _ => pe_ix ix_list (pv 3) (pv 8) (fun _ _ => rfl))) pa_nil)) pa_nil))) pa_nil)))))
      (pss_cons (ps_set (i := 6) scBase.nd rfl (.inr rfl) (pe_lst (pa_cons pe_str (pa_cons pe_str (pa_cons pe_str (pa_cons pe_str (pa_cons pe_str (pa_cons pe_str pa_nil))))))))
      (pss_cons (ps_setLc (i := 7) (own := [("name", 5)]) (g := gName 5) (tt := tYes) (te := tCall (spPick K) [] E0 (tCons (tVar 0) (tCons (tSl (rSlL K) (tVar 6) tNoPart (tPart (tC (.int 3)))) tNil))) rfl scBase.nd rfl rfl (sw_true rfl rfl rfl (by decide +kernel)) (pi_list (pv 3)) (blkOk_by (N := NBs) (sc := defScope sBase) (by decide +kernel)) (fun _ _ _ _ _ => pg_name (i := 5) scBase.nd rfl (.inl rfl)) (fun _ _ _ _ _ => pts_nil)
          (fun _ _ _ _ _ => pe_call oP hr2 (by rfl) gP kP bP .nil pass0 (pa_cons (pv 0) (pa_cons (pe_slice sl_list (pv 6) po_none (po_some pe_int)) pa_nil))))
      (pss_cons (ps_if (pt_cmpR op_eq (pe_call oD hr1 (by rfl) gD kD bD .nil pass0 (pa_cons (pv 0) (pa_cons pe_int pa_nil))) pe_int (nomark _))
          (pss_one (ps_set (i := 7) scBase.nd rfl (.inl rfl) (pe_slice sl_list (pe_call oM hr2 (by rfl) gM kM bM .nil pass0 (pa_cons (pv 0) (pa_cons (pv 6) pa_nil))) po_none (po_some (pv 2))))) pss_nil)
      (pss_one (ps_ret (pe_tup (pa_cons (pe_callTy call_tupleF (by rfl) G.tuple bTuple (pa_cons (pv 3) pa_nil)) (pa_cons (pe_callTy call_tuple_of (by rfl) G.tuple bTuple (pa_cons (pv 4) pa_nil)) (pa_cons (pe_callTy call_tuple_of (by rfl) G.tuple bTuple (pa_cons (pv 7) pa_nil)) pa_nil)))))))))))), ?_⟩
    refine ⟨_, rfl, _, rfl, a, (most : Int), rfl, hS, by omega, by omega, fun H1 k1 m1 _ ka kb => ?_⟩
    obtain ⟨k, rfl⟩ : ∃ k : Nat, k1 = (k : Int) := ⟨k1.toNat, by omega⟩
    refine ⟨1, _, rfl, rfl, ?_⟩
    refine ⟨_, rfl, _, rfl, a, 1 + k, rfl, m1.src, by omega, by omega, fun pn H2 ws m2 nn hn wl wd wi => ⟨Nat.zero_le _, fun pd hd => ⟨by show 2 ≤ sizeLine; decide, fun t ht => ?_⟩⟩⟩
    refine ⟨t, _, rfl, .inl (.inl upd_same), rfl, _, [.ref pd], rfl, _, [], rfl, rfl, ?_⟩
    have nnd : pn ≠ pd := ne_of_none hn hd
    have m2d := m2.trans (.new (o := .lst []) m2.src hd)
    have m3 := m2d.trans (.new (o := .tup [.ref pn, .ref pd]) m2d.src ht)
    have M3 := m1.trans m3
    have nna : pn ≠ a := m1.src.ne nn
    have nda : pd ≠ a := m2.src.ne hd
    have n0 : H pn = none := m1.free hS nn
    have d0 : H pd = none := (m1.trans m2).free hS hd
    have nt : pd ≠ t := Ne.symm (ne_new ht)
    have hn3 := ((Mv.new (o := .lst []) m2.src hd).trans (.new (o := .tup [.ref pn, .ref pd]) m2d.src ht)).get nna hn
    have hd3 : (upd (upd H2 pd (.lst [])) t (.tup [.ref pn, .ref pd])) pd = some (.lst []) := (upd_ne nt).trans upd_same
    generalize eH3 : upd (upd H2 pd (.lst [])) t (.tup [.ref pn, .ref pd]) = H3 at *
    -- for name in names
    refine ⟨_, rfl, _, rfl, a, 4, rfl, M3.src, by decide, by decide, fun H4 k2 m4 _ kc kd => ?_⟩
    obtain ⟨k4, rfl⟩ : ∃ k : Nat, k2 = (k : Int) := ⟨k2.toNat, by omega⟩
    refine ⟨1, _, rfl, rfl, a, 1 + k4, rfl, m4.src, by omega, by omega, fun pw H5 wds m5 nw hw wl2 wd2 wi2 => ⟨pw, rfl, ⟨_, SqL.of hw⟩, ?_⟩⟩
    have M5 := M3.trans (m4.trans m5)
    have hn5 := (m4.trans m5).get nna hn3
    have hd5 := (m4.trans m5).get nda hd3
    have nwa : pw ≠ a := m4.src.ne nw
    have nwd : pw ≠ pd := fun z => by
      rw [z, m4.get nda hd3] at nw
      cases nw
    refine for_list (K := K) (a := pw) (xs := sV wds) (fun i σ H' => ∃ c ps ds, σ = [some (.ref a), some (.int (most : Int)), some (.int (1 + (k : Int))), some (.ref pn), some (.ref pd), c, none, none, none] ∧ Mv a H H' ∧ H' pn = some (.lst (sV ws)) ∧ H' pw = some (.lst (sV wds)) ∧ H' pd = some (.lst ps) ∧ Paired (PairAt K (del (del H' a) pd)) ps ds ∧ ds.map (·.1) = wds.take i ∧ ∀ x ∈ ds, x.2.length = ws.length ∧ ∀ y ∈ x.2, y ∈ ws)
      ⟨none, [], [], rfl, M5, hn5, hw, hd5, .nil, rfl, fun x hx => by cases hx⟩ (fun i σ H' _ ⟨_, _, _, _, _, _, e, _⟩ => SqL.of e) ?_ ?_
    · rintro i x σ H6 hx ⟨c, ps, ds, rfl, m6, hn6, hw6, hd6, pp, pe, pq⟩
      obtain ⟨z, hz, rfl⟩ : ∃ z, wds[i]? = some z ∧ x = .str z := by
        rw [List.getElem?_map] at hx
        cases e : wds[i]? with
        | none =>
          rw [e] at hx
          cases hx
        | some u =>
          rw [e] at hx
          exact ⟨u, rfl, (Option.some.inj hx).symm⟩
      refine ⟨_, rfl, .inl ⟨rfl, _, SqL.of hd6⟩, _, rfl, _, rfl, _, rfl, a, 1 + k, rfl, m6.src, by omega, by omega, fun pl H7 ks m7 nl hl kl kk => ⟨pl, rfl, ⟨_, SqL.of hl⟩, fun D hD => ?_⟩⟩
      have hn7 := m7.get nna hn6
      have hd7 := m7.get nda hd6
      have hw7 := m7.get nwa hw6
      have nla := m6.src.ne nl
      refine lc_mv (s := a) (walk_list (K := K) (a := pl)) (fun _ => true) (fun _ y => ∃ z : Str, y = .str z ∧ z ∈ ws) m7.src hD (fun H h => SqL.of (h.get nla hl)) (by rw [List.length_map, kl]; omega) (fun x H' N Y hx m8 _ _ ky => ?_) (fun H8 ys m8 hy py => ?_)
      · obtain ⟨j, hj, rfl⟩ := List.mem_map.mp hx
        have hj2 := kk j hj
        obtain ⟨u, hu⟩ : ∃ u, ws[j]? = some u := ⟨_, List.getElem?_eq_getElem (by omega)⟩
        refine ⟨rfl, iteT (B := N H') ⟨_, rfl, _, rfl, pn, sV ws, _, .str u, rfl, rfl, SqL.of (m8.get nna hn7), atI_nat (by rw [List.getElem?_map, hu]; rfl), ky rfl _ _ m8 rfl ⟨u, rfl, List.mem_of_getElem? hu⟩⟩⟩
      · rw [filt_all] at py
        obtain ⟨zs, rfl, pz⟩ := paired_strs py
        have zl := pz.length
        rw [List.length_map, kl] at zl
        refine ⟨D, _, rfl, .inl ⟨SqL.of hy, fun l hl8 => ⟨by show 2 ≤ sizeLine; decide, fun t2 ht2 => ?_⟩⟩⟩
        have hd8 := m8.get nda hd7
        have hn8 := m8.get nna hn7
        have hw8 := m8.get nwa hw7
        have e8 := Mv.new (o := .tup (sV zs)) m8.src hl8
        have e9 := Mv.new (o := .tup [.str z, .ref l]) e8.src ht2
        have m9 := m7.trans (m8.trans (e8.trans e9))
        have k9 := e8.trans e9
        have ntl : l ≠ t2 := Ne.symm (ne_new ht2)
        have nta : t2 ≠ a := e8.src.ne ht2
        have nla8 : l ≠ a := m8.src.ne hl8
        have nlp : l ≠ pd := fun e => by
          rw [e, hd8] at hl8
          cases hl8
        have ntp : t2 ≠ pd := fun e => by
          rw [e, e8.get nda hd8] at ht2
          cases ht2
        have psl : ps.length ≤ 4 := by
          have h1 := pp.length
          have h2 := congrArg List.length pe
          rw [List.length_map, List.length_take] at h2
          have h3 : i < wds.length := (List.getElem?_eq_some_iff.mp hz).1
          omega
        refine ⟨pd, ps, _, rfl, rfl, k9.get nda hd8, small1000 (by omega), ?_⟩
        refine ⟨_, ps ++ [.ref t2], ds ++ [(z, zs)], rfl, (m6.trans m9).write d0 nda, (upd_ne nnd).trans (k9.get nna hn8), (upd_ne nwd).trans (k9.get nwa hw8), upd_same, ?_, ?_, ?_⟩
        · refine (pp.mono fun _ _ q => q.same ((del_mono m9.same).trans del_upd)).snoc ⟨t2, l, rfl, SqT.up (del_of ntp (del_of nta ((upd_ne ntp).trans upd_same))), SqT.up (del_of nlp (del_of nla8 ((upd_ne nlp).trans ((upd_ne ntl).trans upd_same))))⟩
        · rw [List.map_append, pe, List.take_succ, hz]
          rfl
        · intro y hy2
          rcases List.mem_append.mp hy2 with hy2 | hy2
          · exact pq y hy2
          · rw [List.mem_singleton.mp hy2]
            exact ⟨by rw [← zl, wl], paired_all (S := fun z => z ∈ ws) (fun _ _ h => h) pz⟩
    · rintro σ H6 ⟨c, ps, ds, rfl, m6, hn6, hw6, hd6, pp, pe, pq⟩
      have dl : ds.length = wds.length := by
        have := congrArg List.length pe
        rwa [List.length_map, List.length_take, List.length_map, Nat.min_self] at this
      have pe' : ds.map (·.1) = wds := by rw [pe, List.length_map, List.take_length]
      have p6 := pp.mono fun _ _ q => q.same del_all
      -- the end, whatever the looks' list
      have fin : ∀ (H7 : Hp) (lo : Addr) (us : List Str), Mv a H6 H7 → H7 lo = some (.lst (sV us)) → us.length = 1 + k → (∀ x ∈ us, IsName x) → ∀ (o1 : Obj) l1, o1.dict = none → H7 l1 = none → ∀ l2, (upd H7 l1 (.frz o1 (.tup (sV ws)))) l2 = none → ∀ l3, (upd (upd H7 l1 (.frz o1 (.tup (sV ws)))) l2 (.tup ps)) l3 = none →
          ∀ r, (upd (upd (upd H7 l1 (.frz o1 (.tup (sV ws)))) l2 (.tup ps)) l3 (.tup (sV us))) r = none → Q (.ref r) (upd (upd (upd (upd H7 l1 (.frz o1 (.tup (sV ws)))) l2 (.tup ps)) l3 (.tup (sV us))) r (.tup [.ref l1, .ref l2, .ref l3])) := by
        intro H7 lo us m7 hl ul ui o1 l1 ho1 h1 l2 h2 l3 h3 r hr
        have e1 := Mv.new (o := .frz o1 (.tup (sV ws))) m7.src h1
        have e2 := Mv.new (o := .tup ps) e1.src h2
        have e3 := Mv.new (o := .tup (sV us)) e2.src h3
        have e4 := Mv.new (o := .tup [.ref l1, .ref l2, .ref l3]) e3.src hr
        have s1 := m7.src.ne h1
        have s2 := e1.src.ne h2
        have s3 := e2.src.ne h3
        have s4 := e3.src.ne hr
        have g1 := (e2.trans (e3.trans e4)).get s1 upd_same
        have g2 := (e3.trans e4).get s2 upd_same
        have g3 := e4.get s3 upd_same
        have mm := m6.trans (m7.trans (e1.trans (e2.trans (e3.trans e4))))
        refine q r _ ⟨ws, ds, us⟩ mm ⟨by rw [wl]; omega, by rw [wl]; omega, wd, wi, by rw [dl, wl2]; omega, by rw [dl, wl2]; omega, by rw [pe']; exact wd2, fun x hx => wi2 _ (by rw [← pe']; exact List.mem_map_of_mem hx), fun x hx => (pq x hx).1, fun x hx => (pq x hx).2, by rw [ul, wl], ui⟩ (by rw [wl]; omega) ?_
        exact ⟨l1, l2, l3, ps, SqT.up (del_of s4 upd_same), ⟨o1, del_of s1 g1, ho1⟩, SqT.up (del_of s2 g2), p6.mono fun _ _ q => q.same (m7.trans (e1.trans (e2.trans (e3.trans e4)))).same, SqT.up (del_of s3 g3)⟩
      refine ⟨by show 6 ≤ sizeLine; decide, fun ls hls => ?_⟩
      have e7 := Mv.new (o := .lst (sV ["x", "y", "dark", "day", "xx", "xxx"])) m6.src hls
      have nls := m6.src.ne hls
      have hn7 := e7.get nna hn6
      have hd7 := e7.get nda hd6
      have hs7 : (upd H6 ls (.lst (sV ["x", "y", "dark", "day", "xx", "xxx"]))) ls = some (.lst (sV ["x", "y", "dark", "day", "xx", "xxx"])) := upd_same
      refine ⟨_, rfl, pn, rfl, ⟨_, SqL.of hn7⟩, fun D hD => ?_⟩
      refine lc_mv (s := a) (walk_list (K := K) (a := pn) (xs := sV ws)) (fun _ => true) (fun _ y => ∃ z : Str, y = .str z ∧ IsName z) e7.src hD (fun H h => SqL.of (h.get nna hn7)) (by rw [List.length_map, wl]; omega) (fun x H' N Y hx m8 iD _ ky => ?_) (fun H8 ys m8 hy py => ?_)
      · obtain ⟨j, hj, rfl⟩ := List.mem_map.mp hx
        refine ⟨rfl, iteT (B := N H') ⟨_, rfl, _, rfl, _, rfl, ls, _, rfl, SqL.of (m8.get nls hs7), fun c hc => ?_⟩⟩
        have e9 := Mv.new (o := .lst (cutV (sV ["x", "y", "dark", "day", "xx", "xxx"]) none (some 3))) m8.src hc
        have nca := m8.src.ne hc
        refine ⟨a, .ref c, sV ["x", "y", "dark"], rfl, e9.src, .inl ⟨c, rfl, SqL.of (del_of nca upd_same)⟩, (fun z => by cases z), by decide, fun H9 x m9 eqs hx9 => ?_⟩
        obtain ⟨z, hz, rfl⟩ := List.mem_map.mp hx9
        obtain ⟨oD, hoD⟩ := iD
        have nDc : D ≠ c := ne_of_none hoD hc
        refine ky rfl _ _ (m8.trans (e9.trans m9)) ?_ ⟨z, rfl, looks_three z hz⟩
        rw [eqs D (e7.src.ne hD), upd_ne nDc]
      · rw [filt_all] at py
        obtain ⟨zs, rfl, pz⟩ := paired_strs py
        have zl := pz.length
        rw [List.length_map, wl] at zl
        have zi := paired_all (S := IsName) (fun _ _ h => h) pz
        have hn8 := m8.get nna hn7
        have hd8 := m8.get nda hd7
        have hs8 := m8.get nls hs7
        have m68 := e7.trans m8
        refine ⟨_, rfl, a, 3, rfl, m8.src, by decide, by decide, fun H9 u m9 _ hu0 hu1 => ⟨rfl, _, rfl, ite2 (fun _ => ?_) (fun _ => ?_)⟩⟩
        · have hs9 := m9.get nls hs8
          refine ⟨_, rfl, _, rfl, a, ls, _, rfl, m9.src, SqL.of (del_of nls hs9), by decide, fun p H10 ys m10 np hp pyy => ⟨_, rfl, _, rfl, p, _, rfl, SqL.of hp, fun c hc => ?_⟩⟩
          obtain ⟨vs, pv, rfl⟩ := perm_map pyy (l := six) rfl
          have vl : vs.length = 6 := pv.length_eq
          have ec := Mv.new (o := .lst (cutV (List.map V.str vs) none (some (1 + (k : Int))))) m10.src hc
          have mc := m68.trans (m9.trans (m10.trans ec))
          have hcut : cutV (List.map V.str vs) none (some (1 + (k : Int))) = sV (vs.take (1 + k)) := by
            have e : (1 + (k : Int)) = ((1 + k : Nat) : Int) := by omega
            rw [e, cut_to _ (by rw [List.length_map, vl]; omega)]; exact List.map_take.symm
          exact ⟨_, rfl, pn, _, rfl, SqL.of (mc.get nna hn6), fun o1 l1 ho1 _ h1 => ⟨_, rfl, pd, _, rfl, .inl ⟨SqL.of ((mc.trans (.new mc.src h1)).get nda hd6), fun l2 h2 => ⟨_, rfl, c, _, rfl, .inl ⟨SqL.of ((((Mv.new mc.src h1).trans (.new (Mv.new mc.src h1).src h2))).get (m10.src.ne hc) (by rw [upd_same, hcut])), fun l3 h3 => ⟨by show 3 ≤ sizeLine; decide, fun r hr => fin _ c _ mc (by rw [upd_same, hcut]) (by rw [List.length_take, vl]; omega) (fun x hx => looks_names x (pv.mem_iff.mp (List.mem_of_mem_take hx))) o1 l1 ho1 h1 l2 h2 l3 h3 r hr⟩⟩⟩⟩⟩⟩
        · have mc := m68.trans m9
          have hy9 := m9.get (e7.src.ne hD) hy
          exact ⟨_, rfl, pn, _, rfl, SqL.of (mc.get nna hn6), fun o1 l1 ho1 _ h1 => ⟨_, rfl, pd, _, rfl, .inl ⟨SqL.of ((mc.trans (.new mc.src h1)).get nda hd6), fun l2 h2 => ⟨_, rfl, D, _, rfl, .inl ⟨SqL.of ((((Mv.new mc.src h1).trans (.new (Mv.new mc.src h1).src h2))).get (e7.src.ne hD) hy9), fun l3 h3 => ⟨by show 3 ≤ sizeLine; decide, fun r hr => fin _ D _ mc hy9 zl.symm zi o1 l1 ho1 h1 l2 h2 l3 h3 r hr⟩⟩⟩⟩⟩⟩
end
end Bs
set_option Elab.async false
set_option linter.all false
set_option maxRecDepth 100000
set_option maxHeartbeats 2000000
namespace L2
namespace Pl
open PySem PySem.Spec PyProof.Rows
/-- as PairAt, the leads a tracked tuple -/
def PairAtT (K : PySem.W.Frag) (H : Hp) (v : V) (p : Str × List Str) : Prop := ∃ t l, v = .ref t ∧ SqT K H t [.str p.1, .ref l] ∧ H l = some (.tup (sV p.2))
def BdAtT (K : PySem.W.Frag) (H : Hp) (a : Addr) (b : Bd) : Prop := ∃ n d l ps, SqT K H a [.ref n, .ref d, .ref l] ∧ (∃ o : Obj, H n = some (.frz o (.tup (sV b.names))) ∧ o.dict = none) ∧ SqT K H d ps ∧ Paired (PairAtT K H) ps b.deeds ∧ SqT K H l (sV b.looks)
theorem PairAtT.plain {K : PySem.W.Frag} {H : Hp} {v : V} {p : Str × List Str} (h : PairAtT K H v p) : PairAt K H v p :=
  let ⟨t, l, z, a, b⟩ := h
  ⟨t, l, z, a, SqT.up b⟩
theorem BdAtT.plain {K : PySem.W.Frag} {H : Hp} {a : Addr} {b : Bd} (h : BdAtT K H a b) : BdAt K H a b :=
  let ⟨n, d, l, ps, h1, h2, h3, h4, h5⟩ := h
  ⟨n, d, l, ps, h1, h2, h3, h4.mono fun _ _ q => q.plain, h5⟩
theorem PairAtT.same {K : PySem.W.Frag} {H H' : Hp} {v : V} {p : Str × List Str} (h : PairAtT K H v p) (e : Same H H') : PairAtT K H' v p :=
  let ⟨t, l, z, a, b⟩ := h
  ⟨t, l, z, seqT_same a e, e _ _ b⟩
theorem BdAtT.same {K : PySem.W.Frag} {H H' : Hp} {a : Addr} {b : Bd} (h : BdAtT K H a b) (e : Same H H') : BdAtT K H' a b :=
  let ⟨n, d, l, ps, h1, h2, h3, h4, h5⟩ := h
  ⟨n, d, l, ps, seqT_same h1 e, (let ⟨o, q, r⟩ := h2; ⟨o, e _ _ q, r⟩), seqT_same h3 e, h4.mono fun _ _ q => q.same e, seqT_same h5 e⟩
def spBaseT (K : PySem.W.Frag) : Sp := fun vs H Q _ => ∃ (s : Addr) (most : Nat), vs = [.ref s, .int (most : Int)] ∧ Src H s ∧ 1 ≤ most ∧ most ≤ 5 ∧ ∀ p H' b, Mv s H H' → b.Ok → b.names.length ≤ most → BdAtT K (L2.del H' s) p b → Q (.ref p) H'
end Pl
end L2
namespace Bs
open PySem PySem.Spec PyProof.Rows L2 L2.Pl
section
variable {P : Program} {w : World} {K : PySem.W.Frag} {mg : Str → Option Value} {base : Heap} {f : Addr} {fd : FuncData}
abbrev NBsT : List Str := ["source", "most", "many", "names", "deeds", "name", "some", "looks", "at"]
theorem scBaseT : FnScope NBsT ["source", "most"] (defScope sBase) := ⟨rfl, rfl, rfl, by decide +kernel, rfl, by decide +kernel, by decide +kernel⟩
theorem ok_baseT (G : Gn mg) (F : FnP K "_law_base" sBase f fd) (hD : Has P w K mg base CX0 "_law_draw" 1 ["source", "span"] spDraw) (hP : Has P w K mg base CX0 "_law_pick" 2 ["source", "things"] (spPick K)) (hM : Has P w K mg base CX0 "_law_mixed" 2 ["source", "things"] (spMixed K))
    (hN : Has P w K mg base CX0 "_law_names" 4 ["source", "many"] spNames) (hL : Has P w K mg base CX0 "_law_leads" 3 ["source", "many"] spLeads) : FnOk P w K mg base CX0 5 f fd ["source", "most"] (spBaseT K) := by
  obtain ⟨fD, dD, oD, bD, gD, kD⟩ := hD.ex
  obtain ⟨fP, dP, oP, bP, gP, kP⟩ := hP.ex
  obtain ⟨fM, dM, oM, bM, gM, kM⟩ := hM.ex
  obtain ⟨fN, dN, oN, bN, gN, kN⟩ := hN.ex
  obtain ⟨fL, dL, oL, bL, gL, kL⟩ := hL.ex
  refine F.ok scBaseT (fun vs H Q E h => ?_) (fun cdv A outer s H vs Q E hr h => ?_)
  · obtain ⟨_, _, rfl, _⟩ := h
    rfl
  · obtain ⟨a, most, rfl, hS, h1, h5, q⟩ := h
    have hr1 := hr.mono (j := 1) (by decide)
    have hr2 := hr.mono (j := 2) (by decide)
    have hr3 := hr.mono (j := 3) (by decide)
    refine ⟨_, PSs.nox (pss_cons (ps_set (i := 2) scBaseT.nd rfl (.inl rfl) (pe_op op_add pe_int (pe_call oD hr1 (by rfl) gD kD bD .nil pass0 (pa_cons (pv 0) (pa_cons (pv 1) pa_nil)))))
      (pss_cons (ps_asg (pe_tup (pa_cons (pe_call oN hr (by rfl) gN kN bN .nil pass0 (pa_cons (pv 0) (pa_cons (pv 2) pa_nil))) (pa_cons (pe_lst pa_nil) pa_nil))) (pg_tup rfl (pgs_cons (pg_name (i := 3) scBaseT.nd rfl (.inr rfl)) (pgs_cons (pg_name (i := 4) scBaseT.nd rfl (.inl rfl)) pgs_nil))))
      (pss_cons (ps_for PassesOwn.never rfl (pi_list (pe_call oN hr (by rfl) gN kN bN .nil pass0 (pa_cons (pv 0) (pa_cons (pe_op op_add pe_int (pe_call oD hr1 (by rfl) gD kD bD .nil pass0 (pa_cons (pv 0) (pa_cons pe_int pa_nil)))) pa_nil)))) (pg_name (i := 5) scBaseT.nd rfl (.inl rfl))
        (pss_one (ps_expr (pe_bm PySem.F.plainAttrs_list PySem.F.slot_list_append PySem.F.type_list_append mt_append (pv 4) (pa_cons (pe_tup (pa_cons (pv 5) (pa_cons (pe_callTy call_tuple_of (by rfl) G.tuple bTuple
          (pa_cons (pe_lc (own := [("at", 8)]) (g := gName 8) (tt := tYes) (te := tOp (rIxL K) (tVar 3) (tVar 8)) rfl scBaseT.nd (pi_list (pe_call oL hr3 (by rfl) gL kL bL .nil pass0 (pa_cons (pv 0) (pa_cons (pv 2) pa_nil)))) (blkOk_by (N := NBsT) (sc := defScope sBase) (by decide +kernel)) (fun _ _ _ _ _ => pg_name (i := 8) scBaseT.nd rfl (.inl rfl)) (fun _ _ _ _ _ => pts_nil) (fun _ _ _ _ _ => pe_ix ix_list (pv 3) (pv 8) (fun _ _ => rfl))) pa_nil)) pa_nil))) pa_nil)))))
      (pss_cons (ps_set (i := 6) scBaseT.nd rfl (.inr rfl) (pe_lst (pa_cons pe_str (pa_cons pe_str (pa_cons pe_str (pa_cons pe_str (pa_cons pe_str (pa_cons pe_str pa_nil))))))))
      (pss_cons (ps_setLc (i := 7) (own := [("name", 5)]) (g := gName 5) (tt := tYes) (te := tCall (spPick K) [] E0 (tCons (tVar 0) (tCons (tSl (rSlL K) (tVar 6) tNoPart (tPart (tC (.int 3)))) tNil))) rfl scBaseT.nd rfl rfl (sw_true rfl rfl rfl (by decide +kernel)) (pi_list (pv 3)) (blkOk_by (N := NBsT) (sc := defScope sBase) (by decide +kernel)) (fun _ _ _ _ _ => pg_name (i := 5) scBaseT.nd rfl (.inl rfl)) (fun _ _ _ _ _ => pts_nil)
          (fun _ _ _ _ _ => pe_call oP hr2 (by rfl) gP kP bP .nil pass0 (pa_cons (pv 0) (pa_cons (pe_slice sl_list (pv 6) po_none (po_some pe_int)) pa_nil))))
      (pss_cons (ps_if (pt_cmpR op_eq (pe_call oD hr1 (by rfl) gD kD bD .nil pass0 (pa_cons (pv 0) (pa_cons pe_int pa_nil))) pe_int (nomark _))
          (pss_one (ps_set (i := 7) scBaseT.nd rfl (.inl rfl) (pe_slice sl_list (pe_call oM hr2 (by rfl) gM kM bM .nil pass0 (pa_cons (pv 0) (pa_cons (pv 6) pa_nil))) po_none (po_some (pv 2))))) pss_nil)
      (pss_one (ps_ret (pe_tup (pa_cons (pe_callTy call_tupleF (by rfl) G.tuple bTuple (pa_cons (pv 3) pa_nil)) (pa_cons (pe_callTy call_tuple_of (by rfl) G.tuple bTuple (pa_cons (pv 4) pa_nil)) (pa_cons (pe_callTy call_tuple_of (by rfl) G.tuple bTuple (pa_cons (pv 7) pa_nil)) pa_nil)))))))))))), ?_⟩
    refine ⟨_, rfl, _, rfl, a, (most : Int), rfl, hS, by omega, by omega, fun H1 k1 m1 _ ka kb => ?_⟩
    obtain ⟨k, rfl⟩ : ∃ k : Nat, k1 = (k : Int) := ⟨k1.toNat, by omega⟩
    refine ⟨1, _, rfl, rfl, ?_⟩
    refine ⟨_, rfl, _, rfl, a, 1 + k, rfl, m1.src, by omega, by omega, fun pn H2 ws m2 nn hn wl wd wi => ⟨Nat.zero_le _, fun pd hd => ⟨by show 2 ≤ sizeLine; decide, fun t ht => ?_⟩⟩⟩
    refine ⟨t, _, rfl, .inl (.inl upd_same), rfl, _, [.ref pd], rfl, _, [], rfl, rfl, ?_⟩
    have nnd : pn ≠ pd := ne_of_none hn hd
    have m2d := m2.trans (.new (o := .lst []) m2.src hd)
    have m3 := m2d.trans (.new (o := .tup [.ref pn, .ref pd]) m2d.src ht)
    have M3 := m1.trans m3
    have nna : pn ≠ a := m1.src.ne nn
    have nda : pd ≠ a := m2.src.ne hd
    have n0 : H pn = none := m1.free hS nn
    have d0 : H pd = none := (m1.trans m2).free hS hd
    have nt : pd ≠ t := Ne.symm (ne_new ht)
    have hn3 := ((Mv.new (o := .lst []) m2.src hd).trans (.new (o := .tup [.ref pn, .ref pd]) m2d.src ht)).get nna hn
    have hd3 : (upd (upd H2 pd (.lst [])) t (.tup [.ref pn, .ref pd])) pd = some (.lst []) := (upd_ne nt).trans upd_same
    generalize eH3 : upd (upd H2 pd (.lst [])) t (.tup [.ref pn, .ref pd]) = H3 at *
    -- for name in names
    refine ⟨_, rfl, _, rfl, a, 4, rfl, M3.src, by decide, by decide, fun H4 k2 m4 _ kc kd => ?_⟩
    obtain ⟨k4, rfl⟩ : ∃ k : Nat, k2 = (k : Int) := ⟨k2.toNat, by omega⟩
    refine ⟨1, _, rfl, rfl, a, 1 + k4, rfl, m4.src, by omega, by omega, fun pw H5 wds m5 nw hw wl2 wd2 wi2 => ⟨pw, rfl, ⟨_, SqL.of hw⟩, ?_⟩⟩
    have M5 := M3.trans (m4.trans m5)
    have hn5 := (m4.trans m5).get nna hn3
    have hd5 := (m4.trans m5).get nda hd3
    have nwa : pw ≠ a := m4.src.ne nw
    have nwd : pw ≠ pd := fun z => by
      rw [z, m4.get nda hd3] at nw
      cases nw
    refine for_list (K := K) (a := pw) (xs := sV wds) (fun i σ H' => ∃ c ps ds, σ = [some (.ref a), some (.int (most : Int)), some (.int (1 + (k : Int))), some (.ref pn), some (.ref pd), c, none, none, none] ∧ Mv a H H' ∧ H' pn = some (.lst (sV ws)) ∧ H' pw = some (.lst (sV wds)) ∧ H' pd = some (.lst ps) ∧ Paired (PairAtT K (del (del H' a) pd)) ps ds ∧ ds.map (·.1) = wds.take i ∧ ∀ x ∈ ds, x.2.length = ws.length ∧ ∀ y ∈ x.2, y ∈ ws)
      ⟨none, [], [], rfl, M5, hn5, hw, hd5, .nil, rfl, fun x hx => by cases hx⟩ (fun i σ H' _ ⟨_, _, _, _, _, _, e, _⟩ => SqL.of e) ?_ ?_
    · rintro i x σ H6 hx ⟨c, ps, ds, rfl, m6, hn6, hw6, hd6, pp, pe, pq⟩
      obtain ⟨z, hz, rfl⟩ : ∃ z, wds[i]? = some z ∧ x = .str z := by
        rw [List.getElem?_map] at hx
        cases e : wds[i]? with
        | none =>
          rw [e] at hx
          cases hx
        | some u =>
          rw [e] at hx
          exact ⟨u, rfl, (Option.some.inj hx).symm⟩
      refine ⟨_, rfl, .inl ⟨rfl, _, SqL.of hd6⟩, _, rfl, _, rfl, _, rfl, a, 1 + k, rfl, m6.src, by omega, by omega, fun pl H7 ks m7 nl hl kl kk => ⟨pl, rfl, ⟨_, SqL.of hl⟩, fun D hD => ?_⟩⟩
      have hn7 := m7.get nna hn6
      have hd7 := m7.get nda hd6
      have hw7 := m7.get nwa hw6
      have nla := m6.src.ne nl
      refine lc_mv (s := a) (walk_list (K := K) (a := pl)) (fun _ => true) (fun _ y => ∃ z : Str, y = .str z ∧ z ∈ ws) m7.src hD (fun H h => SqL.of (h.get nla hl)) (by rw [List.length_map, kl]; omega) (fun x H' N Y hx m8 _ _ ky => ?_) (fun H8 ys m8 hy py => ?_)
      · obtain ⟨j, hj, rfl⟩ := List.mem_map.mp hx
        have hj2 := kk j hj
        obtain ⟨u, hu⟩ : ∃ u, ws[j]? = some u := ⟨_, List.getElem?_eq_getElem (by omega)⟩
        refine ⟨rfl, iteT (B := N H') ⟨_, rfl, _, rfl, pn, sV ws, _, .str u, rfl, rfl, SqL.of (m8.get nna hn7), atI_nat (by rw [List.getElem?_map, hu]; rfl), ky rfl _ _ m8 rfl ⟨u, rfl, List.mem_of_getElem? hu⟩⟩⟩
      · rw [filt_all] at py
        obtain ⟨zs, rfl, pz⟩ := paired_strs py
        have zl := pz.length
        rw [List.length_map, kl] at zl
        refine ⟨D, _, rfl, .inl ⟨SqL.of hy, fun l hl8 => ⟨by show 2 ≤ sizeLine; decide, fun t2 ht2 => ?_⟩⟩⟩
        have hd8 := m8.get nda hd7
        have hn8 := m8.get nna hn7
        have hw8 := m8.get nwa hw7
        have e8 := Mv.new (o := .tup (sV zs)) m8.src hl8
        have e9 := Mv.new (o := .tup [.str z, .ref l]) e8.src ht2
        have m9 := m7.trans (m8.trans (e8.trans e9))
        have k9 := e8.trans e9
        have ntl : l ≠ t2 := Ne.symm (ne_new ht2)
        have nta : t2 ≠ a := e8.src.ne ht2
        have nla8 : l ≠ a := m8.src.ne hl8
        have nlp : l ≠ pd := fun e => by
          rw [e, hd8] at hl8
          cases hl8
        have ntp : t2 ≠ pd := fun e => by
          rw [e, e8.get nda hd8] at ht2
          cases ht2
        have psl : ps.length ≤ 4 := by
          have h1 := pp.length
          have h2 := congrArg List.length pe
          rw [List.length_map, List.length_take] at h2
          have h3 : i < wds.length := (List.getElem?_eq_some_iff.mp hz).1
          omega
        refine ⟨pd, ps, _, rfl, rfl, k9.get nda hd8, small1000 (by omega), ?_⟩
        refine ⟨_, ps ++ [.ref t2], ds ++ [(z, zs)], rfl, (m6.trans m9).write d0 nda, (upd_ne nnd).trans (k9.get nna hn8), (upd_ne nwd).trans (k9.get nwa hw8), upd_same, ?_, ?_, ?_⟩
        · refine (pp.mono fun _ _ q => q.same ((del_mono m9.same).trans del_upd)).snoc ⟨t2, l, rfl, SqT.up (del_of ntp (del_of nta ((upd_ne ntp).trans upd_same))), del_of nlp (del_of nla8 ((upd_ne nlp).trans ((upd_ne ntl).trans upd_same)))⟩
        · rw [List.map_append, pe, List.take_succ, hz]
          rfl
        · intro y hy2
          rcases List.mem_append.mp hy2 with hy2 | hy2
          · exact pq y hy2
          · rw [List.mem_singleton.mp hy2]
            exact ⟨by rw [← zl, wl], paired_all (S := fun z => z ∈ ws) (fun _ _ h => h) pz⟩
    · rintro σ H6 ⟨c, ps, ds, rfl, m6, hn6, hw6, hd6, pp, pe, pq⟩
      have dl : ds.length = wds.length := by
        have := congrArg List.length pe
        rwa [List.length_map, List.length_take, List.length_map, Nat.min_self] at this
      have pe' : ds.map (·.1) = wds := by rw [pe, List.length_map, List.take_length]
      have p6 := pp.mono fun _ _ q => q.same del_all
      -- the end, whatever the looks' list
      have fin : ∀ (H7 : Hp) (lo : Addr) (us : List Str), Mv a H6 H7 → H7 lo = some (.lst (sV us)) → us.length = 1 + k → (∀ x ∈ us, IsName x) → ∀ (o1 : Obj) l1, o1.dict = none → H7 l1 = none → ∀ l2, (upd H7 l1 (.frz o1 (.tup (sV ws)))) l2 = none → ∀ l3, (upd (upd H7 l1 (.frz o1 (.tup (sV ws)))) l2 (.tup ps)) l3 = none →
          ∀ r, (upd (upd (upd H7 l1 (.frz o1 (.tup (sV ws)))) l2 (.tup ps)) l3 (.tup (sV us))) r = none → Q (.ref r) (upd (upd (upd (upd H7 l1 (.frz o1 (.tup (sV ws)))) l2 (.tup ps)) l3 (.tup (sV us))) r (.tup [.ref l1, .ref l2, .ref l3])) := by
        intro H7 lo us m7 hl ul ui o1 l1 ho1 h1 l2 h2 l3 h3 r hr
        have e1 := Mv.new (o := .frz o1 (.tup (sV ws))) m7.src h1
        have e2 := Mv.new (o := .tup ps) e1.src h2
        have e3 := Mv.new (o := .tup (sV us)) e2.src h3
        have e4 := Mv.new (o := .tup [.ref l1, .ref l2, .ref l3]) e3.src hr
        have s1 := m7.src.ne h1
        have s2 := e1.src.ne h2
        have s3 := e2.src.ne h3
        have s4 := e3.src.ne hr
        have g1 := (e2.trans (e3.trans e4)).get s1 upd_same
        have g2 := (e3.trans e4).get s2 upd_same
        have g3 := e4.get s3 upd_same
        have mm := m6.trans (m7.trans (e1.trans (e2.trans (e3.trans e4))))
        refine q r _ ⟨ws, ds, us⟩ mm ⟨by rw [wl]; omega, by rw [wl]; omega, wd, wi, by rw [dl, wl2]; omega, by rw [dl, wl2]; omega, by rw [pe']; exact wd2, fun x hx => wi2 _ (by rw [← pe']; exact List.mem_map_of_mem hx), fun x hx => (pq x hx).1, fun x hx => (pq x hx).2, by rw [ul, wl], ui⟩ (by rw [wl]; omega) ?_
        exact ⟨l1, l2, l3, ps, SqT.up (del_of s4 upd_same), ⟨o1, del_of s1 g1, ho1⟩, SqT.up (del_of s2 g2), p6.mono fun _ _ q => q.same (m7.trans (e1.trans (e2.trans (e3.trans e4)))).same, SqT.up (del_of s3 g3)⟩
      refine ⟨by show 6 ≤ sizeLine; decide, fun ls hls => ?_⟩
      have e7 := Mv.new (o := .lst (sV ["x", "y", "dark", "day", "xx", "xxx"])) m6.src hls
      have nls := m6.src.ne hls
      have hn7 := e7.get nna hn6
      have hd7 := e7.get nda hd6
      have hs7 : (upd H6 ls (.lst (sV ["x", "y", "dark", "day", "xx", "xxx"]))) ls = some (.lst (sV ["x", "y", "dark", "day", "xx", "xxx"])) := upd_same
      refine ⟨_, rfl, pn, rfl, ⟨_, SqL.of hn7⟩, fun D hD => ?_⟩
      refine lc_mv (s := a) (walk_list (K := K) (a := pn) (xs := sV ws)) (fun _ => true) (fun _ y => ∃ z : Str, y = .str z ∧ IsName z) e7.src hD (fun H h => SqL.of (h.get nna hn7)) (by rw [List.length_map, wl]; omega) (fun x H' N Y hx m8 iD _ ky => ?_) (fun H8 ys m8 hy py => ?_)
      · obtain ⟨j, hj, rfl⟩ := List.mem_map.mp hx
        refine ⟨rfl, iteT (B := N H') ⟨_, rfl, _, rfl, _, rfl, ls, _, rfl, SqL.of (m8.get nls hs7), fun c hc => ?_⟩⟩
        have e9 := Mv.new (o := .lst (cutV (sV ["x", "y", "dark", "day", "xx", "xxx"]) none (some 3))) m8.src hc
        have nca := m8.src.ne hc
        refine ⟨a, .ref c, sV ["x", "y", "dark"], rfl, e9.src, .inl ⟨c, rfl, SqL.of (del_of nca upd_same)⟩, (fun z => by cases z), by decide, fun H9 x m9 eqs hx9 => ?_⟩
        obtain ⟨z, hz, rfl⟩ := List.mem_map.mp hx9
        obtain ⟨oD, hoD⟩ := iD
        have nDc : D ≠ c := ne_of_none hoD hc
        refine ky rfl _ _ (m8.trans (e9.trans m9)) ?_ ⟨z, rfl, looks_three z hz⟩
        rw [eqs D (e7.src.ne hD), upd_ne nDc]
      · rw [filt_all] at py
        obtain ⟨zs, rfl, pz⟩ := paired_strs py
        have zl := pz.length
        rw [List.length_map, wl] at zl
        have zi := paired_all (S := IsName) (fun _ _ h => h) pz
        have hn8 := m8.get nna hn7
        have hd8 := m8.get nda hd7
        have hs8 := m8.get nls hs7
        have m68 := e7.trans m8
        refine ⟨_, rfl, a, 3, rfl, m8.src, by decide, by decide, fun H9 u m9 _ hu0 hu1 => ⟨rfl, _, rfl, ite2 (fun _ => ?_) (fun _ => ?_)⟩⟩
        · have hs9 := m9.get nls hs8
          refine ⟨_, rfl, _, rfl, a, ls, _, rfl, m9.src, SqL.of (del_of nls hs9), by decide, fun p H10 ys m10 np hp pyy => ⟨_, rfl, _, rfl, p, _, rfl, SqL.of hp, fun c hc => ?_⟩⟩
          obtain ⟨vs, pv, rfl⟩ := perm_map pyy (l := six) rfl
          have vl : vs.length = 6 := pv.length_eq
          have ec := Mv.new (o := .lst (cutV (List.map V.str vs) none (some (1 + (k : Int))))) m10.src hc
          have mc := m68.trans (m9.trans (m10.trans ec))
          have hcut : cutV (List.map V.str vs) none (some (1 + (k : Int))) = sV (vs.take (1 + k)) := by
            have e : (1 + (k : Int)) = ((1 + k : Nat) : Int) := by omega
            rw [e, cut_to _ (by rw [List.length_map, vl]; omega)]; exact List.map_take.symm
          exact ⟨_, rfl, pn, _, rfl, SqL.of (mc.get nna hn6), fun o1 l1 ho1 _ h1 => ⟨_, rfl, pd, _, rfl, .inl ⟨SqL.of ((mc.trans (.new mc.src h1)).get nda hd6), fun l2 h2 => ⟨_, rfl, c, _, rfl, .inl ⟨SqL.of ((((Mv.new mc.src h1).trans (.new (Mv.new mc.src h1).src h2))).get (m10.src.ne hc) (by rw [upd_same, hcut])), fun l3 h3 => ⟨by show 3 ≤ sizeLine; decide, fun r hr => fin _ c _ mc (by rw [upd_same, hcut]) (by rw [List.length_take, vl]; omega) (fun x hx => looks_names x (pv.mem_iff.mp (List.mem_of_mem_take hx))) o1 l1 ho1 h1 l2 h2 l3 h3 r hr⟩⟩⟩⟩⟩⟩
        · have mc := m68.trans m9
          have hy9 := m9.get (e7.src.ne hD) hy
          exact ⟨_, rfl, pn, _, rfl, SqL.of (mc.get nna hn6), fun o1 l1 ho1 _ h1 => ⟨_, rfl, pd, _, rfl, .inl ⟨SqL.of ((mc.trans (.new mc.src h1)).get nda hd6), fun l2 h2 => ⟨_, rfl, D, _, rfl, .inl ⟨SqL.of ((((Mv.new mc.src h1).trans (.new (Mv.new mc.src h1).src h2))).get (e7.src.ne hD) hy9), fun l3 h3 => ⟨by show 3 ≤ sizeLine; decide, fun r hr => fin _ D _ mc hy9 zl.symm zi o1 l1 ho1 h1 l2 h2 l3 h3 r hr⟩⟩⟩⟩⟩⟩
end
end Bs
set_option Elab.async false
set_option linter.all false
set_option maxRecDepth 100000
set_option maxHeartbeats 2000000
namespace L2
namespace Pl
open PySem PySem.Spec PyProof.Rows
theorem same_wr {H H' : Hp} {p : Addr} {o : HO} (m : Same H H') (hp : H p = none) : Same H (upd H' p o) := fun b x e => (upd_ne (ne_of_none e hp)).trans (m b x e)
/-- a comprehension over n turns, none left out; M holds of all heaps on the way -/
theorem lc_ix {J : It} {n : Nat} {G : Hp → Prop} {Y : Nat → Hp → V → Hp → Prop} (w : Walk J n G Y) {g : TG} {tt : TT} {te : TE} {vs : List Nat} {σ : St} {H1 : Hp} {D : Addr} {Qd : Hp → Prop}
    (R : Nat → V → Prop) (hD : H1 D = none) (hG : ∀ H, Same H1 H → G H) (hlen : n ≤ 1000)
    (step : ∀ (i : Nat) (x : V) (H H' : Hp) (N : Hp → Prop) (YK : VK), i < n → Same H1 H → (∃ o, H D = some o) → Y i H x H' → (∀ y H4, Same H1 H4 → H4 D = H D → R i y → YK y H4) →
      g x (wipe σ vs) H' fun σ2 H2 => wipe σ2 vs = wipe σ vs ∧ tt σ2 H2 fun b H3 => if b = true then te σ2 H3 YK else N H3)
    (hd : ∀ H ys, Same H1 H → H D = some (.lst ys) → ys.length = n → (∀ (i : Nat) y, ys[i]? = some y → R i y) → Qd H) :
    ∃ W : Nat → Nat → Hp → Prop, (∃ m, W 0 m (upd H1 D (.lst []))) ∧ ∀ i m H, W i m H →
      (J.stop i H ∧ Qd H) ∨ (J.go i H ∧ ∃ Nx : Hp → Prop, (∀ H', Nx H' → ∃ m', m' < m ∧ W (i + 1) m' H') ∧ ∀ x H', J.yld i H x H' → g x (wipe σ vs) H' fun σ2 H2 => wipe σ2 vs = wipe σ vs ∧ tt σ2 H2 fun b H3 =>
        if b = true then te σ2 H3 fun y H4 => ∃ acc, H4 D = some (.lst acc) ∧ acc.length < sizeLine ∧ Nx (upd H4 D (.lst (acc ++ [y]))) else Nx H3) := by
  refine lc_it w (fun i H => Same H1 H ∧ ∃ ys, H D = some (.lst ys) ∧ ys.length = i ∧ ∀ (j : Nat) y, ys[j]? = some y → R j y) ⟨same_new hD, [], upd_same, rfl, fun j y h => by cases h⟩ (fun i H _ p => hG H p.1) ?_ ?_
  · rintro i x H H' hi ⟨hm, ys, hy, hl, hp⟩ hx
    refine step i x H H' _ _ hi hm ⟨_, hy⟩ hx fun y H4 m4 e4 r => ⟨ys, e4.trans hy, by rw [sizeLine_eq]; omega, same_wr m4 hD, ys ++ [y], upd_same, by rw [List.length_append, hl]; rfl, fun j z hj => ?_⟩
    by_cases hji : j < ys.length
    · rw [List.getElem?_append_left hji] at hj
      exact hp j z hj
    · have hlt := (List.getElem?_eq_some_iff.mp hj).1
      rw [List.length_append, List.length_singleton] at hlt
      obtain rfl : j = ys.length := by omega
      rw [List.getElem?_append_right (Nat.le_refl _), Nat.sub_self] at hj
      obtain rfl := Option.some.inj hj
      rw [hl]
      exact r
  · rintro H ⟨hm, ys, hy, hl, hp⟩
    exact hd H ys hm hy hl hp
/-- all of them: when each is a Bool -/
theorem bools_of : ∀ {ys : List V} {f : Nat → Bool}, (∀ (i : Nat) y, ys[i]? = some y → y = V.bl (f i)) → ys = ((List.range ys.length).map f).map V.bl := by
  intro ys f h
  apply List.ext_getElem?
  intro i
  cases e : ys[i]? with
  | none =>
    have := List.getElem?_eq_none_iff.mp e
    rw [List.getElem?_eq_none (by simp; omega)]
  | some y =>
    have hlt := (List.getElem?_eq_some_iff.mp e).1
    rw [h i y e, List.getElem?_map, List.getElem?_map, List.getElem?_range hlt]
    rfl
theorem all_range {n : Nat} {f : Nat → Bool} (h : ∀ i, i < n → f i = true) : ((List.range n).map f).all id = true := by
  rw [List.all_map, List.all_eq_true]
  exact fun i hi => h i (List.mem_range.mp hi)
theorem range_all {l : List Nat} {p : Nat → Bool} : ((List.range l.length).map fun i => p (l[i]?.getD 0)).all id = l.all p := by
  rw [Bool.eq_iff_iff, List.all_map, List.all_eq_true, List.all_eq_true]
  constructor
  · intro h x hx
    obtain ⟨i, hi⟩ := List.mem_iff_getElem?.mp hx
    have := h i (List.mem_range.mpr (List.getElem?_eq_some_iff.mp hi).1)
    simpa [hi] using this
  · intro h i hi
    have lt := List.mem_range.mp hi
    have := h l[i] (List.getElem_mem lt)
    simpa [List.getElem?_eq_getElem lt] using this
/-- the module's constants -/
structure Cst (mg : Str → Option Value) : Prop where
  longest : ∃ t, mg "LONGEST" = some (.int 8 t)
  letters : ∃ t, mg "LETTERS" = some (.str "abcdefghijklmnopqrstuvwxyz" t)
  most : ∃ t, mg "MOST_STANDINGS" = some (.int 5 t)
  many : ∃ t, mg "MOST_DEEDS" = some (.int 4 t)
def NotStr (K : PySem.W.Frag) (H : Hp) (v : V) : Prop := ∃ t, TyX K H v t ∧ PySem.W.kitOne K t (.type "str") = some false
def spIsName (K : PySem.W.Frag) : Sp := fun vs H Q _ => ∃ v, vs = [v] ∧ ((∃ w, v = .str w ∧ w.length ≤ sizeLine ∧ ∀ H', Same H H' → Q (.bl (isNameB w)) H') ∨ (NotStr K H v ∧ Q (.bl false) H))
theorem tyS {K : PySem.W.Frag} {H : Hp} (w : Str) : TyX K H (.str w) (.type "str") := .base (.str w)
theorem kitS {K : PySem.W.Frag} : PySem.W.kitOne K (.type "str") (.type "str") = some true := kit_ty (by decide +kernel)
theorem letter_iff (c : Nat) : decide (c ∈ ("abcdefghijklmnopqrstuvwxyz" : Str).cps.toList) = (decide (97 ≤ c) && decide (c ≤ 122)) := by
  have h : ("abcdefghijklmnopqrstuvwxyz" : Str).cps.toList = (List.range 26).map (97 + ·) := by decide +kernel
  rw [h, Bool.eq_iff_iff, Bool.and_eq_true, decide_eq_true_iff, decide_eq_true_iff, decide_eq_true_iff, List.mem_map]
  constructor
  · rintro ⟨k, hk, rfl⟩
    have := List.mem_range.mp hk
    omega
  · rintro ⟨h1, h2⟩
    exact ⟨c - 97, List.mem_range.mpr (by omega), by omega⟩
end Pl
end L2
namespace Bs
open PySem PySem.Spec PyProof.Rows L2 L2.Pl
section
variable {P : Program} {w : World} {K : PySem.W.Frag} {mg : Str → Option Value} {base : Heap} {f : Addr} {fd : FuncData}
theorem scIsName : FnScope ["value", "letter"] ["value"] (defScope sIsName) := ⟨rfl, rfl, rfl, by decide +kernel, rfl, by decide +kernel, by decide +kernel⟩
theorem ok_isName (G : Gn mg) (C : Cst mg) (F : FnP K "is_name" sIsName f fd) : FnOk P w K mg base CX0 1 f fd ["value"] (spIsName K) := by
  obtain ⟨tl, hl⟩ := C.longest
  obtain ⟨ta, ha⟩ := C.letters
  refine F.ok scIsName (fun vs H Q E h => ?_) (fun cdv A outer s H vs Q E hr h => ?_)
  · obtain ⟨_, rfl, _⟩ := h
    rfl
  · obtain ⟨v, rfl, h⟩ := h
    refine ⟨_, PSs.nox (pss_cons (ps_if (PW.pt (pw_or (pt_not (pt_val (pe_callB call_isi (by rfl) G.isi bIsi (pa_cons (pv 0) (pa_cons (pe_bltn (v := .ty "str") (by rfl) G.str bStr rfl) pa_nil))))) (pw_or1 (pt_not (pt_chain op_le op_le pe_int (pe_callB call_len (by rfl) G.len bLen (pa_cons (pv 0) pa_nil)) (pe_glob (v := .int 8) (by rfl) hl ⟨_, rfl⟩))))))
        (pss_one (ps_ret pe_bl)) pss_nil)
      (pss_one (ps_ret (pe_callB (cr_all rfl) (by rfl) G.all bAll (pa_cons (pe_lc (own := [("letter", 1)]) (g := gName 1) (tt := tYes) (te := tOp (fun x y H Q => ∃ (c : Nat) (z : Str), x = .str ⟨#[c]⟩ ∧ y = .str z ∧ Q (.bl (decide (c ∈ z.cps.toList))) H) (tVar 1) (tC (.str "abcdefghijklmnopqrstuvwxyz"))) rfl scIsName.nd (pi_str (pv 0)) (blkOk_by (N := ["value", "letter"]) (sc := defScope sIsName) (by decide +kernel)) (fun _ _ _ _ _ => pg_name (i := 1) scIsName.nd rfl (.inl rfl)) (fun _ _ _ _ _ => pts_nil) (fun _ _ _ _ _ => pe_cmpR op_in_sign (pv 1) (pe_glob (v := .str "abcdefghijklmnopqrstuvwxyz") (by rfl) ha ⟨_, rfl⟩) (by rfl))) pa_nil))))), ?_⟩
    rcases h with ⟨w, rfl, hw, q⟩ | ⟨⟨t, ty, kt⟩, q⟩
    · refine ⟨_, rfl, .str w, .ty "str", _, _, true, rfl, .ty _, tyS w, kitS, true, rfl, iteF ⟨_, rfl, _, w.length, rfl, ⟨hw, rfl⟩, _, _, rfl, rfl, _, rfl, ?_⟩⟩
      by_cases h1 : 1 ≤ w.length
      · rw [show decide ((1 : Int) ≤ ((w.length : Nat) : Int)) = true from decide_eq_true (by omega)]
        refine iteT ⟨_, _, rfl, rfl, _, rfl, ?_⟩
        by_cases h8 : w.length ≤ 8
        · rw [show decide (((w.length : Nat) : Int) ≤ (8 : Int)) = true from decide_eq_true (by omega)]
          refine iteF ⟨_, rfl, w, rfl, fun D hD => ?_⟩
          refine lc_ix walk_str (fun i y => ∃ c, w.cps[i]? = some c ∧ y = .bl (decide (97 ≤ c) && decide (c ≤ 122))) hD (fun _ _ => trivial) (by show w.length ≤ 1000; omega) (fun i x H2 H3 N YK hi m2 _ hx ky => ?_) (fun H2 ys m2 hy ly ry => ?_)
          · obtain ⟨rfl, c, hc, rfl⟩ := hx
            refine ⟨rfl, iteT (B := N H3) ⟨_, rfl, c, _, rfl, rfl, ?_⟩⟩
            rw [letter_iff]
            exact ky _ _ m2 rfl ⟨c, hc, rfl⟩
          · have e := bools_of (f := fun i => (decide (97 ≤ w.cps[i]?.getD 0) && decide (w.cps[i]?.getD 0 ≤ 122))) fun i y hi => by
              obtain ⟨c, hc, rfl⟩ := ry i y hi
              rw [hc]
              rfl
            refine ⟨D, _, rfl, SqL.of (hy.trans (congrArg (fun z => some (HO.lst z)) e)), ?_⟩
            have e2 : ((List.range ys.length).map fun i => (decide (97 ≤ w.cps[i]?.getD 0) && decide (w.cps[i]?.getD 0 ≤ 122))).all id = isNameB w := by
              unfold isNameB
              rw [decide_eq_true h1, decide_eq_true h8, Bool.true_and, Bool.true_and, ← range_all, ly]
              simp only [Array.getElem?_toList, Array.length_toList]
            rw [e2]
            exact q H2 m2
        · rw [show decide (((w.length : Nat) : Int) ≤ (8 : Int)) = false from decide_eq_false (by omega)]
          have e : isNameB w = false := by
            unfold isNameB
            rw [decide_eq_false h8, Bool.false_and, Bool.and_false]
          rw [e] at q
          exact iteT (q H (Same.refl H))
      · rw [show decide ((1 : Int) ≤ ((w.length : Nat) : Int)) = false from decide_eq_false (by omega)]
        have e : isNameB w = false := by
          unfold isNameB
          rw [decide_eq_false h1, Bool.false_and]
        rw [e] at q
        exact iteF ⟨_, rfl, iteT (q H (Same.refl H))⟩
    · exact ⟨_, rfl, v, .ty "str", t, _, false, rfl, .ty _, ty, kt, false, rfl, iteT (iteT q)⟩
end
end Bs
set_option Elab.async false
set_option linter.all false
set_option maxRecDepth 100000
set_option maxHeartbeats 2000000
namespace L2
namespace Pl
open PySem PySem.Spec PyProof.Rows
/-! ### dicts from names to names -/
abbrev kvS (ps : List (Str × Str)) : List (Key × V) := ps.map fun p => (Sum.inr p.1, V.str p.2)
theorem valV_kvS {x : Str} : ∀ {ps : List (Str × Str)}, valV (kvS ps) (Sum.inr x : Key) = (ps.lookup x).map V.str
  | [] => rfl
  | p :: r => by
    have ih := valV_kvS (x := x) (ps := r)
    unfold valV at ih ⊢
    rw [show kvS (p :: r) = ((Sum.inr p.1, V.str p.2) : Key × V) :: kvS r from rfl, List.find?_cons, List.lookup_cons]
    by_cases h : p.1 = x
    · subst h
      simp
    · have h1 : decide ((Sum.inr p.1 : Key) = Sum.inr x) = false := decide_eq_false fun e => h (Sum.inr.inj e)
      have h2 : (x == p.1) = false := beq_eq_false_iff_ne.mpr (Ne.symm h)
      rw [h2]
      dsimp only
      rw [h1]
      exact ih
theorem kV_str {x : Str} : kV (Sum.inr x) = V.str x := rfl
theorem dget_str {H : Hp} {a : Addr} {kvs : List (Key × V)} {x : Str} (e : Rd H a (.dK kvs)) : DGet H a (.str x) (valV kvs (Sum.inr x)) := .inl ⟨kvs, Sum.inr x, e, rfl, rfl⟩
theorem kit_list {K : PySem.W.Frag} : PySem.W.kitAny K (.type "list") [.type "list", .type "tuple"] = some true := kitAny_cons (b := true) (kit_ty (by decide +kernel)) (fun z => by cases z) (fun _ => rfl)
theorem kit_dict {K : PySem.W.Frag} : PySem.W.kitOne K (.type "dict") (.type "dict") = some true := kit_ty (by decide +kernel)
/-- all of ys are True -/
theorem trues_of : ∀ {ys : List V}, (∀ (i : Nat) y, ys[i]? = some y → y = V.bl true) → ys = (List.replicate ys.length true).map V.bl
  | [], _ => rfl
  | y :: r, h => by
    rw [List.length_cons, List.replicate_succ, List.map_cons, h 0 y rfl, ← trues_of fun i z hi => h (i + 1) z hi]
theorem trues_all (n : Nat) : (List.replicate n true).all id = true := List.all_eq_true.mpr fun b hb => List.eq_of_mem_replicate hb
theorem mut_dK {kvs : List (Key × V)} : Mut (some (HO.dK kvs)) := trivial
theorem same_unlock {H H' : Hp} {d : Addr} {u o : HO} (e : H d = some u) (m : Same (upd H d o) H') : Same H (upd H' d u) := fun b x z => by
  by_cases h : b = d
  · rw [h, upd_same]
    rw [h, e] at z
    exact z
  · exact (upd_ne h).trans (m b x ((upd_ne h).trans z))
/-- ps tells something for each of ws, and for no others -/
structure Full (ps : List (Str × Str)) (ws : List Str) : Prop where
  len : ps.length = ws.length
  has : ∀ x ∈ ws, (ps.lookup x).isSome = true
def spRStand (K : PySem.W.Frag) : Sp := fun vs H Q _ => ∃ a ws, vs = [.ref a] ∧ H a = some (.lst (sV ws)) ∧ 1 ≤ ws.length ∧ ws.length ≤ 5 ∧ ws.Nodup ∧ (∀ x ∈ ws, IsName x) ∧ ∀ H', Same H H' → Q (.bl true) H'
def spFromAll (K : PySem.W.Frag) : Sp := fun vs H Q _ => ∃ d a ps ws, vs = [.ref d, .ref a] ∧ H d = some (.dK (kvS ps)) ∧ SqL K H a (sV ws) ∧ ws.length ≤ 5 ∧ Full ps ws ∧ ∀ H', Same H H' → Q (.bl true) H'
def spRLeads (K : PySem.W.Frag) : Sp := fun vs H Q _ => ∃ d a ps ws, vs = [.ref d, .ref a] ∧ H d = some (.dK (kvS ps)) ∧ SqL K H a (sV ws) ∧ ws.length ≤ 5 ∧ Full ps ws ∧ (∀ p ∈ ps, p.2 ∈ ws) ∧ ∀ H', Same H H' → Q (.bl true) H'
def spRLooks (K : PySem.W.Frag) : Sp := fun vs H Q _ => ∃ d a ps ws, vs = [.ref d, .ref a] ∧ H d = some (.dK (kvS ps)) ∧ SqL K H a (sV ws) ∧ ws.length ≤ 5 ∧ Full ps ws ∧ (∀ p ∈ ps, IsName p.2) ∧ ∀ H', Same H H' → Q (.bl true) H'
theorem nameB_of {w : Str} (h : IsName w) : isNameB w = true := by
  unfold isNameB
  rw [decide_eq_true h.pos, decide_eq_true h.len, Bool.true_and, Bool.true_and, List.all_eq_true]
  intro c hc
  obtain ⟨h1, h2⟩ := h.low c hc
  rw [decide_eq_true h1, decide_eq_true h2]
  rfl
theorem nameLine {w : Str} (h : IsName w) : w.length ≤ sizeLine := Nat.le_trans h.len (by decide)
end Pl
end L2
namespace Bs
open PySem PySem.Spec PyProof.Rows L2 L2.Pl
section
variable {P : Program} {w : World} {K : PySem.W.Frag} {mg : Str → Option Value} {base : Heap} {f : Addr} {fd : FuncData}
theorem scRStand : FnScope ["value", "entry"] ["value"] (defScope sRStand) := ⟨rfl, rfl, rfl, by decide +kernel, rfl, by decide +kernel, by decide +kernel⟩
theorem ok_rstand (G : Gn mg) (C : Cst mg) (F : FnP K "right_standings" sRStand f fd) (hN : Has P w K mg base CX0 "is_name" 1 ["value"] (spIsName K)) : FnOk P w K mg base CX0 2 f fd ["value"] (spRStand K) := by
  obtain ⟨tl, hl⟩ := C.most
  obtain ⟨fN, dN, oN, bN, gN, kN⟩ := hN.ex
  refine F.ok scRStand (fun vs H Q E h => ?_) (fun cdv A outer s H vs Q E hr h => ?_)
  · obtain ⟨_, _, rfl, _⟩ := h
    rfl
  · obtain ⟨a, ws, rfl, ha, h1, h5, hnd, hnm, q⟩ := h
    refine ⟨_, PSs.nox (pss_cons (ps_if (PW.pt (pw_or (pt_not (pt_val (pe_callB call_isiT (by rfl) G.isi bIsi (pa_cons (pv 0) (pa_cons (pe_tup (pa_cons (pe_bltn (v := .ty "list") (by rfl) G.list bList rfl) (pa_cons (pe_bltn (v := .ty "tuple") (by rfl) G.tuple bTuple rfl) pa_nil))) pa_nil))))) (pw_or1 (pt_not (pt_chain op_le op_le pe_int (pe_callB call_len (by rfl) G.len bLen (pa_cons (pv 0) pa_nil)) (pe_glob (v := .int 5) (by rfl) hl ⟨_, rfl⟩))))))
        (pss_one (ps_ret pe_bl)) pss_nil)
      (pss_one (ps_ret (pe_and (pe_callB (cr_all rfl) (by rfl) G.all bAll (pa_cons (pe_lc (own := [("entry", 1)]) (g := gName 1) (tt := tYes) (te := tCall (spIsName K) [] E0 (tCons (tVar 1) tNil)) rfl scRStand.nd (pi_list (pv 0)) (blkOk_by (N := ["value", "entry"]) (sc := defScope sRStand) (by decide +kernel)) (fun _ _ _ _ _ => pg_name (i := 1) scRStand.nd rfl (.inl rfl)) (fun _ _ _ _ _ => pts_nil) (fun _ _ _ _ _ => pe_call oN hr (by rfl) gN kN bN .nil pass0 (pa_cons (pv 1) pa_nil))) pa_nil))
        (pe_one (pe_cmpR op_eq (pe_lenSetS rfl (by rfl) G.len (by rfl) G.set (pv 0)) (pe_callB call_len (by rfl) G.len bLen (pa_cons (pv 0) pa_nil)) (nomark _))))))), ?_⟩
    refine ⟨_, rfl, by show 2 ≤ sizeLine; decide, fun t ht => ⟨.ref a, t, _, _, _, true, rfl, upd_same, .cons (.ty _) (.cons (.ty _) .nil), .base (.lst ((upd_ne (ne_of_none ha ht)).trans ha)), kit_list, true, rfl, iteF ?_⟩⟩
    have ha1 : (upd H t (.tup [.ty "list", .ty "tuple"])) a = some (.lst (sV ws)) := (upd_ne (ne_of_none ha ht)).trans ha
    have lws : (sV ws).length = ws.length := List.length_map _
    have m1 : Same H (upd H t (.tup [.ty "list", .ty "tuple"])) := same_new ht
    refine ⟨_, rfl, _, (sV ws).length, rfl, .inl ⟨_, SqL.of ha1, rfl⟩, _, _, rfl, rfl, _, rfl, ?_⟩
    rw [lws, show decide ((1 : Int) ≤ ((ws.length : Nat) : Int)) = true from decide_eq_true (by omega)]
    refine iteT ⟨_, _, rfl, rfl, _, rfl, ?_⟩
    rw [show decide (((ws.length : Nat) : Int) ≤ (5 : Int)) = true from decide_eq_true (by omega)]
    refine iteF ⟨_, rfl, a, rfl, ⟨_, SqL.of ha1⟩, fun D hD => ?_⟩
    refine lc_ix (walk_list (K := K) (a := a) (xs := sV ws)) (fun _ y => y = .bl true) hD (fun H2 m2 => SqL.of (m2 _ _ ha1)) (by rw [lws]; omega) (fun i x H2 H3 N YK hi m2 iD hx ky => ?_) (fun H2 ys m2 hy ly ry => ?_)
    · obtain ⟨rfl, hx⟩ := hx
      obtain ⟨z, hz, rfl⟩ := List.mem_map.mp (List.mem_of_getElem? hx)
      refine ⟨rfl, iteT (B := N H3) ⟨_, rfl, .str z, rfl, .inl ⟨z, rfl, nameLine (hnm z hz), fun H4 m4 => ?_⟩⟩⟩
      rw [nameB_of (hnm z hz)]
      obtain ⟨o, ho⟩ := iD
      exact ky _ _ (m2.trans m4) (by rw [ho, m4 _ _ ho]) rfl
    · refine ⟨D, _, rfl, SqL.of (hy.trans (congrArg (fun z => some (HO.lst z)) (trues_of ry))), ?_⟩
      rw [trues_all]
      refine ⟨_, rfl, iteT ⟨_, rfl, a, ws, rfl, SqL.of (m2 _ _ ha1), by omega, _, rfl, _, (sV ws).length, rfl, .inl ⟨_, SqL.of (m2 _ _ ha1), rfl⟩, rfl, ?_⟩⟩
      show Q (.bl (decide (V.int ((PlayL.metS ws).length : Nat) = V.int ((sV ws).length : Nat)))) H2
      rw [(PlayL.metS_nd _ ws rfl).mpr hnd, lws, decide_eq_true rfl]
      exact q H2 (m1.trans m2)
theorem scFromAll : FnScope ["value", "standings", "standing"] ["value", "standings"] (defScope sFromAll) := ⟨rfl, rfl, rfl, by decide +kernel, rfl, by decide +kernel, by decide +kernel⟩
theorem ok_fromAll (G : Gn mg) (F : FnP K "from_all" sFromAll f fd) : FnOk P w K mg base CX0 1 f fd ["value", "standings"] (spFromAll K) := by
  refine F.ok scFromAll (fun vs H Q E h => ?_) (fun cdv A outer s H vs Q E hr h => ?_)
  · obtain ⟨_, _, _, _, rfl, _⟩ := h
    rfl
  · obtain ⟨d, a, ps, ws, rfl, hd, ha, h5, fu, q⟩ := h
    refine ⟨_, PSs.nox (pss_cons (ps_if (PW.pt (pw_or (pt_not (pt_val (pe_callB call_isi (by rfl) G.isi bIsi (pa_cons (pv 0) (pa_cons (pe_bltn (v := .ty "dict") (by rfl) G.dict bDict rfl) pa_nil))))) (pw_or1 (pt_cmpR op_ne (pe_callB call_lenD (by rfl) G.len bLen (pa_cons (pv 0) pa_nil)) (pe_callB call_len_seq (by rfl) G.len bLen (pa_cons (pv 1) pa_nil)) (nomark _)))))
        (pss_one (ps_ret pe_bl)) pss_nil)
      (pss_one (ps_ret (pe_callB (cr_all rfl) (by rfl) G.all bAll (pa_cons (pe_lc (own := [("standing", 2)]) (g := gName 2) (tt := tYes) (te := tDIn (tVar 2) (tVar 0)) rfl scFromAll.nd (pi_list (pv 1)) (blkOk_by (N := ["value", "standings", "standing"]) (sc := defScope sFromAll) (by decide +kernel)) (fun _ _ _ _ _ => pg_name (i := 2) scFromAll.nd rfl (.inl rfl)) (fun _ _ _ _ _ => pts_nil) (fun _ _ _ _ _ => pe_cmp (pc_din (hu_of hr) (pv 2) (pv 0)) rfl)) pa_nil))))), ?_⟩
    refine ⟨_, rfl, .ref d, .ty "dict", _, _, true, rfl, .ty _, .base (.dK hd), kit_dict, true, rfl, iteF ⟨_, rfl, d, _, rfl, hd, _, rfl, a, _, rfl, .inl ha, rfl, _, rfl, ?_⟩⟩
    have e : V.int ((kvS ps).length : Nat) = V.int ((sV ws).length : Nat) := by rw [List.length_map, List.length_map, fu.len]
    refine iteNS e ⟨_, rfl, a, rfl, ⟨_, ha⟩, fun D hD => ?_⟩
    refine lc_ix (walk_list (K := K) (a := a) (xs := sV ws)) (fun _ y => y = .bl true) hD (fun H2 m2 => m2.seq ha) (by rw [List.length_map]; omega) (fun i x H2 H3 N YK hi m2 iD hx ky => ?_) (fun H2 ys m2 hy ly ry => ?_)
    · obtain ⟨rfl, hx⟩ := hx
      obtain ⟨z, hz, rfl⟩ := List.mem_map.mp (List.mem_of_getElem? hx)
      refine ⟨rfl, iteT (B := N H3) ⟨_, rfl, _, rfl, d, _, rfl, dget_str (.inl (m2 _ _ hd)), ?_⟩⟩
      rw [valV_kvS, Option.isSome_map, fu.has z hz]
      exact ky _ _ m2 rfl rfl
    · refine ⟨D, _, rfl, SqL.of (hy.trans (congrArg (fun z => some (HO.lst z)) (trues_of ry))), ?_⟩
      rw [trues_all]
      exact q H2 m2
theorem scRLeads : FnScope ["value", "standings", "behind"] ["value", "standings"] (defScope sRLeads) := ⟨rfl, rfl, rfl, by decide +kernel, rfl, by decide +kernel, by decide +kernel⟩
theorem ok_rleads (G : Gn mg) (F : FnP K "right_leads" sRLeads f fd) (hA : Has P w K mg base CX0 "from_all" 1 ["value", "standings"] (spFromAll K)) : FnOk P w K mg base CX0 2 f fd ["value", "standings"] (spRLeads K) := by
  obtain ⟨fA, dA, oA, bA, gA, kA⟩ := hA.ex
  refine F.ok scRLeads (fun vs H Q E h => ?_) (fun cdv A outer s H vs Q E hr h => ?_)
  · obtain ⟨_, _, _, _, rfl, _⟩ := h
    rfl
  · obtain ⟨d, a, ps, ws, rfl, hd, ha, h5, fu, hin, q⟩ := h
    refine ⟨_, PSs.nox (pss_cons (ps_if (pt_not (pt_val (pe_call oA hr (by rfl) gA kA bA .nil pass0 (pa_cons (pv 0) (pa_cons (pv 1) pa_nil))))) (pss_one (ps_ret pe_bl)) pss_nil)
      (pss_one (ps_ret (pe_callB (cr_all rfl) (by rfl) G.all bAll (pa_cons (pe_lock (pe_lc (own := [("behind", 2)]) (g := gName 2) (tt := tYes) (te := tAndV (tCB (rIsi K) (tCons (tVar 2) (tCons (tC (.ty "str")) tNil))) (tOp (rIn K false) (tVar 2) (tVar 1))) rfl scRLeads.nd (pi_values (pv 0)) (blkOk_by (N := ["value", "standings", "behind"]) (sc := defScope sRLeads) (by decide +kernel)) (fun _ _ _ _ _ => pg_name (i := 2) scRLeads.nd rfl (.inl rfl)) (fun _ _ _ _ _ => pts_nil)
        (fun _ _ _ _ _ => pe_and (pe_callB call_isi (by rfl) G.isi bIsi (pa_cons (pv 2) (pa_cons (pe_bltn (v := .ty "str") (by rfl) G.str bStr rfl) pa_nil))) (pe_one (pe_cmpR op_in_seq (pv 2) (pv 1) (by with_unfolding_all rfl)))))) pa_nil))))), ?_⟩
    refine ⟨_, rfl, _, rfl, d, a, ps, ws, rfl, hd, ha, h5, fu, fun H1 m1 => ⟨true, rfl, iteF ?_⟩⟩
    refine ⟨d, _, m1 _ _ hd, mut_dK, fun od => ⟨_, rfl, d, od, kvS ps, rfl, upd_same, fun D hD => ?_⟩⟩
    have ha2 : SqL K (upd H1 d (.frz od (.dK (kvS ps)))) a (sV ws) := by
      rcases m1.seq ha with (h | ⟨o, h⟩) | h
      · exact .inl (.inl ((upd_ne (fun z => by rw [z, m1 _ _ hd] at h; cases h)).trans h))
      · exact .inl (.inr ⟨o, (upd_ne (fun z => by rw [z, m1 _ _ hd] at h; cases h)).trans h⟩)
      · exact .inr h
    refine lc_ix (walk_values (d := d) (o := od) (kvs := kvS ps)) (fun _ y => y = .bl true) hD (fun H2 m2 => m2 _ _ upd_same) (by rw [List.length_map, fu.len]; omega) (fun i x H2 H3 N YK hi m2 iD hx ky => ?_) (fun H2 ys m2 hy ly ry => ?_)
    · obtain ⟨rfl, k, hx⟩ := hx
      obtain ⟨p, hp, e⟩ := List.mem_map.mp (List.mem_of_getElem? hx)
      obtain rfl : V.str p.2 = x := congrArg Prod.snd e
      refine ⟨rfl, iteT (B := N H3) ⟨_, rfl, .str p.2, .ty "str", _, _, true, rfl, .ty _, tyS _, kitS, true, rfl, iteT ⟨_, rfl, _, rfl, a, sV ws, rfl, .inl (m2.seq ha2), rfl, L2.flat_strs ws, ?_⟩⟩⟩
      show YK (.bl (inV (V.str p.2) (sV ws))) H3
      rw [inV_strs, decide_eq_true (hin p hp)]
      exact ky _ _ m2 rfl rfl
    · refine ⟨m2 _ _ upd_same, D, _, rfl, SqL.of ((upd_ne ?_).trans (hy.trans (congrArg (fun z => some (HO.lst z)) (trues_of ry)))), ?_⟩
      · intro z
        rw [z, upd_same] at hD
        cases hD
      · rw [trues_all]
        exact q _ (m1.trans (same_unlock (m1 _ _ hd) m2))
theorem scRLooks : FnScope ["value", "standings", "seen"] ["value", "standings"] (defScope sRLooks) := ⟨rfl, rfl, rfl, by decide +kernel, rfl, by decide +kernel, by decide +kernel⟩
theorem ok_rlooks (G : Gn mg) (F : FnP K "right_looks" sRLooks f fd) (hA : Has P w K mg base CX0 "from_all" 1 ["value", "standings"] (spFromAll K)) (hN : Has P w K mg base CX0 "is_name" 1 ["value"] (spIsName K)) : FnOk P w K mg base CX0 2 f fd ["value", "standings"] (spRLooks K) := by
  obtain ⟨fA, dA, oA, bA, gA, kA⟩ := hA.ex
  obtain ⟨fN, dN, oN, bN, gN, kN⟩ := hN.ex
  refine F.ok scRLooks (fun vs H Q E h => ?_) (fun cdv A outer s H vs Q E hr h => ?_)
  · obtain ⟨_, _, _, _, rfl, _⟩ := h
    rfl
  · obtain ⟨d, a, ps, ws, rfl, hd, ha, h5, fu, hin, q⟩ := h
    refine ⟨_, PSs.nox (pss_cons (ps_if (pt_not (pt_val (pe_call oA hr (by rfl) gA kA bA .nil pass0 (pa_cons (pv 0) (pa_cons (pv 1) pa_nil))))) (pss_one (ps_ret pe_bl)) pss_nil)
      (pss_one (ps_ret (pe_callB (cr_all rfl) (by rfl) G.all bAll (pa_cons (pe_lock (pe_lc (own := [("seen", 2)]) (g := gName 2) (tt := tYes) (te := tCall (spIsName K) [] E0 (tCons (tVar 2) tNil)) rfl scRLooks.nd (pi_values (pv 0)) (blkOk_by (N := ["value", "standings", "seen"]) (sc := defScope sRLooks) (by decide +kernel)) (fun _ _ _ _ _ => pg_name (i := 2) scRLooks.nd rfl (.inl rfl)) (fun _ _ _ _ _ => pts_nil)
        (fun _ _ _ _ _ => pe_call oN hr (by rfl) gN kN bN .nil pass0 (pa_cons (pv 2) pa_nil)))) pa_nil))))), ?_⟩
    refine ⟨_, rfl, _, rfl, d, a, ps, ws, rfl, hd, ha, h5, fu, fun H1 m1 => ⟨true, rfl, iteF ?_⟩⟩
    refine ⟨d, _, m1 _ _ hd, mut_dK, fun od => ⟨_, rfl, d, od, kvS ps, rfl, upd_same, fun D hD => ?_⟩⟩
    refine lc_ix (walk_values (d := d) (o := od) (kvs := kvS ps)) (fun _ y => y = .bl true) hD (fun H2 m2 => m2 _ _ upd_same) (by rw [List.length_map, fu.len]; omega) (fun i x H2 H3 N YK hi m2 iD hx ky => ?_) (fun H2 ys m2 hy ly ry => ?_)
    · obtain ⟨rfl, k, hx⟩ := hx
      obtain ⟨p, hp, e⟩ := List.mem_map.mp (List.mem_of_getElem? hx)
      obtain rfl : V.str p.2 = x := congrArg Prod.snd e
      refine ⟨rfl, iteT (B := N H3) ⟨_, rfl, .str p.2, rfl, .inl ⟨p.2, rfl, nameLine (hin p hp), fun H4 m4 => ?_⟩⟩⟩
      rw [nameB_of (hin p hp)]
      obtain ⟨o, ho⟩ := iD
      exact ky _ _ (m2.trans m4) (by rw [ho, m4 _ _ ho]) rfl
    · refine ⟨m2 _ _ upd_same, D, _, rfl, SqL.of ((upd_ne ?_).trans (hy.trans (congrArg (fun z => some (HO.lst z)) (trues_of ry)))), ?_⟩
      · intro z
        rw [z, upd_same] at hD
        cases hD
      · rw [trues_all]
        exact q _ (m1.trans (same_unlock (m1 _ _ hd) m2))
end
end Bs
set_option Elab.async false
set_option linter.all false
set_option maxRecDepth 100000
set_option maxHeartbeats 2000000
namespace L2
namespace Pl
open PySem PySem.Spec PyProof.Rows
abbrev kvR (es : List (Str × Addr)) : List (Key × V) := es.map fun e => (Sum.inr e.1, V.ref e.2)
/-- a deed's entry: its name, the dict of its leads -/
def DeedAt (H : Hp) (e : Str × Addr) (p : Str × List (Str × Str)) : Prop := e.1 = p.1 ∧ H e.2 = some (.dK (kvS p.2))
theorem DeedAt.same {H H' : Hp} {e : Str × Addr} {p : Str × List (Str × Str)} (h : DeedAt H e p) (m : Same H H') : DeedAt H' e p := ⟨h.1, m _ _ h.2⟩
theorem putK_end {kvs : List (Key × V)} {k : Key} {v : V} (h : ∀ p ∈ kvs, p.1 ≠ k) : putK kvs k v = kvs ++ [(k, v)] := by
  unfold putK
  rw [if_neg]
  intro z
  obtain ⟨p, hp, e⟩ := List.any_eq_true.mp z
  exact h p hp (of_decide_eq_true e)
def spRDeeds (K : PySem.W.Frag) : Sp := fun vs H Q _ => ∃ d a es ds ws, vs = [.ref d, .ref a] ∧ H d = some (.dK (kvR es)) ∧ Paired (DeedAt H) es ds ∧ (∀ e ∈ es, e.2 ≠ d) ∧ SqL K H a (sV ws) ∧ ws.length ≤ 5 ∧ 1 ≤ ds.length ∧ ds.length ≤ 4 ∧ (∀ p ∈ ds, IsName p.1 ∧ Full p.2 ws ∧ ∀ q ∈ p.2, q.2 ∈ ws) ∧ ∀ H', Same H H' → Q (.bl true) H'
end Pl
end L2
namespace Bs
open PySem PySem.Spec PyProof.Rows L2 L2.Pl
section
variable {P : Program} {w : World} {K : PySem.W.Frag} {mg : Str → Option Value} {base : Heap} {f : Addr} {fd : FuncData}
abbrev NRD : List Str := ["value", "standings", "deed", "leads"]
theorem scRDeeds : FnScope NRD ["value", "standings"] (defScope sRDeeds) := ⟨rfl, rfl, rfl, by decide +kernel, rfl, by decide +kernel, by decide +kernel⟩
theorem seqL_frz {K : PySem.W.Frag} {H : Hp} {a d : Addr} {kvs : List (Key × V)} {o : HO} {xs : List V} (h : SqL K H a xs) (hd : H d = some (.dK kvs)) : SqL K (upd H d o) a xs := by
  rcases h with (h | ⟨o, h⟩) | h
  · exact .inl (.inl ((upd_ne (fun z => by rw [z, hd] at h; cases h)).trans h))
  · exact .inl (.inr ⟨o, (upd_ne (fun z => by rw [z, hd] at h; cases h)).trans h⟩)
  · exact .inr h
theorem ok_rdeeds (G : Gn mg) (C : Cst mg) (F : FnP K "right_deeds" sRDeeds f fd) (hL : Has P w K mg base CX0 "right_leads" 2 ["value", "standings"] (spRLeads K)) (hN : Has P w K mg base CX0 "is_name" 1 ["value"] (spIsName K)) : FnOk P w K mg base CX0 3 f fd ["value", "standings"] (spRDeeds K) := by
  obtain ⟨tl, hl⟩ := C.many
  obtain ⟨fL, dL, oL, bL, gL, kL⟩ := hL.ex
  obtain ⟨fN, dN, oN, bN, gN, kN⟩ := hN.ex
  refine F.ok scRDeeds (fun vs H Q E h => ?_) (fun cdv A outer s H vs Q E hr h => ?_)
  · obtain ⟨_, _, _, _, _, rfl, _⟩ := h
    rfl
  · obtain ⟨d, a, es, ds, ws, rfl, hd, hp, hne, ha, h5, h1, h4, hin, q⟩ := h
    have hr1 := hr.mono (j := 1) (by decide)
    refine ⟨_, PSs.nox (pss_cons (ps_if (PW.pt (pw_or (pt_not (pt_val (pe_callB call_isi (by rfl) G.isi bIsi (pa_cons (pv 0) (pa_cons (pe_bltn (v := .ty "dict") (by rfl) G.dict bDict rfl) pa_nil))))) (pw_or1 (pt_not (pt_chain op_le op_le pe_int (pe_callB call_lenD (by rfl) G.len bLen (pa_cons (pv 0) pa_nil)) (pe_glob (v := .int 4) (by rfl) hl ⟨_, rfl⟩))))))
        (pss_one (ps_ret pe_bl)) pss_nil)
      (pss_one (ps_ret (pe_callB (cr_all rfl) (by rfl) G.all bAll (pa_cons (pe_lock (pe_lc (own := [("deed", 2), ("leads", 3)]) (g := gTup K 2 (gCons (gName 2) (gCons (gName 3) gNil))) (tt := tYes) (te := tAndV (tCall (spIsName K) [] E0 (tCons (tVar 2) tNil)) (tCall (spRLeads K) [] E0 (tCons (tVar 3) (tCons (tVar 1) tNil)))) rfl scRDeeds.nd (pi_items (pv 0)) (blkOk_by (N := NRD) (sc := defScope sRDeeds) (by decide +kernel))
          (fun _ _ _ _ _ => pg_tup rfl (pgs_cons (pg_name (i := 2) scRDeeds.nd rfl (.inl rfl)) (pgs_cons (pg_name (i := 3) scRDeeds.nd rfl (.inl rfl)) pgs_nil))) (fun _ _ _ _ _ => pts_nil)
          (fun _ _ _ _ _ => pe_and (pe_call oN hr1 (by rfl) gN kN bN .nil pass0 (pa_cons (pv 2) pa_nil)) (pe_one (pe_call oL hr (by rfl) gL kL bL .nil pass0 (pa_cons (pv 3) (pa_cons (pv 1) pa_nil))))))) pa_nil))))), ?_⟩
    have hle : es.length = ds.length := hp.length
    have lkv : (kvR es).length = ds.length := (List.length_map _).trans hle
    refine ⟨_, rfl, .ref d, .ty "dict", _, _, true, rfl, .ty _, .base (.dK hd), kit_dict, true, rfl, iteF ⟨_, rfl, d, _, rfl, hd, _, _, rfl, rfl, _, rfl, ?_⟩⟩
    rw [lkv, show decide ((1 : Int) ≤ ((ds.length : Nat) : Int)) = true from decide_eq_true (by omega)]
    refine iteT ⟨_, _, rfl, rfl, _, rfl, ?_⟩
    rw [show decide (((ds.length : Nat) : Int) ≤ (4 : Int)) = true from decide_eq_true (by omega)]
    refine iteF ⟨d, _, hd, mut_dK, fun od => ⟨_, rfl, d, od, kvR es, rfl, upd_same, fun D hD => ?_⟩⟩
    have ha2 : SqL K (upd H d (.frz od (.dK (kvR es)))) a (sV ws) := seqL_frz ha hd
    refine lc_ix (walk_items (d := d) (o := od) (kvs := kvR es)) (fun _ y => y = .bl true) hD (fun H2 m2 => m2 _ _ upd_same) (by rw [lkv]; omega) (fun i x H2 H3 N YK hi m2 iD hx ky => ?_) (fun H2 ys m2 hy ly ry => ?_)
    · obtain ⟨T, x1, x2, rfl, nT, rfl, e1, e2⟩ := hx
      rw [List.length_map] at hi
      obtain ⟨e, he⟩ : ∃ e, es[i]? = some e := ⟨_, List.getElem?_eq_getElem hi⟩
      obtain ⟨p, hpi, hpe, hpd⟩ := L2.paired_get hp he
      have g : (kvR es)[i]? = some (Sum.inr e.1, V.ref e.2) := by
        rw [List.getElem?_map, he]
        rfl
      dsimp only at e1 e2
      rw [g] at e1 e2
      obtain rfl := Option.some.inj e1
      obtain rfl := Option.some.inj e2
      obtain ⟨n1, n2, n3⟩ := hin p (List.mem_of_getElem? hpi)
      obtain ⟨o, ho⟩ := iD
      have mT : Same H2 (upd H2 T (.tup [kV (Sum.inr e.1), .ref e.2])) := same_new nT
      refine ⟨T, _, rfl, .inl (.inl upd_same), rfl, _, [.ref e.2], rfl, _, [], rfl, rfl, rfl, iteT (B := N (upd H2 T (.tup [kV (Sum.inr e.1), .ref e.2]))) ?_⟩
      refine ⟨_, rfl, .str e.1, rfl, .inl ⟨e.1, rfl, nameLine (hpe ▸ n1), fun H4 m4 => ?_⟩⟩
      rw [nameB_of (hpe ▸ n1)]
      have nd : e.2 ≠ d := hne e (List.mem_of_getElem? he)
      have m24 := mT.trans m4
      refine ⟨true, rfl, iteT ⟨_, rfl, _, rfl, e.2, a, p.2, ws, rfl, m24 _ _ (m2 _ _ ((upd_ne nd).trans hpd)), m24.seq (m2.seq ha2), h5, n2, n3, fun H5 m5 => ky _ _ (m2.trans (m24.trans m5)) ?_ rfl⟩⟩
      rw [ho, (m24.trans m5) _ _ ho]
    · refine ⟨m2 _ _ upd_same, D, _, rfl, SqL.of ((upd_ne ?_).trans (hy.trans (congrArg (fun z => some (HO.lst z)) (trues_of ry)))), ?_⟩
      · intro z
        rw [z, upd_same] at hD
        cases hD
      · rw [trues_all]
        exact q _ (same_unlock hd m2)
end
end Bs
set_option Elab.async false
set_option linter.all false
set_option maxRecDepth 100000
set_option maxHeartbeats 2000000
namespace L2
namespace Pl
open PySem PySem.Spec PyProof.Rows
/-- a dict comprehension: Pv by the turn and the heap, the new dict at D within -/
theorem dc_turns {J : It} {n : Nat} {G : Hp → Prop} {Y : Nat → Hp → V → Hp → Prop} (w : Walk J n G Y) {g : TG} {tt : TT} {tk tv : TE} {vs : List Nat} {σ : St} {H1 : Hp} {D : Addr} {Qd : Hp → Prop} (Pv : Nat → Hp → Prop) (h0 : Pv 0 (upd H1 D (.dK []))) (hG : ∀ i H, i ≤ n → Pv i H → G H)
    (hs : ∀ i x H H', i < n → Pv i H → Y i H x H' → g x (wipe σ vs) H' fun σ2 H2 => wipe σ2 vs = wipe σ vs ∧ tt σ2 H2 fun b H3 =>
      if b = true then tk σ2 H3 fun y H4 => tv σ2 H4 fun z H5 => ∃ kvs k, y = kV k ∧ H5 D = some (.dK kvs) ∧ kvs.length < sizeLine ∧ Pv (i + 1) (upd H5 D (.dK (putK kvs k z))) else Pv (i + 1) H3) (hd : ∀ H, Pv n H → Qd H) :
    ∃ W : Nat → Nat → Hp → Prop, (∃ m, W 0 m (upd H1 D (.dK []))) ∧ ∀ i m H, W i m H →
      (J.stop i H ∧ Qd H) ∨ (J.go i H ∧ ∃ Nx : Hp → Prop, (∀ H', Nx H' → ∃ m', m' < m ∧ W (i + 1) m' H') ∧ ∀ x H', J.yld i H x H' → g x (wipe σ vs) H' fun σ2 H2 => wipe σ2 vs = wipe σ vs ∧ tt σ2 H2 fun b H3 =>
        if b = true then tk σ2 H3 fun y H4 => tv σ2 H4 fun z H5 => ∃ kvs k, y = kV k ∧ H5 D = some (.dK kvs) ∧ kvs.length < sizeLine ∧ Nx (upd H5 D (.dK (putK kvs k z))) else Nx H3) := by
  refine ⟨fun i m H => m = n - i ∧ i ≤ n ∧ Pv i H, ⟨n, rfl, Nat.zero_le _, h0⟩, fun i m H ⟨e, hi, p⟩ => ?_⟩
  by_cases lt : i < n
  · exact .inr ⟨w.goes i H lt (hG i H hi p), Pv (i + 1), fun H' p' => ⟨n - (i + 1), by omega, rfl, lt, p'⟩, fun x H' y => hs i x H H' lt p (w.yields i H x H' lt (hG i H hi p) y)⟩
  · obtain rfl : i = n := by omega
    exact .inl ⟨w.stops H (hG i H hi p), hd H p⟩
/-! ### a store -/
structure Sd where
  names : List Str
  ds : List (Str × List (Str × Str))
  ls : List (Str × Str)
structure Sd.Ok (b : Sd) : Prop where
  n1 : 1 ≤ b.names.length
  n5 : b.names.length ≤ 5
  nd : b.names.Nodup
  nn : ∀ x ∈ b.names, IsName x
  d1 : 1 ≤ b.ds.length
  d4 : b.ds.length ≤ 4
  dd : (b.ds.map (·.1)).Nodup
  di : ∀ p ∈ b.ds, IsName p.1 ∧ Full p.2 b.names ∧ ∀ q ∈ p.2, q.2 ∈ b.names
  lf : Full b.ls b.names
  ln : ∀ p ∈ b.ls, IsName p.2
theorem del_upd0 {H : Hp} {p : Addr} {o : HO} : Same (del H p) (del (upd H p o) p) := fun b x z => by
  obtain ⟨n, z⟩ := del_some z
  exact del_of n ((upd_ne n).trans z)
theorem paired_left {α β : Type} {F : α → β → Prop} : ∀ {xs : List α} {ys : List β}, Paired F xs ys → ∀ {x : α}, x ∈ xs → ∃ y, y ∈ ys ∧ F x y
  | _, _, .cons h t, x, hx => by
    rcases List.mem_cons.mp hx with rfl | hx
    · exact ⟨_, List.mem_cons_self .., h⟩
    · obtain ⟨y, hy, f⟩ := paired_left t hx
      exact ⟨y, List.mem_cons_of_mem _ hy, f⟩
abbrev stFs (ts td dl dk : Addr) : List (Str × V) := [("_standings", .ref ts), ("_deeds", .ref td), ("_leads", .ref dl), ("_looks", .ref dk)]
def StAt (C : Addr) (H : Hp) (x : Addr) (b : Sd) : Prop := ∃ dx ts td dl dk es, H x = some (.ins C dx (stFs ts td dl dk)) ∧ H ts = some (.tup (sV b.names)) ∧ H td = some (.tup (sV (b.ds.map (·.1)))) ∧ H dl = some (.dK (kvR es)) ∧ Paired (DeedAt H) es b.ds ∧ H dk = some (.dK (kvS b.ls))
theorem StAt.same {C : Addr} {H H' : Hp} {x : Addr} {b : Sd} (h : StAt C H x b) (m : Same H H') : StAt C H' x b :=
  let ⟨dx, ts, td, dl, dk, es, h1, h2, h3, h4, h5, h6⟩ := h
  ⟨dx, ts, td, dl, dk, es, m _ _ h1, m _ _ h2, m _ _ h3, m _ _ h4, h5.mono fun _ _ q => q.same m, m _ _ h6⟩
structure StF (K : PySem.W.Frag) (mg : Str → Option Value) (C : Addr) : Prop where
  cl : Cls K C
  n1 : NoAttr K C "_standings"
  n2 : NoAttr K C "_deeds"
  n3 : NoAttr K C "_leads"
  n4 : NoAttr K C "_looks"
  gC : mg "Store" = some (.ref C)
def LdInv (H5 : Hp) (D : Addr) (ds : List (Str × List (Str × Str))) (i : Nat) (H : Hp) : Prop := Same H5 H ∧ ∃ es', H D = some (.dK (kvR es')) ∧ Paired (DeedAt (del H D)) es' (ds.take i)
def spInit (C : Addr) : Sp := fun vs H Q _ => ∃ (H0 : Hp) (x dx a d l : Addr) (es : List (Str × Addr)) (b : Sd), vs = [.ref x, .ref a, .ref d, .ref l] ∧ Same H0 H ∧ H0 x = none ∧ H x = some (.ins C dx []) ∧ H a = some (.lst (sV b.names)) ∧ H d = some (.dK (kvR es)) ∧ Paired (DeedAt H) es b.ds ∧ (∀ e ∈ es, e.2 ≠ d) ∧
  H l = some (.dK (kvS b.ls)) ∧ b.Ok ∧ ∀ H', Same H0 H' → StAt C H' x b → Q .non H'
end Pl
end L2
namespace Bs
open PySem PySem.Spec PyProof.Rows L2 L2.Pl
section
variable {P : Program} {w : World} {K : PySem.W.Frag} {mg : Str → Option Value} {base : Heap} {f : Addr} {fd : FuncData}
theorem putF_end {f : Str} {v : V} : ∀ {fs : List (Str × V)}, (∀ p ∈ fs, p.1 ≠ f) → putF f v fs = fs ++ [(f, v)]
  | [], _ => rfl
  | (g, x) :: r, h => by
    show (if g = f then (g, v) :: r else (g, x) :: putF f v r) = _
    rw [if_neg (h (g, x) (List.mem_cons_self ..)), putF_end fun p hp => h p (List.mem_cons_of_mem _ hp)]
    rfl
def noneB (f : Str) (gs : List Str) : Bool := gs.all fun g => decide (g ≠ f)
theorem putF_new {f : Str} {v : V} {fs : List (Str × V)} (h : noneB f (fs.map (·.1)) = true) : putF f v fs = fs ++ [(f, v)] :=
  putF_end fun p hp => of_decide_eq_true (List.all_eq_true.mp h p.1 (List.mem_map_of_mem hp))
theorem st_put2 {a b : V} : putF ("_deeds" : Str) b [(("_standings" : Str), a)] = [(("_standings" : Str), a), (("_deeds" : Str), b)] := putF_new (by show noneB ("_deeds" : Str) ["_standings"] = true; decide +kernel)
theorem st_put3 {a b c : V} : putF ("_leads" : Str) c [(("_standings" : Str), a), (("_deeds" : Str), b)] = [(("_standings" : Str), a), (("_deeds" : Str), b), (("_leads" : Str), c)] := putF_new (by show noneB ("_leads" : Str) ["_standings", "_deeds"] = true; decide +kernel)
theorem st_put4 {a b c d : V} : putF ("_looks" : Str) d [(("_standings" : Str), a), (("_deeds" : Str), b), (("_leads" : Str), c)] = [(("_standings" : Str), a), (("_deeds" : Str), b), (("_leads" : Str), c), (("_looks" : Str), d)] := putF_new (by show noneB ("_looks" : Str) ["_standings", "_deeds", "_leads"] = true; decide +kernel)
theorem keys_of {H : Hp} {es : List (Str × Addr)} {ds : List (Str × List (Str × Str))} (h : Paired (DeedAt H) es ds) : ((kvR es).map fun kv => kV kv.1) = sV (ds.map (·.1)) := by
  induction h with
  | nil => rfl
  | @cons e p es ds q _ ih =>
    show V.str e.1 :: ((kvR es).map fun kv => kV kv.1) = V.str p.1 :: sV (ds.map (·.1))
    rw [ih, q.1]
abbrev NIn : List Str := ["self", "standings", "deeds", "looks", "deed", "leads"]
abbrev sInit : Stmt := sStore 0
theorem scInit : FnScope NIn ["self", "standings", "deeds", "looks"] (defScope sInit) := ⟨rfl, rfl, rfl, by decide +kernel, rfl, by decide +kernel, by decide +kernel⟩
abbrev FnM (K : PySem.W.Frag) (x q : Str) (st : Stmt) (f : Addr) (fd : FuncData) : Prop := FunD K x q (defArgs st) (defBody st) (defScope st) [] [] f fd
theorem ok_init {C : Addr} (G : Gn mg) (T : StF K mg C) (F : FnM K "__init__" "Store.__init__" sInit f fd) (hS : Has P w K mg base CX0 "right_standings" 2 ["value"] (spRStand K)) (hD : Has P w K mg base CX0 "right_deeds" 3 ["value", "standings"] (spRDeeds K)) (hL : Has P w K mg base CX0 "right_looks" 2 ["value", "standings"] (spRLooks K)) :
    FnOk P w K mg base CX0 4 f fd ["self", "standings", "deeds", "looks"] (spInit C) := by
  obtain ⟨fS, dS, oS, bS, gS, kS⟩ := hS.ex
  obtain ⟨fD, dD, oD, bD, gD, kD⟩ := hD.ex
  obtain ⟨fL, dL, oL, bL, gL, kL⟩ := hL.ex
  refine F.ok scInit (fun vs H Q E h => ?_) (fun cdv A outer s H vs Q E hr h => ?_)
  · obtain ⟨_, _, _, _, _, _, _, _, rfl, _⟩ := h
    rfl
  · obtain ⟨H0, x, dx, a, d, l, es, b, rfl, s0, x0, hx, ha, hd, hp, hne, hl, ok, q⟩ := h
    have hr2 := hr.mono (j := 2) (by decide)
    refine ⟨_, PSs.nox (pss_cons (ps_if (pt_not (pt_val (pe_call oS hr2 (by rfl) gS kS bS .nil pass0 (pa_cons (pv 1) pa_nil)))) (pss_one ps_never) pss_nil)
      (pss_cons (ps_if (pt_not (pt_val (pe_call oD hr (by rfl) gD kD bD .nil pass0 (pa_cons (pv 2) (pa_cons (pv 1) pa_nil))))) (pss_one ps_never) pss_nil)
      (pss_cons (ps_if (pt_not (pt_val (pe_call oL hr2 (by rfl) gL kL bL .nil pass0 (pa_cons (pv 3) (pa_cons (pv 1) pa_nil))))) (pss_one ps_never) pss_nil)
      (pss_cons (ps_fld (pv 0) (pe_callTy call_tuple_of (by rfl) G.tuple bTuple (pa_cons (pv 1) pa_nil)) rfl)
      (pss_cons (ps_fld (pv 0) (pe_callTy (call_tupD rfl) (by rfl) G.tuple bTuple (pa_cons (pv 2) pa_nil)) rfl)
      (pss_cons (ps_fld (pv 0) (pe_lock (pe_dc (own := [("deed", 4), ("leads", 5)]) (g := gTup K 2 (gCons (gName 4) (gCons (gName 5) gNil))) (tt := tYes) (tk := tVar 4) (tv := tCB (fun xs H Q => ∃ (a : Addr) (kvs : List (Key × V)), xs = [.ref a] ∧ Rd H a (.dK kvs) ∧ ∀ p, H p = none → Q (.ref p) (upd H p (.dK kvs))) (tCons (tVar 5) tNil)) rfl scInit.nd (pi_items (pv 2)) (blkOk_by (N := NIn) (sc := defScope sInit) (by decide +kernel))
          (fun _ _ _ _ _ => pg_tup rfl (pgs_cons (pg_name (i := 4) scInit.nd rfl (.inl rfl)) (pgs_cons (pg_name (i := 5) scInit.nd rfl (.inl rfl)) pgs_nil))) (fun _ _ _ _ _ => pts_nil) (fun _ _ _ _ _ => pv 4) (fun _ _ _ _ _ => pe_callTy call_dictD (by rfl) G.dict bDict (pa_cons (pv 5) pa_nil)))) rfl)
      (pss_one (ps_fld (pv 0) (pe_callTy call_dictD (by rfl) G.dict bDict (pa_cons (pv 3) pa_nil)) rfl)))))))), ?_⟩
    refine ⟨_, rfl, a, b.names, rfl, ha, ok.n1, ok.n5, ok.nd, ok.nn, fun H1 m1 => ⟨true, rfl, iteF ?_⟩⟩
    refine ⟨_, rfl, _, rfl, d, a, es, b.ds, b.names, rfl, m1 _ _ hd, hp.mono (fun _ _ q => q.same m1), hne, SqL.of (m1 _ _ ha), ok.n5, ok.d1, ok.d4, ok.di, fun H2 m2 => ⟨true, rfl, iteF ?_⟩⟩
    have m12 := m1.trans m2
    refine ⟨_, rfl, _, rfl, l, a, b.ls, b.names, rfl, m12 _ _ hl, SqL.of (m12 _ _ ha), ok.n5, ok.lf, ok.ln, fun H3 m3 => ⟨true, rfl, iteF ?_⟩⟩
    have m13 := m12.trans m3
    have s3 := s0.trans m13
    have hx3 := m13 _ _ hx
    refine ⟨_, rfl, a, _, rfl, .inl ⟨SqL.of (m13 _ _ ha), fun ts hts => ?_⟩⟩
    have nts : x ≠ ts := ne_of_none hx3 hts
    refine ⟨_, rfl, x, C, dx, [], rfl, (upd_ne nts).trans hx3, T.cl, T.n1, by decide, ?_⟩
    have e4 : ∀ c o, c ≠ x → H3 c = some o → (upd (upd H3 ts (.tup (sV b.names))) x (.ins C dx (putF "_standings" (.ref ts) []))) c = some o := fun c o n e => (upd_ne n).trans ((upd_ne (ne_of_none e hts)).trans e)
    have s4 : Same H0 (upd (upd H3 ts (.tup (sV b.names))) x (.ins C dx (putF "_standings" (.ref ts) []))) := same_wr (same_wr s3 (s3.free hts)) x0
    have t4 : (upd (upd H3 ts (.tup (sV b.names))) x (.ins C dx (putF "_standings" (.ref ts) []))) ts = some (.tup (sV b.names)) := (upd_ne nts.symm).trans upd_same
    have x4 : (upd (upd H3 ts (.tup (sV b.names))) x (.ins C dx (putF "_standings" (.ref ts) []))) x = some (.ins C dx [("_standings", .ref ts)]) := upd_same
    generalize upd (upd H3 ts (.tup (sV b.names))) x (.ins C dx (putF "_standings" (.ref ts) [])) = H4 at *
    have nxd : d ≠ x := fun z => by
      rw [z, hx] at hd
      cases hd
    have nxl : l ≠ x := fun z => by
      rw [z, hx] at hl
      cases hl
    have d4 := e4 _ _ nxd (m13 _ _ hd)
    have l4 := e4 _ _ nxl (m13 _ _ hl)
    have nxe : ∀ (e : Str × Addr) (p : Str × List (Str × Str)), DeedAt H e p → e.2 ≠ x := fun e p h z => by
      have := h.2
      rw [z, hx] at this
      cases this
    have p4 : Paired (DeedAt H4) es b.ds := hp.mono fun e p h => ⟨h.1, e4 _ _ (nxe e p h) (m13 _ _ h.2)⟩
    refine ⟨_, rfl, d, _, rfl, .inl d4, fun td htd => ?_⟩
    have ntd : x ≠ td := ne_of_none x4 htd
    refine ⟨_, rfl, x, C, dx, _, rfl, (upd_ne ntd).trans x4, T.cl, T.n2, (by show 1 < 1000; decide), ?_⟩
    have e5 : ∀ c o, c ≠ x → H4 c = some o → (upd (upd H4 td (.tup ((kvR es).map fun kv => kV kv.1))) x (.ins C dx (putF "_deeds" (.ref td) [("_standings", .ref ts)]))) c = some o := fun c o n e => (upd_ne n).trans ((upd_ne (ne_of_none e htd)).trans e)
    have s5 : Same H0 (upd (upd H4 td (.tup ((kvR es).map fun kv => kV kv.1))) x (.ins C dx (putF "_deeds" (.ref td) [("_standings", .ref ts)]))) := same_wr (same_wr s4 (s4.free htd)) x0
    have td5 : (upd (upd H4 td (.tup ((kvR es).map fun kv => kV kv.1))) x (.ins C dx (putF "_deeds" (.ref td) [("_standings", .ref ts)]))) td = some (.tup (sV (b.ds.map (·.1)))) := by
      rw [upd_ne ntd.symm, upd_same, keys_of p4]
    have x5 : (upd (upd H4 td (.tup ((kvR es).map fun kv => kV kv.1))) x (.ins C dx (putF "_deeds" (.ref td) [("_standings", .ref ts)]))) x = some (.ins C dx [("_standings", .ref ts), ("_deeds", .ref td)]) := by
      rw [upd_same, st_put2]
    generalize upd (upd H4 td (.tup ((kvR es).map fun kv => kV kv.1))) x (.ins C dx (putF "_deeds" (.ref td) [("_standings", .ref ts)])) = H5 at *
    have nts5 : ts ≠ x := nts.symm
    have t5 := e5 _ _ nts5 t4
    have d5 := e5 _ _ nxd d4
    have l5 := e5 _ _ nxl l4
    have p5 : Paired (DeedAt H5) es b.ds := p4.mono fun e p h => ⟨h.1, e5 _ _ (fun z => by have := h.2; rw [z, x4] at this; cases this) h.2⟩
    -- the leads
    refine ⟨d, _, d5, mut_dK, fun od => ⟨_, rfl, d, od, kvR es, rfl, upd_same, fun D hD => ?_⟩⟩
    have hle : es.length = b.ds.length := hp.length
    refine dc_turns (walk_items (d := d) (o := od) (kvs := kvR es)) (LdInv (upd H5 d (.frz od (.dK (kvR es)))) D b.ds) ⟨same_new hD, [], upd_same, .nil⟩ (fun i H _ p => p.1 _ _ upd_same) (fun i y H6 H7 hi pv hx => ?_) (fun H6 pv => ?_)
    · obtain ⟨m6, es', hD6, pp⟩ := pv
      obtain ⟨T1, x1, x2, rfl, nT, rfl, e1, e2⟩ := hx
      rw [List.length_map] at hi
      obtain ⟨e, he⟩ : ∃ e, es[i]? = some e := ⟨_, List.getElem?_eq_getElem hi⟩
      obtain ⟨p, hpi, hpe, hpd⟩ := L2.paired_get p5 he
      have g : (kvR es)[i]? = some (Sum.inr e.1, V.ref e.2) := by
        rw [List.getElem?_map, he]
        rfl
      dsimp only at e1 e2
      rw [g] at e1 e2
      obtain rfl := Option.some.inj e1
      obtain rfl := Option.some.inj e2
      have nd : e.2 ≠ d := hne e (List.mem_of_getElem? he)
      have mT : Same H6 (upd H6 T1 (.tup [kV (Sum.inr e.1), .ref e.2])) := same_new nT
      have hDs : D ≠ T1 := ne_of_none hD6 nT
      refine ⟨T1, _, rfl, .inl (.inl upd_same), rfl, _, [.ref e.2], rfl, _, [], rfl, rfl, rfl, iteT (B := LdInv (upd H5 d (.frz od (.dK (kvR es)))) D b.ds (i + 1) (upd H6 T1 (.tup [kV (Sum.inr e.1), .ref e.2]))) ⟨_, rfl, _, rfl, e.2, kvS p.2, rfl, .inl (mT _ _ (m6 _ _ ((upd_ne nd).trans hpd))), fun r hr => ⟨kvR es', Sum.inr e.1, rfl, ?_, ?_, ?_⟩⟩⟩
      · have nr : D ≠ r := ne_of_none ((upd_ne hDs).trans hD6) hr
        exact (upd_ne nr).trans ((upd_ne hDs).trans hD6)
      · have := pp.length
        have h4 := ok.d4
        rw [List.length_take] at this
        rw [List.length_map]
        exact small1000 (by omega)
      · have nr : D ≠ r := ne_of_none ((upd_ne hDs).trans hD6) hr
        have m7 : Same H6 (upd (upd H6 T1 (.tup [kV (Sum.inr e.1), .ref e.2])) r (.dK (kvS p.2))) := same_wr mT (mT.free hr)
        have hk : putK (kvR es') (Sum.inr e.1 : Key) (.ref r) = kvR (es' ++ [(e.1, r)]) := by
          rw [putK_end]
          · show kvR es' ++ [(Sum.inr e.1, V.ref r)] = List.map _ (es' ++ [(e.1, r)])
            rw [List.map_append]
            rfl
          · intro q hq z
            obtain ⟨e3, h3, rfl⟩ := List.mem_map.mp hq
            obtain ⟨p3, hp3, e4⟩ := paired_left pp h3
            have e5 : p3.1 = p.1 := (e4.1.symm.trans (Sum.inr.inj z)).trans hpe
            obtain ⟨j, hj⟩ := List.mem_iff_getElem?.mp hp3
            rw [List.getElem?_take] at hj
            split at hj
            · rename_i hji
              have a1 : (b.ds.map (·.1))[j]? = some p.1 := by rw [List.getElem?_map, hj]; exact congrArg some e5
              have a2 : (b.ds.map (·.1))[i]? = some p.1 := by rw [List.getElem?_map, hpi]; rfl
              have := (List.getElem?_inj (List.getElem?_eq_some_iff.mp a1).1 ok.dd).mp (a1.trans a2.symm)
              omega
            · cases hj
        rw [hk]
        refine ⟨same_wr (m6.trans m7) hD, es' ++ [(e.1, r)], upd_same, ?_⟩
        rw [List.take_succ, hpi]
        exact (pp.mono fun _ _ q => q.same ((del_mono m7).trans del_upd0)).snoc ⟨hpe, del_of nr.symm ((upd_ne nr.symm).trans upd_same)⟩
    · obtain ⟨m6, es', hD6, pp⟩ := pv
      rw [List.length_map, hle, List.take_length] at pp
      have nDd : D ≠ d := fun z => by
        rw [z, upd_same] at hD
        cases hD
      have D0 : H5 D = none := (upd_ne nDd).symm.trans hD
      have m7 := same_unlock d5 m6
      refine ⟨m6 _ _ upd_same, ?_⟩
      have x7 := m7 _ _ x5
      refine ⟨_, rfl, x, C, dx, _, rfl, x7, T.cl, T.n3, (by show 2 < 1000; decide), ?_⟩
      have nxD : D ≠ x := fun z => by
        rw [z, x5] at D0
        cases D0
      have D7 : (upd H6 d (.dK (kvR es))) D = some (.dK (kvR es')) := (upd_ne nDd).trans hD6
      have p7 : Paired (DeedAt (del (upd H6 d (.dK (kvR es))) x)) es' b.ds := pp.mono fun e p h => by
        obtain ⟨n1, h2⟩ := del_some h.2
        have n2 : e.2 ≠ d := fun z => by
          rw [z, m6 _ _ upd_same] at h2
          cases h2
        have n3 : e.2 ≠ x := fun z => by
          have := m6 _ _ ((upd_ne nxd.symm).trans x5)
          rw [z, this] at h2
          cases h2
        exact ⟨h.1, del_of n3 ((upd_ne n2).trans h2)⟩
      generalize upd H6 d (.dK (kvR es)) = H7 at *
      have e8 : ∀ c o, c ≠ x → H7 c = some o → (upd H7 x (.ins C dx (putF "_leads" (.ref D) [("_standings", .ref ts), ("_deeds", .ref td)]))) c = some o := fun c o n e => (upd_ne n).trans e
      refine ⟨_, rfl, l, kvS b.ls, rfl, .inl (e8 _ _ nxl (m7 _ _ l5)), fun dk hdk => ?_⟩
      have x8 : (upd H7 x (.ins C dx (putF "_leads" (.ref D) [("_standings", .ref ts), ("_deeds", .ref td)]))) x = some (.ins C dx [("_standings", .ref ts), ("_deeds", .ref td), ("_leads", .ref D)]) := by rw [upd_same, st_put3]
      have nk : x ≠ dk := ne_of_none x8 hdk
      refine ⟨_, rfl, x, C, dx, _, rfl, (upd_ne nk).trans x8, T.cl, T.n4, (by show 3 < 1000; decide), ?_⟩
      have s7 : Same H0 H7 := s5.trans m7
      have dk0 : H7 dk = none := (upd_ne nk.symm).symm.trans hdk
      refine q _ (same_wr (same_wr (same_wr s7 x0) (s7.free dk0)) x0) ?_
      have old : ∀ c o, c ≠ x → H7 c = some o → (upd (upd (upd H7 x (.ins C dx (putF "_leads" (.ref D) [("_standings", .ref ts), ("_deeds", .ref td)]))) dk (.dK (kvS b.ls))) x (.ins C dx (putF "_looks" (.ref dk) [("_standings", .ref ts), ("_deeds", .ref td), ("_leads", .ref D)]))) c = some o := fun c o n e => (upd_ne n).trans ((upd_ne (ne_of_none e dk0)).trans ((upd_ne n).trans e))
      refine ⟨dx, ts, td, D, dk, es', ?_, old _ _ nts5 (m7 _ _ t5), old _ _ ntd.symm (m7 _ _ td5), old _ _ nxD D7, p7.mono fun e p h => ⟨h.1, ?_⟩, (upd_ne nk.symm).trans upd_same⟩
      · rw [upd_same, st_put4]
      · obtain ⟨n1, h2⟩ := del_some h.2
        exact old _ _ n1 h2
end
end Bs
set_option Elab.async false
set_option linter.all false
set_option maxRecDepth 100000
set_option maxHeartbeats 2000000
namespace L2
namespace Pl
open PySem PySem.Spec PyProof.Rows
/-- a value that is no standing of the store -/
def NoSt (K : PySem.W.Frag) (H : Hp) (b : Sd) (v : V) : Prop := NotStr K H v ∨ ∃ z, v = .str z ∧ z ∉ b.names
def spGetF (C : Addr) (f : Str) : Sp := fun vs H Q _ => ∃ x dx fs v, vs = [.ref x] ∧ H x = some (.ins C dx fs) ∧ fs.lookup f = some v ∧ Q v H
def spCheck (K : PySem.W.Frag) (C CN : Addr) : Sp := fun vs H Q E => ∃ x b v, vs = [.ref x, v] ∧ StAt C H x b ∧ b.Ok ∧ ((∃ z, v = .str z ∧ z ∈ b.names) → Q .non H) ∧ ((∃ z, v = .str z ∧ z ∈ b.names) ∨ NoSt K H b v) ∧ (NoSt K H b v → ∀ d, H d = none → E (.ref CN) (some d) (upd H d (.xd [("value", v)])))
def Sd.look (b : Sd) (z : Str) : Str := (b.ls.lookup z).getD z
def spLook (K : PySem.W.Frag) (C CN : Addr) : Sp := fun vs H Q E => ∃ x b v, vs = [.ref x, v] ∧ StAt C H x b ∧ b.Ok ∧ ((∃ z, v = .str z ∧ z ∈ b.names) ∨ NoSt K H b v) ∧ (∀ z, v = .str z → z ∈ b.names → Q (.str (b.look z)) H) ∧ (NoSt K H b v → ∀ d, H d = none → E (.ref CN) (some d) (upd H d (.xd [("value", v)])))
def Sd.lead1 (b : Sd) (d z : Str) : Str := match b.ds.lookup d with
  | some ps => (ps.lookup z).getD z
  | none => z
def Sd.lead (b : Sd) (z : Str) (row : List Str) : Str := row.foldl (fun z d => b.lead1 d z) z
theorem lead_at {H : Hp} {es : List (Str × Addr)} {ds : List (Str × List (Str × Str))} (h : Paired (DeedAt H) es ds) (nd : (ds.map (·.1)).Nodup) {d : Str} (hd : d ∈ ds.map (·.1)) :
    ∃ e ps, (d, ps) ∈ ds ∧ ds.lookup d = some ps ∧ valV (kvR es) (Sum.inr d : Key) = some (.ref e) ∧ H e = some (.dK (kvS ps)) := by
  induction h with
  | nil => cases hd
  | @cons e p es ds q _ ih =>
    rw [List.map_cons] at nd hd
    obtain ⟨n1, n2⟩ := List.nodup_cons.mp nd
    rw [List.lookup_cons]
    unfold valV at ih ⊢
    rw [show kvR (e :: es) = ((Sum.inr e.1, V.ref e.2) : Key × V) :: kvR es from rfl, List.find?_cons]
    by_cases hdp : d = p.1
    · have e1 : (d == p.1) = true := beq_iff_eq.mpr hdp
      have e2 : decide ((Sum.inr e.1 : Key) = Sum.inr d) = true := decide_eq_true (by rw [q.1, hdp])
      rw [e1]
      dsimp only
      rw [e2]
      exact ⟨e.2, p.2, by rw [hdp]; exact List.mem_cons_self .., rfl, rfl, q.2⟩
    · have e1 : (d == p.1) = false := beq_eq_false_iff_ne.mpr hdp
      have e2 : decide ((Sum.inr e.1 : Key) = Sum.inr d) = false := decide_eq_false fun z => hdp ((Sum.inr.inj z).symm.trans q.1)
      rw [e1]
      dsimp only
      rw [e2]
      obtain ⟨e3, ps, a1, a2, a3, a4⟩ := ih n2 ((List.mem_cons.mp hd).resolve_left hdp)
      exact ⟨e3, ps, List.mem_cons_of_mem _ a1, a2, a3, a4⟩
theorem mem_lookup {x y : Str} : ∀ {ps : List (Str × Str)}, ps.lookup x = some y → (x, y) ∈ ps
  | p :: r, h => by
    rw [List.lookup_cons] at h
    split at h
    · rename_i e
      have e := eq_of_beq e
      rw [← Option.some.inj h, e]
      exact List.mem_cons_self ..
    · exact List.mem_cons_of_mem _ (mem_lookup h)
def spLead (K : PySem.W.Frag) (C CN : Addr) : Sp := fun vs H Q E => ∃ x b v r row, vs = [.ref x, v, .ref r] ∧ StAt C H x b ∧ b.Ok ∧ SqL K H r (sV row) ∧ row.length ≤ 1000 ∧ (∀ d ∈ row, d ∈ b.ds.map (·.1)) ∧ ((∃ z, v = .str z ∧ z ∈ b.names) ∨ NoSt K H b v) ∧ (∀ z, v = .str z → z ∈ b.names → ∀ H', Same H H' → Q (.str (b.lead z row)) H') ∧
  (NoSt K H b v → ∀ d, H d = none → E (.ref CN) (some d) (upd H d (.xd [("value", v)])))
theorem st_noattr {ts td dl dk : Addr} : (stFs ts td dl dk).lookup ("_check_standing" : Str) = none := by with_unfolding_all rfl
theorem st_look1 {ts td dl dk : Addr} : (stFs ts td dl dk).lookup ("_standings" : Str) = some (.ref ts) := by with_unfolding_all rfl
theorem st_look2 {ts td dl dk : Addr} : (stFs ts td dl dk).lookup ("_deeds" : Str) = some (.ref td) := by with_unfolding_all rfl
theorem st_look3 {ts td dl dk : Addr} : (stFs ts td dl dk).lookup ("_leads" : Str) = some (.ref dl) := by with_unfolding_all rfl
theorem st_look4 {ts td dl dk : Addr} : (stFs ts td dl dk).lookup ("_looks" : Str) = some (.ref dk) := by with_unfolding_all rfl
theorem nd_le {α : Type} [BEq α] [LawfulBEq α] : ∀ {l m : List α}, l.Nodup → (∀ z ∈ l, z ∈ m) → l.length ≤ m.length
  | [], _, _, _ => Nat.zero_le _
  | a :: l, m, nd, h => by
    have ha := h a (List.mem_cons_self ..)
    obtain ⟨n1, n2⟩ := List.nodup_cons.mp nd
    have := nd_le (m := m.erase a) n2 fun z hz => (List.mem_erase_of_ne (fun e : z = a => n1 (e ▸ hz))).mpr (h z (List.mem_cons_of_mem _ hz))
    rw [List.length_erase_of_mem ha] at this
    have := List.length_pos_of_mem ha
    rw [List.length_cons]
    omega
theorem Full.none {ps : List (Str × Str)} {ws : List Str} (h : Full ps ws) (nd : ws.Nodup) {x : Str} (hx : x ∉ ws) : ps.lookup x = none := by
  cases e : ps.lookup x with
  | none => rfl
  | some y =>
    exfalso
    have hin : ∀ (qs : List (Str × Str)) (z u : Str), qs.lookup z = some u → z ∈ qs.map (·.1) := by
      intro qs
      induction qs with
      | nil => intro z u h; cases h
      | cons q r ih =>
        intro z u h
        rw [List.lookup_cons] at h
        rw [List.map_cons, List.mem_cons]
        split at h
        · rename_i heq
          exact .inl (eq_of_beq heq)
        · exact .inr (ih z u h)
    have sub : ∀ z ∈ x :: ws, z ∈ ps.map (·.1) := fun z hz => by
      rcases List.mem_cons.mp hz with rfl | hz
      · exact hin ps z y e
      · obtain ⟨u, hu⟩ := Option.isSome_iff_exists.mp (h.has z hz)
        exact hin ps z u hu
    have nd2 : (x :: ws).Nodup := List.nodup_cons.mpr ⟨hx, nd⟩
    have := nd_le nd2 sub
    rw [List.length_cons, List.length_map, h.len] at this
    omega
end Pl
end L2
namespace Bs
open PySem PySem.Spec PyProof.Rows L2 L2.Pl
section
variable {P : Program} {w : World} {K : PySem.W.Frag} {mg : Str → Option Value} {base : Heap} {f : Addr} {fd : FuncData}
abbrev sStd : Stmt := sStore 2
abbrev sDds : Stmt := sStore 3
abbrev sLook : Stmt := sStore 4
abbrev sLead : Stmt := sStore 5
abbrev sCome : Stmt := sStore 6
abbrev sCheck : Stmt := sStore 7
abbrev sEq : Stmt := sStore 1
theorem scStd : FnScope ["self"] ["self"] (defScope sStd) := ⟨rfl, rfl, rfl, by decide +kernel, rfl, by decide +kernel, by decide +kernel⟩
theorem scDds : FnScope ["self"] ["self"] (defScope sDds) := ⟨rfl, rfl, rfl, by decide +kernel, rfl, by decide +kernel, by decide +kernel⟩
theorem ok_std {C : Addr} (T : StF K mg C) (F : FnM K "standings" "Store.standings" sStd f fd) : FnOk P w K mg base CX0 1 f fd ["self"] (spGetF C "_standings") := by
  refine F.ok scStd (fun vs H Q E h => ?_) (fun cdv A outer s H vs Q E hr h => ?_)
  · obtain ⟨_, _, _, _, rfl, _⟩ := h
    rfl
  · obtain ⟨x, dx, fs, v, rfl, hx, hv, q⟩ := h
    refine ⟨_, PSs.nox (pss_one (ps_ret (pe_fld (pv 0) rfl))), ?_⟩
    exact ⟨_, rfl, x, C, dx, fs, v, rfl, hx, T.cl, T.n1, hv, q⟩
theorem ok_dds {C : Addr} (T : StF K mg C) (F : FnM K "deeds" "Store.deeds" sDds f fd) : FnOk P w K mg base CX0 1 f fd ["self"] (spGetF C "_deeds") := by
  refine F.ok scDds (fun vs H Q E h => ?_) (fun cdv A outer s H vs Q E hr h => ?_)
  · obtain ⟨_, _, _, _, rfl, _⟩ := h
    rfl
  · obtain ⟨x, dx, fs, v, rfl, hx, hv, q⟩ := h
    refine ⟨_, PSs.nox (pss_one (ps_ret (pe_fld (pv 0) rfl))), ?_⟩
    exact ⟨_, rfl, x, C, dx, fs, v, rfl, hx, T.cl, T.n2, hv, q⟩
theorem scCheck : FnScope ["self", "value"] ["self", "value"] (defScope sCheck) := ⟨rfl, rfl, rfl, by decide +kernel, rfl, by decide +kernel, by decide +kernel⟩
theorem ok_check {C CN : Addr} (G : Gn mg) (T : StF K mg C) (N : RaF P w K mg base "NoStanding" "value" CN) (F : FnM K "_check_standing" "Store._check_standing" sCheck f fd) : FnOk P w K mg base (L2.CX P w) 3 f fd ["self", "value"] (spCheck K C CN) := by
  obtain ⟨fI, dI, iC, tI, oI, bI⟩ := N.ini
  refine F.ok (CX := L2.CX P w) scCheck (fun vs H Q E h => ?_) (fun cdv A outer s H vs Q E hr h => ?_)
  · obtain ⟨_, _, _, rfl, _⟩ := h
    rfl
  · obtain ⟨x, b, v, rfl, hx, ok, q1, cs, q2⟩ := h
    refine ⟨_, pss_one (ps_if (PW.pt (pw_or (pt_not (pt_val (pe_callB call_isi (by rfl) G.isi bIsi (pa_cons (pv 1) (pa_cons (pe_bltn (v := .ty "str") (by rfl) G.str bStr rfl) pa_nil))))) (pw_or1 (pt_cmp (pc_dnotin (hu_of hr) (pv 1) (pe_fld (pv 0) rfl))))))
      (pss_one (ps_raise rfl (takes_of rfl rfl rfl rfl) (pmk_oex N.o iC tI oI hr bI .nil pass0 (by rfl) N.g (pa_cons (pv 1) pa_nil)))) pss_nil), ?_⟩
    obtain ⟨dx, ts, td, dl, dk, es, h1, h2, h3, h4, h5, h6⟩ := hx
    rcases cs with ⟨z, rfl, hz⟩ | nst
    · refine ⟨_, rfl, .str z, .ty "str", _, _, true, rfl, .ty _, tyS z, kitS, true, rfl, iteF ⟨_, rfl, _, rfl, x, C, dx, _, _, rfl, h1, T.cl, T.n4, st_look4, dk, _, rfl, dget_str (.inl h6), _, rfl, ?_⟩⟩
      rw [valV_kvS, Option.isSome_map, ok.lf.has z hz]
      exact iteF (q1 ⟨z, rfl, hz⟩)
    · rcases nst with ⟨t, ty, kt⟩ | ⟨z, rfl, hz⟩
      · refine ⟨_, rfl, v, .ty "str", t, _, false, rfl, .ty _, ty, kt, false, rfl, iteT (iteT ⟨_, rfl, by show 1 ≤ 1000; decide, fun a ha => ⟨a, v, rfl, upd_same, fun d hd hne => ⟨rfl, d, _, exH_at, exH_dict hne, (upd_ne hne).symm.trans hd, ?_⟩⟩⟩)⟩
        rw [raised_heap ha hne]
        exact q2 (.inl ⟨t, ty, kt⟩) d ((upd_ne hne).symm.trans hd)
      · refine ⟨_, rfl, .str z, .ty "str", _, _, true, rfl, .ty _, tyS z, kitS, true, rfl, iteF ⟨_, rfl, _, rfl, x, C, dx, _, _, rfl, h1, T.cl, T.n4, st_look4, dk, _, rfl, dget_str (.inl h6), _, rfl, ?_⟩⟩
        rw [valV_kvS, Option.isSome_map, ok.lf.none ok.nd hz]
        refine iteT ⟨_, rfl, by show 1 ≤ 1000; decide, fun a ha => ⟨a, .str z, rfl, upd_same, fun d hd hne => ⟨rfl, d, _, exH_at, exH_dict hne, (upd_ne hne).symm.trans hd, ?_⟩⟩⟩
        rw [raised_heap ha hne]
        exact q2 (.inr ⟨z, rfl, hz⟩) d ((upd_ne hne).symm.trans hd)
theorem scLook : FnScope ["self", "standing"] ["self", "standing"] (defScope sLook) := ⟨rfl, rfl, rfl, by decide +kernel, rfl, by decide +kernel, by decide +kernel⟩
theorem ok_look {C CN fc : Addr} {fdc : FuncData} (T : StF K mg C) (oC : FnOk P w K mg base (L2.CX P w) 3 fc fdc ["self", "value"] (spCheck K C CN)) (bC : L2.Binds K fdc ["self", "value"] []) (mC : Meth K C "_check_standing" fc) (F : FnM K "look" "Store.look" sLook f fd) : FnOk P w K mg base (L2.CX P w) 4 f fd ["self", "standing"] (spLook K C CN) := by
  refine F.ok (CX := L2.CX P w) scLook (fun vs H Q E h => ?_) (fun cdv A outer s H vs Q E hr h => ?_)
  · obtain ⟨_, _, _, rfl, _⟩ := h
    rfl
  · obtain ⟨x, b, v, rfl, hx, ok, cs, q1, q2⟩ := h
    refine ⟨_, pss_cons (ps_expr (pe_meth (pv 0) T.cl mC oC hr bC .nil (passes_call (takes_of rfl rfl rfl rfl) fun _ _ _ _ h => h) (pa_cons (pv 1) pa_nil))) (pss_one (ps_ret (pe_dget (hu_of hr) (pe_fld (pv 0) rfl) (pv 1) (fun _ _ => rfl)))), ?_⟩
    obtain ⟨dx, ts, td, dl, dk, es, h1, h2, h3, h4, h5, h6⟩ := id hx
    refine ⟨_, rfl, x, dx, _, rfl, h1, st_noattr, _, rfl, x, b, v, rfl, hx, ok, fun ⟨z, ez, hz⟩ => ?_, cs, q2⟩
    subst ez
    refine ⟨_, rfl, x, C, dx, _, _, rfl, h1, T.cl, T.n4, st_look4, _, rfl, dk, _, rfl, ?_, q1 z rfl hz⟩
    obtain ⟨y, hy⟩ := Option.isSome_iff_exists.mp (ok.lf.has z hz)
    have e : valV (kvS b.ls) (Sum.inr z : Key) = some (.str (b.look z)) := by
      rw [valV_kvS, hy]
      unfold Sd.look
      rw [hy]
      rfl
    rw [← e]
    exact dget_str (.inl h6)
abbrev NLe : List Str := ["self", "standing", "row", "behind", "position", "deed"]
theorem scLead : FnScope NLe ["self", "standing", "row"] (defScope sLead) := ⟨rfl, rfl, rfl, by decide +kernel, rfl, by decide +kernel, by decide +kernel⟩
theorem ok_lead {C CN fc : Addr} {fdc : FuncData} (G : Gn mg) (T : StF K mg C) (oC : FnOk P w K mg base (L2.CX P w) 3 fc fdc ["self", "value"] (spCheck K C CN)) (bC : L2.Binds K fdc ["self", "value"] []) (mC : Meth K C "_check_standing" fc) (F : FnM K "lead" "Store.lead" sLead f fd) : FnOk P w K mg base (L2.CX P w) 4 f fd ["self", "standing", "row"] (spLead K C CN) := by
  refine F.ok (CX := L2.CX P w) scLead (fun vs H Q E h => ?_) (fun cdv A outer s H vs Q E hr h => ?_)
  · obtain ⟨_, _, _, _, _, rfl, _⟩ := h
    rfl
  · obtain ⟨x, b, v, r, row, rfl, hx, ok, hrow, few, good, cs, q1, q2⟩ := h
    refine ⟨_, pss_cons (ps_expr (pe_meth (pv 0) T.cl mC oC hr bC .nil (passes_call (takes_of rfl rfl rfl rfl) fun _ _ _ _ h => h) (pa_cons (pv 1) pa_nil)))
      (pss_cons (ps_set (i := 3) scLead.nd rfl (.inl rfl) (pv 1))
      (pss_cons (ps_for (passes_of rfl) rfl (pi_enum (by rfl) G.enum (pa_cons (pv 2) pa_nil)) (pg_tup rfl (pgs_cons (pg_name (i := 4) scLead.nd rfl (.inl rfl)) (pgs_cons (pg_name (i := 5) scLead.nd rfl (.inl rfl)) pgs_nil)))
        (pss_cons (ps_if (PW.pt (pw_or (pt_not (pt_val (pe_callB call_isi (by rfl) G.isi bIsi (pa_cons (pv 5) (pa_cons (pe_bltn (v := .ty "str") (by rfl) G.str bStr rfl) pa_nil))))) (pw_or1 (pt_cmp (pc_dnotin (hu_of hr) (pv 5) (pe_fld (pv 0) rfl)))))) (pss_one ps_never) pss_nil)
        (pss_one (ps_set (i := 3) scLead.nd rfl (.inl rfl) (pe_dget (hu_of hr) (pe_dget (hu_of hr) (pe_fld (pv 0) rfl) (pv 5) (fun _ _ => rfl)) (pv 3) (fun _ _ => rfl))))))
      (pss_one (ps_ret (pv 3))))), ?_⟩
    obtain ⟨dx, ts, td, dl, dk, es, h1, h2, h3, h4, h5, h6⟩ := id hx
    refine ⟨_, rfl, x, dx, _, rfl, h1, st_noattr, _, rfl, x, b, v, rfl, hx, ok, fun ⟨z, ez, hz⟩ => ?_, cs, q2⟩
    subst ez
    refine ⟨_, rfl, _, rfl, r, sV row, rfl, hrow, for_it (walk_enum (K := K) (a := r) (xs := sV row)) (fun i σ H' => ∃ p q, σ = [some (.ref x), some (.str z), some (.ref r), some (.str (b.lead z (row.take i))), p, q] ∧ Same H H' ∧ b.lead z (row.take i) ∈ b.names)
      ⟨none, none, rfl, Same.refl H, hz⟩ (fun i σ H' _ ⟨_, _, _, m, _⟩ => m.seq hrow) ?_ ?_⟩
    · rintro i y σ H1 H2 hi ⟨p, q, rfl, m, hin⟩ ⟨T1, y1, y2, rfl, nT, rfl, e1, e2⟩
      obtain rfl := Option.some.inj e1
      obtain ⟨d, hd, rfl⟩ : ∃ d, row[i]? = some d ∧ y2 = .str d := by
        have e2 : (sV row)[i]? = some y2 := e2
        rw [List.getElem?_map] at e2
        cases e : row[i]? with
        | none =>
          rw [e] at e2
          cases e2
        | some u =>
          rw [e] at e2
          exact ⟨u, rfl, (Option.some.inj e2).symm⟩
      have m2 : Same H (upd H1 T1 (.tup [.int (i : Nat), .str d])) := m.trans (same_new nT)
      refine ⟨T1, _, rfl, .inl (.inl upd_same), rfl, _, [.str d], rfl, _, [], rfl, rfl, ?_⟩
      obtain ⟨e, p2, he, hp2, he2, he4⟩ := lead_at h5 ok.dd (good d (List.mem_of_getElem? hd))
      obtain ⟨w1, w2, w3⟩ := ok.di (d, p2) he
      obtain ⟨u, hu⟩ := Option.isSome_iff_exists.mp (w2.has _ hin)
      have e3 : b.lead1 d (b.lead z (row.take i)) = u := by
        unfold Sd.lead1
        rw [hp2]
        show (List.lookup (b.lead z (List.take i row)) p2).getD _ = u
        rw [hu]
        rfl
      refine ⟨_, rfl, .str d, .ty "str", _, _, true, rfl, .ty _, tyS d, kitS, true, rfl, iteF ⟨_, rfl, _, rfl, x, C, dx, _, _, rfl, m2 _ _ h1, T.cl, T.n3, st_look3, dl, _, rfl, dget_str (.inl (m2 _ _ h4)), _, rfl, ?_⟩⟩
      rw [he2]
      have e4 : valV (kvS p2) (Sum.inr (b.lead z (row.take i)) : Key) = some (.str u) := by rw [valV_kvS, hu]; rfl
      have e5 : b.lead z (row.take (i + 1)) = u := by
        rw [List.take_succ, hd]
        unfold Sd.lead at e3 ⊢
        rw [Option.toList_some, List.foldl_append]
        exact e3
      refine iteF ⟨_, rfl, x, C, dx, _, _, rfl, m2 _ _ h1, T.cl, T.n3, st_look3, _, rfl, dl, .ref e, rfl, ?_, _, rfl, e, .str u, rfl, ?_, ?_⟩
      · rw [← he2]
        exact dget_str (.inl (m2 _ _ h4))
      · rw [← e4]
        exact dget_str (.inl (m2 _ _ he4))
      · rw [e5]
        refine ⟨some (.int (i : Nat)), some (.str d), rfl, m2, ?_⟩
        · exact w3 (_, u) (mem_lookup hu)
    · rintro σ H2 ⟨p, q, rfl, m, hin⟩
      rw [List.length_map, List.take_length]
      exact ⟨_, rfl, q1 z rfl hz H2 m⟩
end
end Bs
set_option Elab.async false
set_option linter.all false
set_option maxRecDepth 100000
set_option maxHeartbeats 2000000
namespace L2
namespace Pl
/-! ### the first row that parts: a walk in breadth -/
section
variable {α δ : Type} (step : δ → α → α) (bad : α → Prop) (D : List δ) (s0 : α)
def run (p : α) (r : List δ) : α := r.foldl (fun p d => step d p) p
theorem run_snoc (p : α) (r : List δ) (d : δ) : run step p (r ++ [d]) = step d (run step p r) := by
  unfold run
  rw [List.foldl_append]
  rfl
/-- tab: what was met, with the row that leads there; the first n of them are settled -/
structure Bfs (tab : List (α × List δ)) (n : Nat) : Prop where
  lead : ∀ t ∈ tab, run step s0 t.2 = t.1 ∧ ∀ d ∈ t.2, d ∈ D
  nodup : (tab.map (·.1)).Nodup
  mono : ∀ (i j : Nat) (t u : α × List δ), tab[i]? = some t → tab[j]? = some u → i ≤ j → t.2.length ≤ u.2.length
  near : ∀ (i : Nat) (t u : α × List δ), tab[i]? = some t → tab[n]? = some u → t.2.length ≤ u.2.length + 1
  done : ∀ (i : Nat) (t : α × List δ), i < n → tab[i]? = some t → ¬ bad t.1 ∧ ∀ d ∈ D, ∃ (j : Nat) (u : α × List δ), tab[j]? = some u ∧ u.1 = step d t.1 ∧ u.2.length ≤ t.2.length + 1
  start : ∃ t : α × List δ, tab[0]? = some t ∧ t.1 = s0 ∧ t.2 = []
  le : n ≤ tab.length
  short : ∀ (i : Nat) (t : α × List δ), tab[i]? = some t → t.2.length ≤ i
variable {step bad D s0}
theorem Bfs.cover {tab : List (α × List δ)} {n : Nat} (B : Bfs step bad D s0 tab n) : ∀ (m : Nat) (r : List δ), r.length = m → (∀ d ∈ r, d ∈ D) → (∃ (k : Nat) (t : α × List δ), tab[k]? = some t ∧ t.1 = run step s0 r ∧ t.2.length ≤ r.length) ∨ ∃ (j : Nat) (t : α × List δ), n ≤ j ∧ tab[j]? = some t ∧ t.2.length < r.length := by
  intro m
  induction m with
  | zero =>
    intro r e hr
    obtain rfl := List.length_eq_zero_iff.mp e
    obtain ⟨t, h1, h2, h3⟩ := B.start
    exact .inl ⟨0, t, h1, h2, by rw [h3]; exact Nat.le_refl _⟩
  | succ m ih =>
    intro r e hr
    obtain ⟨q, d, rfl⟩ : ∃ q d, r = q ++ [d] := ⟨_, _, (List.dropLast_concat_getLast (by intro h; rw [h] at e; cases e)).symm⟩
    rw [List.length_append, List.length_singleton] at e
    have hq := ih q (by omega) fun d h => hr d (List.mem_append_left _ h)
    rw [List.length_append, List.length_singleton]
    rcases hq with ⟨k, t, h1, h2, h3⟩ | ⟨j, t, h1, h2, h3⟩
    · by_cases hk : k < n
      · obtain ⟨j, u, a1, a2, a3⟩ := (B.done k t hk h1).2 d (hr d (List.mem_append_right _ (List.mem_singleton.mpr rfl)))
        exact .inl ⟨j, u, a1, by rw [a2, h2, run_snoc], by omega⟩
      · exact .inr ⟨k, t, by omega, h1, by omega⟩
    · exact .inr ⟨j, t, h1, h2, by omega⟩
theorem Bfs.least {tab : List (α × List δ)} {n : Nat} (B : Bfs step bad D s0 tab n) {t : α × List δ} (ht : tab[n]? = some t) {r : List δ} (hr : ∀ d ∈ r, d ∈ D) (hb : bad (run step s0 r)) : t.2.length ≤ r.length := by
  rcases B.cover r.length r rfl hr with ⟨k, u, h1, h2, h3⟩ | ⟨j, u, h1, h2, h3⟩
  · by_cases hk : k < n
    · exact absurd (h2 ▸ hb) (B.done k u hk h1).1
    · have := B.mono n k t u ht h1 (by omega)
      omega
  · have := B.mono n j t u ht h2 h1
    omega
theorem Bfs.none {tab : List (α × List δ)} {n : Nat} (B : Bfs step bad D s0 tab n) (hn : tab.length ≤ n) {r : List δ} (hr : ∀ d ∈ r, d ∈ D) : ¬ bad (run step s0 r) := by
  rcases B.cover r.length r rfl hr with ⟨k, u, h1, h2, h3⟩ | ⟨j, u, h1, h2, h3⟩
  · have := (List.getElem?_eq_some_iff.mp h1).1
    rw [← h2]
    exact (B.done k u (by omega) h1).1
  · have := (List.getElem?_eq_some_iff.mp h2).1
    omega
/-- while the n-th is looked at: what the deeds in ds lead to was met -/
structure Bfs1 (step : δ → α → α) (bad : α → Prop) (D : List δ) (s0 : α) (tab : List (α × List δ)) (n : Nat) (t : α × List δ) (ds : List δ) : Prop where
  b : Bfs step bad D s0 tab n
  at_ : tab[n]? = some t
  ok : ¬ bad t.1
  met : ∀ d ∈ ds, ∃ (j : Nat) (u : α × List δ), tab[j]? = some u ∧ u.1 = step d t.1 ∧ u.2.length ≤ t.2.length + 1
theorem Bfs1.first {tab : List (α × List δ)} {n : Nat} {t : α × List δ} (B : Bfs step bad D s0 tab n) (h : tab[n]? = some t) (ok : ¬ bad t.1) : Bfs1 step bad D s0 tab n t [] := ⟨B, h, ok, fun d hd => by cases hd⟩
theorem Bfs1.next {tab : List (α × List δ)} {n : Nat} {t : α × List δ} (B : Bfs1 step bad D s0 tab n t D) : Bfs step bad D s0 tab (n + 1) where
  lead := B.b.lead
  nodup := B.b.nodup
  mono := B.b.mono
  near := fun i v u hv hu => by
    have h1 := B.b.near i v t hv B.at_
    have h2 := B.b.mono n (n + 1) t u B.at_ hu (Nat.le_succ _)
    omega
  done := fun i v hi hv => by
    by_cases h : i < n
    · exact B.b.done i v h hv
    · obtain rfl : i = n := by omega
      obtain rfl : t = v := Option.some.inj (B.at_.symm.trans hv)
      exact ⟨B.ok, B.met⟩
  start := B.b.start
  le := (List.getElem?_eq_some_iff.mp B.at_).1
  short := B.b.short
theorem Bfs1.old {tab : List (α × List δ)} {n : Nat} {t : α × List δ} {ds : List δ} {d : δ} (B : Bfs1 step bad D s0 tab n t ds) {j : Nat} {u : α × List δ} (hu : tab[j]? = some u) (he : u.1 = step d t.1) : Bfs1 step bad D s0 tab n t (ds ++ [d]) := ⟨B.b, B.at_, B.ok, fun c hc => by
  rcases List.mem_append.mp hc with hc | hc
  · exact B.met c hc
  · rw [List.mem_singleton.mp hc]
    exact ⟨j, u, hu, he, B.b.near j u t hu B.at_⟩⟩
theorem Bfs1.new {tab : List (α × List δ)} {n : Nat} {t : α × List δ} {ds : List δ} {d : δ} (B : Bfs1 step bad D s0 tab n t ds) (hd : d ∈ D) (hn : step d t.1 ∉ tab.map (·.1)) : Bfs1 step bad D s0 (tab ++ [(step d t.1, t.2 ++ [d])]) n t (ds ++ [d]) := by
  have lt := (List.getElem?_eq_some_iff.mp B.at_).1
  have up : ∀ {i : Nat} {u : α × List δ}, tab[i]? = some u → (tab ++ [(step d t.1, t.2 ++ [d])])[i]? = some u := fun {i u} h => by
    rw [List.getElem?_append_left (List.getElem?_eq_some_iff.mp h).1]
    exact h
  have dn : ∀ {i : Nat} {u : α × List δ}, (tab ++ [(step d t.1, t.2 ++ [d])])[i]? = some u → tab[i]? = some u ∨ i = tab.length ∧ u = (step d t.1, t.2 ++ [d]) := fun {i u} h => by
    by_cases hi : i < tab.length
    · rw [List.getElem?_append_left hi] at h
      exact .inl h
    · have h2 := (List.getElem?_eq_some_iff.mp h).1
      rw [List.length_append, List.length_singleton] at h2
      obtain rfl : i = tab.length := by omega
      rw [List.getElem?_append_right (Nat.le_refl _), Nat.sub_self] at h
      exact .inr ⟨rfl, (Option.some.inj h).symm⟩
  have hl := B.b.lead t (List.mem_of_getElem? B.at_)
  refine ⟨⟨fun u hu => ?_, ?_, fun i j v u hv hu hij => ?_, fun i v u hv hu => ?_, fun i v hi hv => ?_, ?_, ?_, fun i v hv => ?_⟩, up B.at_, B.ok, fun c hc => ?_⟩
  · rcases List.mem_append.mp hu with hu | hu
    · exact B.b.lead u hu
    · rw [List.mem_singleton.mp hu]
      refine ⟨by rw [run_snoc, hl.1], fun c hc => ?_⟩
      rcases List.mem_append.mp hc with hc | hc
      · exact hl.2 c hc
      · rw [List.mem_singleton.mp hc]
        exact hd
  · rw [List.map_append, List.nodup_append]
    refine ⟨B.b.nodup, List.nodup_cons.mpr ⟨fun z => (by cases z), .nil⟩, fun a ha b hb e => hn ?_⟩
    have hb : b = step d t.1 := List.mem_singleton.mp hb
    rw [← hb, ← e]
    exact ha
  · rcases dn hv with hv | ⟨e1, e2⟩
    · rcases dn hu with hu | ⟨e3, e4⟩
      · exact B.b.mono i j v u hv hu hij
      · rw [e4, List.length_append, List.length_singleton]
        exact B.b.near i v t hv B.at_
    · rcases dn hu with hu | ⟨e3, e4⟩
      · have := (List.getElem?_eq_some_iff.mp hu).1
        omega
      · rw [e2, e4]
        exact Nat.le_refl _
  · have hu2 : u = t := by
      rcases dn hu with hu | ⟨e3, _⟩
      · exact Option.some.inj (hu.symm.trans B.at_)
      · omega
    rw [hu2]
    rcases dn hv with hv | ⟨e1, e2⟩
    · exact B.b.near i v t hv B.at_
    · rw [e2, List.length_append, List.length_singleton]
      exact Nat.le_refl _
  · rcases dn hv with hv | ⟨e1, _⟩
    · obtain ⟨a1, a2⟩ := B.b.done i v hi hv
      exact ⟨a1, fun c hc => let ⟨j, u, b1, b2, b3⟩ := a2 c hc; ⟨j, u, up b1, b2, b3⟩⟩
    · omega
  · obtain ⟨v, a1, a2⟩ := B.b.start
    exact ⟨v, up a1, a2⟩
  · rw [List.length_append]
    have := B.b.le
    omega
  · rcases dn hv with hv | ⟨e1, e2⟩
    · exact B.b.short i v hv
    · have := B.b.short n t B.at_
      rw [e2, List.length_append, List.length_singleton]
      omega
  · rcases List.mem_append.mp hc with hc | hc
    · obtain ⟨j, u, b1, b2, b3⟩ := B.met c hc
      exact ⟨j, u, up b1, b2, b3⟩
    · rw [List.mem_singleton.mp hc]
      refine ⟨tab.length, (step d t.1, t.2 ++ [d]), ?_, rfl, by rw [List.length_append]; exact Nat.le_refl _⟩
      rw [List.getElem?_append_right (Nat.le_refl _), Nat.sub_self]
      rfl
theorem Bfs.begin : Bfs step bad D s0 [(s0, [])] 0 where
  lead := fun t ht => by
    rw [List.mem_singleton.mp ht]
    exact ⟨rfl, fun d h => by cases h⟩
  nodup := List.nodup_cons.mpr ⟨fun z => (by cases z), .nil⟩
  mono := fun i j t u ht hu _ => by
    rw [List.mem_singleton.mp (List.mem_of_getElem? ht), List.mem_singleton.mp (List.mem_of_getElem? hu)]
    exact Nat.le_refl _
  near := fun i t u ht hu => by
    rw [List.mem_singleton.mp (List.mem_of_getElem? ht)]
    exact Nat.zero_le _
  done := fun i t hi => absurd hi (Nat.not_lt_zero _)
  start := ⟨_, rfl, rfl, rfl⟩
  le := Nat.zero_le _
  short := fun i t h => by
    rw [List.mem_singleton.mp (List.mem_of_getElem? h)]
    exact Nat.zero_le _
end
end Pl
end L2
set_option Elab.async false
set_option linter.all false
set_option maxRecDepth 100000
set_option maxHeartbeats 2000000
namespace L2
namespace Pl
open PySem PySem.Spec PyProof.Rows
abbrev Pr := Str × Str
def Sd.deeds (b : Sd) : List Str := b.ds.map (·.1)
def stepP (b : Sd) (d : Str) (p : Pr) : Pr := (b.lead1 d p.1, b.lead1 d p.2)
def badP (b : Sd) (p : Pr) : Prop := b.look p.1 ≠ b.look p.2
theorem run_lead (b : Sd) : ∀ (r : List Str) (p : Pr), run (stepP b) p r = (b.lead p.1 r, b.lead p.2 r)
  | [], _ => rfl
  | d :: r, p => run_lead b r (stepP b d p)
/-- the row is of deeds, and something else is seen behind it -/
def Parts (b : Sd) (x y : Str) (row : List Str) : Prop := (∀ d ∈ row, d ∈ b.deeds) ∧ b.look (b.lead x row) ≠ b.look (b.lead y row)
theorem typ_str {K : PySem.W.Frag} {H : Hp} {z : Str} {t : Value} (h : TyX K H (.str z) t) : t = .type "str" := by
  cases h with
  | base h => cases h; rfl
theorem not_noSt {K : PySem.W.Frag} {H : Hp} {b : Sd} {z : Str} (hz : z ∈ b.names) : ¬ NoSt K H b (.str z) := by
  rintro (⟨t, ty, kt⟩ | ⟨u, e, hu⟩)
  · rw [typ_str ty, kitS] at kt
    cases kt
  · cases e
    exact hu hz
def spParting (K : PySem.W.Frag) (C CN : Addr) : Sp := fun vs H Q E => ∃ x b v1 v2, vs = [.ref x, v1, v2] ∧ StAt C H x b ∧ b.Ok ∧ ((∃ z, v1 = .str z ∧ z ∈ b.names) ∨ NoSt K H b v1) ∧ ((∃ z, v1 = .str z ∧ z ∈ b.names) → (∃ z, v2 = .str z ∧ z ∈ b.names) ∨ NoSt K H b v2) ∧
  (∀ y z, v1 = .str y → v2 = .str z → y ∈ b.names → z ∈ b.names → (∀ H' p row, Same H H' → H p = none → H' p = some (.lst (sV row)) → Parts b y z row → (∀ r, Parts b y z r → row.length ≤ r.length) → Q (.ref p) H') ∧ ((∀ r, ¬ Parts b y z r) → ∀ H', Same H H' → Q .non H')) ∧
  (NoSt K H b v1 → ∀ d, H d = none → E (.ref CN) (some d) (upd H d (.xd [("value", v1)]))) ∧ ((∃ z, v1 = .str z ∧ z ∈ b.names) → NoSt K H b v2 → ∀ d, H d = none → E (.ref CN) (some d) (upd H d (.xd [("value", v2)])))
abbrev keyP (p : Pr) : List Key := [Sum.inr p.1, Sum.inr p.2]
abbrev kvT (es : List (Pr × Addr)) : List (List Key × V) := es.map fun e => (keyP e.1, V.ref e.2)
def RowAt (H0 H : Hp) (e : Pr × Addr) (t : Pr × List Str) : Prop := e.1 = t.1 ∧ H e.2 = some (.lst (sV t.2)) ∧ H0 e.2 = none
def PairT (H : Hp) (a : Addr) (p : Pr) : Prop := H a = some (.tup [.str p.1, .str p.2])
theorem st_no {ts td dl dk : Addr} {m : Str} (h : Bs.noneB m ["_standings", "_deeds", "_leads", "_looks"] = true) : (stFs ts td dl dk).lookup m = none := by
  have q : ∀ g ∈ (["_standings", "_deeds", "_leads", "_looks"] : List Str), (m == g) = false := fun g hg => beq_eq_false_iff_ne.mpr fun e => (of_decide_eq_true (List.all_eq_true.mp h g hg)) e.symm
  simp only [List.lookup, q "_standings" (by simp), q "_deeds" (by simp), q "_leads" (by simp), q "_looks" (by simp)]
/-- the heap but for the two that change -/
def vw (R W : Addr) (H : Hp) : Hp := del (del H R) W
theorem vw_same {R W : Addr} {H H' : Hp} (m : Same H H') : Same (vw R W H) (vw R W H') := del_mono (del_mono m)
theorem vw_get {R W a : Addr} {H : Hp} {o : HO} (h : vw R W H a = some o) : a ≠ R ∧ a ≠ W ∧ H a = some o := by
  obtain ⟨n, h⟩ := del_some h
  obtain ⟨n2, h⟩ := del_some h
  exact ⟨n2, n, h⟩
theorem vw_of {R W a : Addr} {H : Hp} {o : HO} (n1 : a ≠ R) (n2 : a ≠ W) (h : H a = some o) : vw R W H a = some o := del_of n2 (del_of n1 h)
theorem vw_R {R W : Addr} {H : Hp} {o : HO} : Same (vw R W H) (vw R W (upd H R o)) := fun a x h => by
  obtain ⟨n1, n2, h⟩ := vw_get h
  exact vw_of n1 n2 ((upd_ne n1).trans h)
theorem vw_W {R W : Addr} {H : Hp} {o : HO} : Same (vw R W H) (vw R W (upd H W o)) := fun a x h => by
  obtain ⟨n1, n2, h⟩ := vw_get h
  exact vw_of n1 n2 ((upd_ne n2).trans h)
theorem RowAt.same {H0 H H' : Hp} {e : Pr × Addr} {t : Pr × List Str} (h : RowAt H0 H e t) (m : Same H H') : RowAt H0 H' e t := ⟨h.1, m _ _ h.2.1, h.2.2⟩
def PInv (H0 : Hp) (x R W : Addr) (b : Sd) (p0 : Pr) (m : Nat) (σ : St) (H : Hp) : Prop := ∃ (tab : List (Pr × List Str)) (n : Nat) (es : List (Pr × Addr)) (ws : List Addr) (c5 c6 c7 c8 c9 : Option V),
  σ = [some (.ref x), some (.str p0.1), some (.str p0.2), some (.ref R), some (.ref W), c5, c6, c7, c8, c9] ∧ Same H0 H ∧ H R = some (.dT (kvT es)) ∧ Paired (RowAt H0 (vw R W H)) es tab ∧ H W = some (.lst (ws.map V.ref)) ∧ Paired (PairT (vw R W H)) ws ((tab.drop n).map (·.1)) ∧
  Bfs (stepP b) (badP b) b.deeds p0 tab n ∧ m + n = 26
theorem lead1_in {b : Sd} (ok : b.Ok) {d z : Str} (hd : d ∈ b.deeds) (hz : z ∈ b.names) : b.lead1 d z ∈ b.names := by
  obtain ⟨p, hp, e⟩ := List.mem_map.mp hd
  unfold Sd.lead1
  cases h : b.ds.lookup d with
  | none => exact hz
  | some ps =>
    have hm : (d, ps) ∈ b.ds := by
      have : ∀ (qs : List (Str × List (Str × Str))), qs.lookup d = some ps → (d, ps) ∈ qs := by
        intro qs
        induction qs with
        | nil => intro h; cases h
        | cons q r ih =>
          intro h
          rw [List.lookup_cons] at h
          split at h
          · rename_i e
            have e := eq_of_beq e
            rw [← Option.some.inj h, e]
            exact List.mem_cons_self ..
          · exact List.mem_cons_of_mem _ (ih h)
      exact this _ h
    obtain ⟨_, w2, w3⟩ := ok.di _ hm
    obtain ⟨u, hu⟩ := Option.isSome_iff_exists.mp (w2.has z hz)
    show (ps.lookup z).getD z ∈ b.names
    rw [hu]
    exact w3 (z, u) (mem_lookup hu)
theorem lead_in {b : Sd} (ok : b.Ok) : ∀ {r : List Str} {z : Str}, (∀ d ∈ r, d ∈ b.deeds) → z ∈ b.names → b.lead z r ∈ b.names
  | [], _, _, hz => hz
  | d :: r, z, h, hz => lead_in ok (r := r) (z := b.lead1 d z) (fun c hc => h c (List.mem_cons_of_mem _ hc)) (lead1_in ok (h d (List.mem_cons_self ..)) hz)
theorem tab_in {b : Sd} (ok : b.Ok) {p0 : Pr} (h1 : p0.1 ∈ b.names) (h2 : p0.2 ∈ b.names) {tab : List (Pr × List Str)} {n : Nat} (B : Bfs (stepP b) (badP b) b.deeds p0 tab n) : ∀ t ∈ tab, t.1.1 ∈ b.names ∧ t.1.2 ∈ b.names := fun t ht => by
  obtain ⟨e, hd⟩ := B.lead t ht
  rw [run_lead] at e
  rw [← e]
  exact ⟨lead_in ok hd h1, lead_in ok hd h2⟩
theorem pairs_len (ws us : List Str) : (ws.flatMap fun a => us.map fun c => (a, c)).length = ws.length * us.length := by
  induction ws with
  | nil => simp
  | cons a r ih => rw [List.flatMap_cons, List.length_append, ih, List.length_map, List.length_cons, Nat.succ_mul, Nat.add_comm]
theorem tab_few {b : Sd} (ok : b.Ok) {p0 : Pr} (h1 : p0.1 ∈ b.names) (h2 : p0.2 ∈ b.names) {tab : List (Pr × List Str)} {n : Nat} (B : Bfs (stepP b) (badP b) b.deeds p0 tab n) : tab.length ≤ 25 := by
  have h := nd_le (m := b.names.flatMap fun a => b.names.map fun c => (a, c)) B.nodup fun z hz => by
    obtain ⟨t, ht, rfl⟩ := List.mem_map.mp hz
    obtain ⟨a1, a2⟩ := tab_in ok h1 h2 B t ht
    exact List.mem_flatMap.mpr ⟨_, a1, List.mem_map.mpr ⟨_, a2, rfl⟩⟩
  rw [pairs_len, List.length_map] at h
  have := Nat.mul_le_mul ok.n5 ok.n5
  omega
theorem row_at {H0 H : Hp} {es : List (Pr × Addr)} {tab : List (Pr × List Str)} (h : Paired (RowAt H0 H) es tab) {n : Nat} {t : Pr × List Str} (ht : tab[n]? = some t) : ∃ e, es[n]? = some e ∧ RowAt H0 H e t := by
  have hl := h.length
  obtain ⟨e, he⟩ : ∃ e, es[n]? = some e := ⟨_, List.getElem?_eq_getElem (by have := (List.getElem?_eq_some_iff.mp ht).1; omega)⟩
  obtain ⟨u, hu, r⟩ := L2.paired_get h he
  obtain rfl : t = u := Option.some.inj (ht.symm.trans hu)
  exact ⟨e, he, r⟩
theorem keyP_inj {p q : Pr} (h : keyP p = keyP q) : p = q := by
  injection h with h1 h2
  injection h2 with h2
  exact Prod.ext (Sum.inr.inj h1) (Sum.inr.inj h2)
theorem rows_keys {H0 H : Hp} {es : List (Pr × Addr)} {tab : List (Pr × List Str)} (h : Paired (RowAt H0 H) es tab) : (kvT es).map (·.1) = (tab.map (·.1)).map keyP := by
  induction h with
  | nil => rfl
  | @cons e t es tab r _ ih =>
    show keyP e.1 :: (kvT es).map (·.1) = keyP t.1 :: (tab.map (·.1)).map keyP
    rw [ih, r.1]
theorem kvT_nodup {H0 H : Hp} {es : List (Pr × Addr)} {tab : List (Pr × List Str)} (h : Paired (RowAt H0 H) es tab) (nd : (tab.map (·.1)).Nodup) : ((kvT es).map (·.1)).Nodup := by
  rw [rows_keys h]
  exact List.pairwise_map.mpr (nd.imp fun ne e => ne (keyP_inj e))
theorem val_none {κ : Type} [DecidableEq κ] {kvs : List (κ × V)} {k : κ} (h : ∀ q ∈ kvs, q.1 ≠ k) : valV kvs k = none := by
  unfold valV
  rw [List.find?_eq_none.mpr fun q hq => by rw [decide_eq_true_iff]; exact h q hq]
  rfl
/-- the names of the class that are called: facts of the head -/
structure StM (P : Program) (w : World) (K : PySem.W.Frag) (mg : Str → Option Value) (base : Heap) (C CN : Addr) : Prop where
  look : ∃ f fd, FnOk P w K mg base (L2.CX P w) 4 f fd ["self", "standing"] (spLook K C CN) ∧ L2.Binds K fd ["self", "standing"] [] ∧ Meth K C "look" f
  lead : ∃ f fd, FnOk P w K mg base (L2.CX P w) 4 f fd ["self", "standing", "row"] (spLead K C CN) ∧ L2.Binds K fd ["self", "standing", "row"] [] ∧ Meth K C "lead" f
  std : ∃ p f fd, FnOk P w K mg base CX0 1 f fd ["self"] (spGetF C "_standings") ∧ L2.Binds K fd ["self"] [] ∧ PropOf K C "standings" p f
  dds : ∃ p f fd, FnOk P w K mg base CX0 1 f fd ["self"] (spGetF C "_deeds") ∧ L2.Binds K fd ["self"] [] ∧ PropOf K C "deeds" p f
end Pl
end L2

set_option Elab.async false
set_option linter.all false
set_option maxRecDepth 100000
set_option maxHeartbeats 2000000
namespace L2
namespace Pl
open PySem PySem.Spec PyProof.Rows
def Alike (b : Sd) (y z : Str) : Prop := ∀ r, ¬ Parts b y z r
def spAlike (K : PySem.W.Frag) (C CN : Addr) : Sp := fun vs H Q E => ∃ x b v1 v2, vs = [.ref x, v1, v2] ∧ StAt C H x b ∧ b.Ok ∧ ((∃ z, v1 = .str z ∧ z ∈ b.names) ∨ NoSt K H b v1) ∧ ((∃ z, v1 = .str z ∧ z ∈ b.names) → (∃ z, v2 = .str z ∧ z ∈ b.names) ∨ NoSt K H b v2) ∧
  (∀ y z, v1 = .str y → v2 = .str z → y ∈ b.names → z ∈ b.names → ∀ k H', (k = true ↔ Alike b y z) → Same H H' → Q (.bl k) H') ∧
  (NoSt K H b v1 → ∀ d, H d = none → E (.ref CN) (some d) (upd H d (.xd [("value", v1)]))) ∧ ((∃ z, v1 = .str z ∧ z ∈ b.names) → NoSt K H b v2 → ∀ d, H d = none → E (.ref CN) (some d) (upd H d (.xd [("value", v2)])))
end Pl
end L2
set_option Elab.async false
set_option linter.all false
set_option maxRecDepth 100000
set_option maxHeartbeats 2000000
namespace L2
namespace Pl
open PySem PySem.Spec PyProof.Rows
/-! ### classes of a likeness, by their first ones -/
structure Eqv (R : Str → Str → Bool) : Prop where
  refl : ∀ a, R a a = true
  symm : ∀ a b, R a b = true → R b a = true
  trans : ∀ a b c, R a b = true → R b c = true → R a c = true
section
variable {R : Str → Str → Bool}
def grp (R : Str → Str → Bool) (ns : List Str) (s : Str) : List Str := ns.filter fun o => R o s
def fstG (R : Str → Str → Bool) (ns : List Str) (s : Str) : Str := (grp R ns s).headD s
def firsts (R : Str → Str → Bool) (ns l : List Str) : List Str := l.filter fun s => decide (fstG R ns s = s)
theorem grp_eq (q : Eqv R) {ns : List Str} {a b : Str} (h : R a b = true) : grp R ns a = grp R ns b := by
  unfold grp
  congr 1
  funext o
  rw [Bool.eq_iff_iff]
  exact ⟨fun z => q.trans _ _ _ z h, fun z => q.trans _ _ _ z (q.symm _ _ h)⟩
theorem fst_mem (q : Eqv R) {ns : List Str} {s : Str} (hs : s ∈ ns) : ∃ r, grp R ns s = fstG R ns s :: r := by
  have h : s ∈ grp R ns s := List.mem_filter.mpr ⟨hs, q.refl s⟩
  unfold fstG
  cases e : grp R ns s with
  | nil => rw [e] at h; cases h
  | cons a r => exact ⟨r, rfl⟩
theorem fst_like (q : Eqv R) {ns : List Str} {s : Str} (hs : s ∈ ns) : fstG R ns s ∈ ns ∧ R (fstG R ns s) s = true := by
  obtain ⟨r, h⟩ := fst_mem q hs
  have : fstG R ns s ∈ grp R ns s := by rw [h]; exact List.mem_cons_self ..
  exact List.mem_filter.mp this
theorem fst_fst (q : Eqv R) {ns : List Str} {s : Str} (hs : s ∈ ns) : fstG R ns (fstG R ns s) = fstG R ns s := by
  have h := fst_like q hs
  have e := grp_eq q (ns := ns) h.2
  obtain ⟨r, h2⟩ := fst_mem q hs
  show (grp R ns (fstG R ns s)).headD _ = _
  rw [e, h2]
  rfl
theorem fst_ahead (q : Eqv R) {pre post : List Str} {s : Str} (nd : (pre ++ s :: post).Nodup) : fstG R (pre ++ s :: post) s = s ∨ fstG R (pre ++ s :: post) s ∈ firsts R (pre ++ s :: post) pre := by
  have hs : s ∈ pre ++ s :: post := List.mem_append_right _ (List.mem_cons_self ..)
  have ff := fst_fst q hs
  obtain ⟨r, h⟩ := fst_mem q hs
  have e : grp R (pre ++ s :: post) s = (pre.filter fun o => R o s) ++ s :: post.filter fun o => R o s := by
    unfold grp
    rw [List.filter_append, List.filter_cons_of_pos (p := fun o => R o s) (q.refl s)]
  rw [e] at h
  cases hp : pre.filter fun o => R o s with
  | nil =>
    rw [hp] at h
    exact .inl (List.cons.inj h).1.symm
  | cons a t =>
    rw [hp] at h
    have h2 : a = fstG R (pre ++ s :: post) s := (List.cons.inj h).1
    have ha : a ∈ pre := (List.mem_filter.mp (by rw [hp]; exact List.mem_cons_self ..)).1
    exact .inr (List.mem_filter.mpr ⟨h2 ▸ ha, decide_eq_true ff⟩)
end
/-- likeness as a Bool -/
noncomputable def alk (b : Sd) (y z : Str) : Bool := @decide (Alike b y z) (Classical.propDecidable _)
theorem alk_iff {b : Sd} {y z : Str} : alk b y z = true ↔ Alike b y z := by
  unfold alk
  exact @decide_eq_true_iff _ (Classical.propDecidable _)
theorem alike_iff {b : Sd} {y z : Str} : Alike b y z ↔ ∀ r, (∀ d ∈ r, d ∈ b.deeds) → b.look (b.lead y r) = b.look (b.lead z r) := by
  constructor
  · intro h r hr
    exact Classical.byContradiction fun e => h r ⟨hr, e⟩
  · intro h r ⟨hr, e⟩
    exact e (h r hr)
theorem alk_eqv (b : Sd) : Eqv (alk b) where
  refl := fun a => alk_iff.mpr (alike_iff.mpr fun r _ => rfl)
  symm := fun a c h => alk_iff.mpr (alike_iff.mpr fun r hr => (alike_iff.mp (alk_iff.mp h) r hr).symm)
  trans := fun a c d h1 h2 => alk_iff.mpr (alike_iff.mpr fun r hr => (alike_iff.mp (alk_iff.mp h1) r hr).trans (alike_iff.mp (alk_iff.mp h2) r hr))
/-- the same of heaps that only grow -/
theorem lc_sm {J : It} {G : Hp → Prop} {xs : List V} (w : Walk J xs.length G (YAt xs)) {g : TG} {tt : TT} {te : TE} {vs : List Nat} {σ : St} {H1 : Hp} {D : Addr} {Qd : Hp → Prop}
    (keep : V → Bool) (R : V → V → Prop) (hD : H1 D = none) (hG : ∀ H, Same H1 H → G H) (hlen : xs.length ≤ 1000)
    (step : ∀ (x : V) (H' : Hp) (N : Hp → Prop) (Y : VK), x ∈ xs → Same H1 H' → (∃ o, H' D = some o) → (keep x = false → ∀ H3, Same H1 H3 → H3 D = H' D → N H3) → (keep x = true → ∀ y H4, Same H1 H4 → H4 D = H' D → R x y → Y y H4) →
      g x (wipe σ vs) H' fun σ2 H2 => wipe σ2 vs = wipe σ vs ∧ tt σ2 H2 fun b H3 => if b = true then te σ2 H3 Y else N H3)
    (hd : ∀ H ys, Same H1 H → H D = some (.lst ys) → Paired R (xs.filter keep) ys → Qd H) :
    ∃ W : Nat → Nat → Hp → Prop, (∃ m, W 0 m (upd H1 D (.lst []))) ∧ ∀ i m H, W i m H →
      (J.stop i H ∧ Qd H) ∨ (J.go i H ∧ ∃ Nx : Hp → Prop, (∀ H', Nx H' → ∃ m', m' < m ∧ W (i + 1) m' H') ∧ ∀ x H', J.yld i H x H' → g x (wipe σ vs) H' fun σ2 H2 => wipe σ2 vs = wipe σ vs ∧ tt σ2 H2 fun b H3 =>
        if b = true then te σ2 H3 fun y H4 => ∃ acc, H4 D = some (.lst acc) ∧ acc.length < sizeLine ∧ Nx (upd H4 D (.lst (acc ++ [y]))) else Nx H3) :=
  lc_gen w (fun H => Same H1 H ∧ ∃ o, H D = some o) keep R ⟨same_new hD, _, upd_same⟩ (fun H acc p _ y => ⟨same_wr p.1 hD, _, upd_same⟩) (fun H p => hG H p.1) hlen
    (fun x H' N Y hx p kn ky => step x H' N Y hx p.1 p.2 (fun e H3 m3 e3 => kn e H3 ⟨m3, p.2.elim fun o q => ⟨o, e3.trans q⟩⟩ e3) (fun e y H4 m4 e4 r => ky e y H4 ⟨m4, p.2.elim fun o q => ⟨o, e4.trans q⟩⟩ e4 r))
    (fun H ys p => hd H ys p.1)
theorem passF {X : Cx} : Passes (L2.CX X.prog X.w) X E0 := fun _ _ _ _ _ _ _ ⟨_, _, _, _, _, _, _, _, _, _, _, _, h⟩ => h.elim
def GrpAt (H0 H : Hp) (R : Str → Str → Bool) (ns : List Str) (e : Str × Addr) (k : Str) : Prop := e.1 = k ∧ H e.2 = some (.lst (sV (grp R ns k))) ∧ H0 e.2 = none
theorem GrpAt.same {H0 H H' : Hp} {R : Str → Str → Bool} {ns : List Str} {e : Str × Addr} {k : Str} (h : GrpAt H0 H R ns e k) (m : Same H H') : GrpAt H0 H' R ns e k := ⟨h.1, m _ _ h.2.1, h.2.2⟩
theorem putK_repl {gs : List (Str × Addr)} {k : Str} {D : Addr} (h : ∃ e ∈ gs, e.1 = k) : putK (kvR gs) (Sum.inr k : Key) (.ref D) = kvR (gs.map fun e => if e.1 = k then (e.1, D) else e) := by
  unfold putK
  rw [if_pos]
  · show List.map _ (List.map _ gs) = List.map _ (List.map _ gs)
    rw [List.map_map, List.map_map]
    refine List.map_congr_left fun e _ => ?_
    show (if (Sum.inr e.1 : Key) = Sum.inr k then ((Sum.inr e.1 : Key), V.ref D) else (Sum.inr e.1, V.ref e.2)) = (Sum.inr (if e.1 = k then (e.1, D) else e).1, V.ref (if e.1 = k then (e.1, D) else e).2)
    by_cases c : e.1 = k
    · rw [if_pos (congrArg Sum.inr c), if_pos c]
    · rw [if_neg (fun z => c (Sum.inr.inj z)), if_neg c]
  · obtain ⟨e, he, hk⟩ := h
    exact List.any_eq_true.mpr ⟨(Sum.inr e.1, V.ref e.2), List.mem_map.mpr ⟨e, he, rfl⟩, decide_eq_true (congrArg Sum.inr hk)⟩
theorem grp_repl {H0 H : Hp} {R : Str → Str → Bool} {ns : List Str} {gs : List (Str × Addr)} {ks : List Str} (h : Paired (GrpAt H0 H R ns) gs ks) {k : Str} {D : Addr} (hD : H D = some (.lst (sV (grp R ns k)))) (h0 : H0 D = none) : Paired (GrpAt H0 H R ns) (gs.map fun e => if e.1 = k then (e.1, D) else e) ks := by
  induction h with
  | nil => exact .nil
  | @cons e q gs ks g _ ih =>
    refine .cons ?_ ih
    show GrpAt H0 H R ns (if e.1 = k then (e.1, D) else e) q
    by_cases c : e.1 = k
    · rw [if_pos c]
      refine ⟨g.1, ?_, h0⟩
      rw [← g.1, c]
      exact hD
    · rw [if_neg c]
      exact g
theorem grp_keys {H0 H : Hp} {R : Str → Str → Bool} {ns : List Str} {gs : List (Str × Addr)} {ks : List Str} (h : Paired (GrpAt H0 H R ns) gs ks) : gs.map (·.1) = ks := by
  induction h with
  | nil => rfl
  | @cons e q gs ks g _ ih => rw [List.map_cons, ih, g.1]
noncomputable def keepA (b : Sd) (s : Str) : V → Bool
  | .str o => alk b o s
  | _ => false
theorem keepA_filter {b : Sd} {s : Str} : ∀ ns : List Str, (sV ns).filter (keepA b s) = sV (grp (alk b) ns s)
  | [] => rfl
  | a :: r => by
    have ih := keepA_filter (b := b) (s := s) r
    show List.filter (keepA b s) (V.str a :: sV r) = sV (List.filter (fun o => alk b o s) (a :: r))
    rw [List.filter_cons, List.filter_cons, ih]
    show (if alk b a s = true then _ else _) = _
    by_cases c : alk b a s = true
    · rw [if_pos c, if_pos c]
      rfl
    · rw [if_neg c, if_neg c]
      rfl
def spClasses (C : Addr) : Sp := fun vs H Q _ => ∃ x b, vs = [.ref x] ∧ StAt C H x b ∧ b.Ok ∧ ∀ H' p (gs : List (Str × Addr)), Same H H' → H p = none → H' p = some (.lst (gs.map fun e => V.ref e.2)) → (∀ e ∈ gs, e.2 ≠ p) → Paired (GrpAt H H' (alk b) b.names) gs (firsts (alk b) b.names b.names) → Q (.ref p) H'
end Pl
end L2
set_option Elab.async false
set_option linter.all false
set_option maxRecDepth 100000
set_option maxHeartbeats 2000000
namespace L2
namespace Pl
open PySem PySem.Spec PyProof.Rows
/-! ### the store that a drawn base makes -/
def sdOf (b : Bd) : Sd := ⟨b.names, b.deeds.map fun d => (d.1, (b.names.zip d.2).reverse), (b.names.zip b.looks).reverse⟩
theorem zip_keys : ∀ {ws us : List Str}, us.length = ws.length → (ws.zip us).map (·.1) = ws
  | [], _, _ => by simp
  | _ :: _, [], h => by cases h
  | a :: ws, c :: us, h => by rw [List.zip_cons_cons, List.map_cons, zip_keys (Nat.succ.inj h)]
theorem lookup_some {x : Str} : ∀ {ps : List (Str × Str)}, x ∈ ps.map (·.1) → (ps.lookup x).isSome = true
  | p :: r, h => by
    rw [List.lookup_cons]
    split
    · rfl
    · rename_i e
      rcases List.mem_cons.mp h with h | h
      · rw [h, beq_self_eq_true] at e
        cases e
      · exact lookup_some h
theorem full_zip {ws us : List Str} (h : us.length = ws.length) : Full (ws.zip us).reverse ws where
  len := by rw [List.length_reverse, List.length_zip, h, Nat.min_self]
  has := fun x hx => lookup_some (by rw [List.map_reverse, List.mem_reverse, zip_keys h]; exact hx)
theorem zip_right {ws us : List Str} {p : Str × Str} (h : p ∈ (ws.zip us).reverse) : p.2 ∈ us := (List.of_mem_zip (List.mem_reverse.mp h)).2
theorem sdOf_ok {b : Bd} (ok : b.Ok) : (sdOf b).Ok where
  n1 := ok.n1
  n5 := ok.n5
  nd := ok.nd
  nn := ok.nn
  d1 := by show 1 ≤ (b.deeds.map _).length; rw [List.length_map]; exact ok.d1
  d4 := by show (b.deeds.map _).length ≤ 4; rw [List.length_map]; exact ok.d4
  dd := by
    show ((b.deeds.map fun d => (d.1, (b.names.zip d.2).reverse)).map (·.1)).Nodup
    rw [List.map_map]
    exact ok.dd
  di := fun p hp => by
    obtain ⟨d, hd, rfl⟩ := List.mem_map.mp hp
    exact ⟨ok.dn d hd, full_zip (ok.dl d hd), fun q hq => ok.di d hd q.2 (zip_right hq)⟩
  lf := full_zip ok.ll
  ln := fun p hp => ok.ln p.2 (zip_right hp)
theorem mergeK_kvS : ∀ {ps qs : List (Str × Str)}, ((qs ++ ps).map (·.1)).Nodup → mergeK (kvS qs) (kvS ps) = kvS (qs ++ ps)
  | [], qs, _ => by rw [List.append_nil]; rfl
  | p :: ps, qs, h => by
    have e : putK (kvS qs) (Sum.inr p.1 : Key) (.str p.2) = kvS (qs ++ [p]) := by
      rw [Pl.putK_end]
      · show kvS qs ++ [(Sum.inr p.1, V.str p.2)] = List.map _ (qs ++ [p])
        rw [List.map_append]
        rfl
      · intro q hq z
        obtain ⟨u, hu, rfl⟩ := List.mem_map.mp hq
        rw [List.map_append, List.nodup_append] at h
        exact h.2.2 u.1 (List.mem_map_of_mem hu) p.1 (List.mem_cons_self ..) (Sum.inr.inj z)
    show mergeK (putK (kvS qs) (Sum.inr p.1) (.str p.2)) (kvS ps) = _
    rw [e, mergeK_kvS (qs := qs ++ [p]) (by rw [List.append_assoc]; exact h), List.append_assoc]
    rfl
theorem zip_sV {ws us : List Str} : (sV ws).zip (sV us) = (ws.zip us).map fun p => (V.str p.1, V.str p.2) := by
  induction ws generalizing us with
  | nil => rfl
  | cons a ws ih =>
    cases us with
    | nil => rfl
    | cons c us =>
      show (V.str a, V.str c) :: (sV ws).zip (sV us) = _
      rw [ih]
      rfl
theorem paired_rev {α β : Type} {F : α → β → Prop} : ∀ {xs : List α} {ys : List β}, Paired F xs ys → Paired F xs.reverse ys.reverse
  | _, _, .nil => .nil
  | _, _, .cons h t => by
    rw [List.reverse_cons, List.reverse_cons]
    exact (paired_rev t).snoc h
/-- the pairs that were laid, the other way round, as a dict's entries -/
theorem pairs_rev {K : PySem.W.Frag} {H : Hp} {ts : List Addr} {ws us : List Str} (h : Paired (fun t (q : V × V) => H t = some (.tup [q.1, q.2])) ts ((sV ws).zip (sV us))) : Paired (fun p (kv : Key × V) => SqT K H p [kV kv.1, kv.2]) ts.reverse (kvS (ws.zip us).reverse) := by
  rw [zip_sV] at h
  have h2 : ∀ {ts : List Addr} {ps : List (Str × Str)}, Paired (fun t (q : V × V) => H t = some (.tup [q.1, q.2])) ts (ps.map fun p => (V.str p.1, V.str p.2)) → Paired (fun p (kv : Key × V) => SqT K H p [kV kv.1, kv.2]) ts (kvS ps) := by
    intro ts ps
    induction ps generalizing ts with
    | nil =>
      intro h
      cases h
      exact .nil
    | cons p r ih =>
      intro h
      cases h with
      | cons a t => exact .cons (SqT.up a) (ih t)
  have h3 := paired_rev (h2 h)
  rw [show (kvS (ws.zip us)).reverse = kvS (ws.zip us).reverse from List.map_reverse.symm] at h3
  exact h3
def spMade (K : PySem.W.Frag) (C : Addr) : Sp := fun vs H Q _ => ∃ a b, vs = [.ref a] ∧ BdAt K H a b ∧ b.Ok ∧ ∀ H' x, Same H H' → H x = none → StAt C H' x (sdOf b) → Q (.ref x) H'
end Pl
end L2
namespace Bs
open PySem PySem.Spec PyProof.Rows L2 L2.Pl
section
variable {P : Program} {w : World} {K : PySem.W.Frag} {mg : Str → Option Value} {base : Heap} {f : Addr} {fd : FuncData}
theorem scMade : FnScope ["base", "deeds", "name", "leads"] ["base"] (defScope sMade) := ⟨rfl, rfl, rfl, by decide +kernel, rfl, by decide +kernel, by decide +kernel⟩
theorem ok_made {C fi : Addr} {fdi : FuncData} (G : Gn mg) (T : StF K mg C) (M : Mk K C fi) (oI : FnOk P w K mg base CX0 4 fi fdi ["self", "standings", "deeds", "looks"] (spInit C)) (bI : L2.Binds K fdi ["self", "standings", "deeds", "looks"] []) (F : FnP K "_law_made" sMade f fd) : FnOk P w K mg base CX0 6 f fd ["base"] (spMade K C) := by
  refine F.ok scMade (fun vs H Q E h => ?_) (fun cdv A outer s H vs Q E hr h => ?_)
  · obtain ⟨_, _, rfl, _⟩ := h
    rfl
  · obtain ⟨a, b, rfl, ⟨an, ad, al, ps, h1, ⟨on, h2n, _⟩, h3, h4, h5⟩, ok, q⟩ := h
    have h2 : SqT K H an (sV b.names) := .inl (.inr ⟨on, h2n⟩)
    refine ⟨_, PSs.nox (pss_cons (ps_set (i := 1) scMade.nd rfl (.inl rfl) pe_dnewK)
      (pss_cons (ps_for PassesOwn.never rfl (pi_tup (pe_ix ix_tup (pv 0) pe_int (fun _ _ => rfl))) (pg_tup rfl (pgs_cons (pg_name (i := 2) scMade.nd rfl (.inl rfl)) (pgs_cons (pg_name (i := 3) scMade.nd rfl (.inl rfl)) pgs_nil)))
        (pss_one (ps_dput (hu_of hr) (pv 1) (pv 2) (pe_callTy (call_dictP rfl) (by rfl) G.dict bDict (pa_cons (pe_revL (pe_listZip rfl (by rfl) G.list (by rfl) G.zip (pa_cons (pe_ix ix_tup (pv 0) pe_int (fun _ _ => rfl)) (pa_cons (pv 3) pa_nil)))) pa_nil)) rfl)))
      (pss_one (ps_ret (pe_make M oI hr (by rfl) T.gC bI .nil pass0 (pa_cons (pe_callTy call_list_of (by rfl) G.list bList (pa_cons (pe_ix ix_tup (pv 0) pe_int (fun _ _ => rfl)) pa_nil)) (pa_cons (pv 1) (pa_cons (pe_callTy (call_dictP rfl) (by rfl) G.dict bDict (pa_cons (pe_revL (pe_listZip rfl (by rfl) G.list (by rfl) G.zip (pa_cons (pe_ix ix_tup (pv 0) pe_int (fun _ _ => rfl)) (pa_cons (pe_ix ix_tup (pv 0) pe_int (fun _ _ => rfl)) pa_nil)))) pa_nil)) pa_nil)))))))), ?_⟩
    have nl : (sV b.names).length = b.names.length := List.length_map _
    have ndD : (b.deeds.map (·.1)).Nodup := ok.dd
    refine fun D hD => ?_
    have m0 : Same H (upd H D (.dK [])) := same_new hD
    refine ⟨_, rfl, a, _, 1, .ref ad, rfl, rfl, seqT_same h1 m0, atI_nat (j := 1) rfl, ad, rfl, ⟨_, seqT_same h3 m0⟩, ?_⟩
    have lps : ps.length = b.deeds.length := h4.length
    refine for_tup (K := K) (a := ad) (xs := ps) (fun i σ H' => ∃ (es : List (Str × Addr)) (c2 c3 : Option V), σ = [some (.ref a), some (.ref D), c2, c3] ∧ Same H H' ∧ H' D = some (.dK (kvR es)) ∧ Paired (DeedAt (del H' D)) es ((sdOf b).ds.take i))
      ⟨[], none, none, rfl, m0, upd_same, .nil⟩ (fun i σ H' _ ⟨_, _, _, _, m, _⟩ => seqT_same h3 m) ?_ ?_
    · rintro i y σ H1 hi ⟨es, c2, c3, rfl, m1, D1, p1⟩
      obtain ⟨d, hd, t, l, rfl, ht, hl⟩ := L2.paired_get h4 hi
      have hdin := List.mem_of_getElem? hd
      refine ⟨t, _, rfl, seqT_same ht m1, rfl, _, [.ref l], rfl, _, [], rfl, rfl, ?_⟩
      have dl := ok.dl d hdin
      have n1 := ok.n1
      have n5 := ok.n5
      refine ⟨_, rfl, a, _, 0, .ref an, rfl, rfl, seqT_same h1 m1, atI_nat (j := 0) rfl, _, rfl, an, l, sV b.names, sV d.2, rfl, seqT_same h2 m1, seqT_same hl m1, by rw [List.length_map, List.length_map, dl], by rw [nl]; omega, by rw [nl]; omega, fun H2 p tss m2 np hp prs => ?_⟩
      refine ⟨p, _, rfl, SqL.of hp, fun p2 hp2 => ?_⟩
      have s3 : Same H2 (upd H2 p2 (.lst (tss.map V.ref).reverse)) := same_new hp2
      refine ⟨p2, tss.reverse, kvS (b.names.zip d.2).reverse, rfl, SqL.of (by rw [upd_same, List.map_reverse]), (pairs_rev prs).mono fun _ _ q => seqT_same q s3, fun d2 hd2 => ?_⟩
      have m3 := m2.trans s3
      have mk : mergeK [] (kvS (b.names.zip d.2).reverse) = kvS (b.names.zip d.2).reverse := mergeK_kvS (qs := []) (by
        rw [List.nil_append, List.map_reverse, zip_keys dl]
        exact (List.reverse_perm _).nodup_iff.mpr ok.nd)
      rw [mk]
      have s4 := m3.trans (same_new (o := .dK (kvS (b.names.zip d.2).reverse)) hd2)
      have D4 := s4 _ _ D1
      have nD : d2 ≠ D := (ne_of_none (m3 _ _ D1) hd2).symm
      have d20 : H1 d2 = none := m3.free hd2
      have at2 : (upd (upd H2 p2 (.lst (tss.map V.ref).reverse)) d2 (.dK (kvS (b.names.zip d.2).reverse))) d2 = some (.dK (kvS (b.names.zip d.2).reverse)) := upd_same
      generalize upd (upd H2 p2 (.lst (tss.map V.ref).reverse)) d2 (.dK (kvS (b.names.zip d.2).reverse)) = H4 at *
      have les : es.length ≤ 1000 := by
        have h8 := p1.length
        rw [List.length_take] at h8
        have h9 : (sdOf b).ds.length = b.deeds.length := List.length_map _
        have := ok.d4
        omega
      refine ⟨_, rfl, _, rfl, D, _, rfl, DPut.k (k := Sum.inr d.1) D4 (small1000 (by rw [List.length_map]; exact les)), ?_⟩
      have hds : (sdOf b).ds[i]? = some (d.1, (b.names.zip d.2).reverse) := by
        show (b.deeds.map _)[i]? = _
        rw [List.getElem?_map, hd]
        rfl
      have tk : (sdOf b).ds.take (i + 1) = (sdOf b).ds.take i ++ [(d.1, (b.names.zip d.2).reverse)] := by
        rw [List.take_succ, hds]
        rfl
      have new : ∀ q ∈ kvR es, q.1 ≠ (Sum.inr d.1 : Key) := fun q hq z => by
        obtain ⟨e, he, rfl⟩ := List.mem_map.mp hq
        obtain ⟨p3, hp3, e4⟩ := paired_left p1 he
        obtain ⟨j, hj⟩ := List.mem_iff_getElem?.mp hp3
        rw [List.getElem?_take] at hj
        split at hj
        · rename_i hji
          have a1 : ((sdOf b).ds.map (·.1))[j]? = some d.1 := by rw [List.getElem?_map, hj]; exact congrArg some (e4.1.symm.trans (Sum.inr.inj z))
          have a2 : ((sdOf b).ds.map (·.1))[i]? = some d.1 := by rw [List.getElem?_map, hds]; rfl
          have := (List.getElem?_inj (List.getElem?_eq_some_iff.mp a1).1 (sdOf_ok ok).dd).mp (a1.trans a2.symm)
          omega
        · cases hj
      rw [Pl.putK_end new]
      refine ⟨es ++ [(d.1, d2)], some (.str d.1), some (.ref l), rfl, same_wr (m1.trans s4) hD, ?_, ?_⟩
      · rw [upd_same]
        show some (HO.dK (kvR es ++ [(Sum.inr d.1, V.ref d2)])) = some (HO.dK (List.map _ (es ++ [(d.1, d2)])))
        rw [List.map_append]
        rfl
      · rw [tk]
        exact (p1.mono fun _ _ q => q.same ((del_mono s4).trans del_upd0)).snoc ⟨rfl, del_of nD ((upd_ne nD).trans at2)⟩
    · rintro σ H1 ⟨es, c2, c3, rfl, m1, D1, p1⟩
      have n1 := ok.n1
      have n5 := ok.n5
      rw [lps, show b.deeds.length = (sdOf b).ds.length from (List.length_map _).symm, List.take_length] at p1
      refine ⟨_, rfl, a, _, 0, .ref an, rfl, rfl, seqT_same h1 m1, atI_nat (j := 0) rfl, an, _, rfl, .inr (seqT_same h2 m1), fun la hla => ?_⟩
      have m2 : Same H1 (upd H1 la (.lst (sV b.names))) := same_new hla
      have la2 : (upd H1 la (.lst (sV b.names))) la = some (.lst (sV b.names)) := upd_same
      generalize upd H1 la (.lst (sV b.names)) = H2 at *
      have m12 := m1.trans m2
      refine ⟨_, rfl, _, rfl, a, _, 0, .ref an, rfl, rfl, seqT_same h1 m12, atI_nat (j := 0) rfl, _, rfl, a, _, 2, .ref al, rfl, rfl, seqT_same h1 m12, atI_nat (j := 2) rfl, an, al, sV b.names, sV b.looks, rfl, seqT_same h2 m12, seqT_same h5 m12, by rw [List.length_map, List.length_map, ok.ll], by rw [nl]; omega, by rw [nl]; omega, fun H3 p tss m3 np hp prs => ?_⟩
      refine ⟨p, _, rfl, SqL.of hp, fun p2 hp2 => ?_⟩
      have s4 : Same H3 (upd H3 p2 (.lst (tss.map V.ref).reverse)) := same_new hp2
      refine ⟨p2, tss.reverse, kvS (b.names.zip b.looks).reverse, rfl, SqL.of (by rw [upd_same, List.map_reverse]), (pairs_rev prs).mono fun _ _ q => seqT_same q s4, fun d2 hd2 => ?_⟩
      have mk : mergeK [] (kvS (b.names.zip b.looks).reverse) = kvS (b.names.zip b.looks).reverse := mergeK_kvS (qs := []) (by
        rw [List.nil_append, List.map_reverse, zip_keys ok.ll]
        exact (List.reverse_perm _).nodup_iff.mpr ok.nd)
      rw [mk]
      have s25 := m3.trans (s4.trans (same_new (o := .dK (kvS (b.names.zip b.looks).reverse)) hd2))
      have at2 : (upd (upd H3 p2 (.lst (tss.map V.ref).reverse)) d2 (.dK (kvS (b.names.zip b.looks).reverse))) d2 = some (.dK (kvS (b.names.zip b.looks).reverse)) := upd_same
      generalize upd (upd H3 p2 (.lst (tss.map V.ref).reverse)) d2 (.dK (kvS (b.names.zip b.looks).reverse)) = H5 at *
      refine fun x dx nx ndx nex => ?_
      have m5 := m12.trans s25
      have s6 : Same H5 (upd (upd H5 dx (.own x)) x (.ins C dx [])) := same_wr (same_new ndx) nx
      have D5 := (m2.trans s25) _ _ D1
      have p5 : Paired (DeedAt (upd (upd H5 dx (.own x)) x (.ins C dx []))) es (sdOf b).ds := p1.mono fun _ _ q => q.same (Same.trans del_all ((m2.trans s25).trans s6))
      refine ⟨H5, x, dx, la, D, d2, es, sdOf b, rfl, s6, nx, upd_same, s6 _ _ (s25 _ _ la2), s6 _ _ D5, p5, fun e he z => ?_, s6 _ _ at2, sdOf_ok ok, fun H6 m6 hst => ⟨rfl, q H6 x (m5.trans m6) (m5.free nx) hst⟩⟩
      obtain ⟨p3, _, e4⟩ := paired_left p1 he
      exact (del_some e4.2).1 z
end
end Bs
set_option Elab.async false
set_option linter.all false
set_option maxRecDepth 100000
set_option maxHeartbeats 2000000
namespace L2
namespace Pl
open PySem PySem.Spec PyProof.Rows
/-- the j-th of a nodup row is looked up as the j-th -/
theorem zip_at {ws us : List Str} (nd : ws.Nodup) (hl : us.length = ws.length) {j : Nat} {z u : Str} (hz : ws[j]? = some z) (hu : us[j]? = some u) : (ws.zip us).reverse.lookup z = some u := by
  have hin : (z, u) ∈ (ws.zip us).reverse := List.mem_reverse.mpr (List.mem_of_getElem? (i := j) (List.getElem?_zip_eq_some.mpr ⟨hz, hu⟩))
  have nd2 : ((ws.zip us).reverse.map (·.1)).Nodup := by
    rw [List.map_reverse, zip_keys hl]
    exact (List.reverse_perm _).nodup_iff.mpr nd
  have : ∀ {ps : List (Str × Str)}, (ps.map (·.1)).Nodup → (z, u) ∈ ps → ps.lookup z = some u := by
    intro ps
    induction ps with
    | nil => intro _ h; cases h
    | cons p r ih =>
      intro nd h
      rw [List.map_cons] at nd
      obtain ⟨n1, n2⟩ := List.nodup_cons.mp nd
      rw [List.lookup_cons]
      rcases List.mem_cons.mp h with h | h
      · rw [← h, beq_self_eq_true]
      · have : (z == p.1) = false := beq_eq_false_iff_ne.mpr fun e => n1 (e ▸ List.mem_map_of_mem (f := (·.1)) h)
        rw [this]
        exact ih n2 h
  exact this nd2 hin
theorem idx_of {ws : List Str} (nd : ws.Nodup) {z : Str} (hz : z ∈ ws) : ∃ j : Nat, ws[j]? = some z ∧ ∀ m : Nat, m < j → ws[m]? ≠ some z := by
  obtain ⟨j, hj⟩ := List.mem_iff_getElem?.mp hz
  refine ⟨j, hj, fun m hm e => ?_⟩
  have := (List.getElem?_inj (List.getElem?_eq_some_iff.mp e).1 nd).mp (e.trans hj.symm)
  omega
theorem look_at {b : Bd} (ok : b.Ok) {j : Nat} {z u : Str} (hz : b.names[j]? = some z) (hu : b.looks[j]? = some u) : (sdOf b).look z = u := by
  show ((b.names.zip b.looks).reverse.lookup z).getD z = u
  rw [zip_at ok.nd ok.ll hz hu]
  rfl
theorem lead1_at {b : Bd} (ok : b.Ok) {d : Str × List Str} (hd : d ∈ b.deeds) {j : Nat} {z u : Str} (hz : b.names[j]? = some z) (hu : d.2[j]? = some u) : (sdOf b).lead1 d.1 z = u := by
  have h : (sdOf b).ds.lookup d.1 = some (b.names.zip d.2).reverse := by
    have : ∀ {ds : List (Str × List Str)}, (ds.map (·.1)).Nodup → d ∈ ds → (ds.map fun d => (d.1, (b.names.zip d.2).reverse)).lookup d.1 = some (b.names.zip d.2).reverse := by
      intro ds
      induction ds with
      | nil => intro _ h; cases h
      | cons p r ih =>
        intro nd h
        rw [List.map_cons] at nd
        obtain ⟨n1, n2⟩ := List.nodup_cons.mp nd
        rw [List.map_cons, List.lookup_cons]
        rcases List.mem_cons.mp h with h | h
        · rw [← h, beq_self_eq_true]
        · have : (d.1 == p.1) = false := beq_eq_false_iff_ne.mpr fun e => n1 (e ▸ List.mem_map_of_mem (f := (·.1)) h)
          rw [this]
          exact ih n2 h
    exact this ok.dd hd
  unfold Sd.lead1
  rw [h]
  show (List.lookup z (b.names.zip d.2).reverse).getD z = u
  rw [zip_at ok.nd (ok.dl d hd) hz hu]
  rfl
def spSeen (K : PySem.W.Frag) : Sp := fun vs H Q _ => ∃ a b z, vs = [.ref a, .str z] ∧ BdAt K H a b ∧ b.Ok ∧ z ∈ b.names ∧ Q (.str ((sdOf b).look z)) H
def spDeeds (K : PySem.W.Frag) : Sp := fun vs H Q _ => ∃ a b, vs = [.ref a] ∧ BdAt K H a b ∧ b.Ok ∧ ∀ H' p, Same H H' → H p = none → H' p = some (.lst (sV (b.deeds.map (·.1)))) → Q (.ref p) H'
def spLed (K : PySem.W.Frag) : Sp := fun vs H Q _ => ∃ a b z r row, vs = [.ref a, .str z, .ref r] ∧ BdAt K H a b ∧ b.Ok ∧ z ∈ b.names ∧ SqL K H r (sV row) ∧ (∀ d ∈ row, d ∈ b.deeds.map (·.1)) ∧ ∀ H', Same H H' → Q (.str ((sdOf b).lead z row)) H'
end Pl
end L2
namespace Bs
open PySem PySem.Spec PyProof.Rows L2 L2.Pl
section
variable {P : Program} {w : World} {K : PySem.W.Frag} {mg : Str → Option Value} {base : Heap} {f : Addr} {fd : FuncData}
theorem scSeen : FnScope ["base", "standing"] ["base", "standing"] (defScope sSeen) := ⟨rfl, rfl, rfl, by decide +kernel, rfl, by decide +kernel, by decide +kernel⟩
theorem ok_seen (F : FnP K "_law_seen" sSeen f fd) : FnOk P w K mg base CX0 1 f fd ["base", "standing"] (spSeen K) := by
  refine F.ok scSeen (fun vs H Q E h => ?_) (fun cdv A outer s H vs Q E hr h => ?_)
  · obtain ⟨_, _, _, rfl, _⟩ := h
    rfl
  · obtain ⟨a, b, z, rfl, ⟨an, ad, al, ps, h1, ⟨on, h2, hdn⟩, h3, h4, h5⟩, ok, hz, q⟩ := h
    refine ⟨_, PSs.nox (pss_one (ps_ret (pe_ix ix_tup (pe_ix ix_tup (pv 0) pe_int (fun _ _ => rfl)) (pe_tupIdx (pe_ix ix_tup (pv 0) pe_int (fun _ _ => rfl)) (pv 1)) (fun _ _ => rfl)))), ?_⟩
    obtain ⟨j, hj, hf⟩ := idx_of ok.nd hz
    obtain ⟨u, hu⟩ : ∃ u, b.looks[j]? = some u := ⟨_, List.getElem?_eq_getElem (by have := (List.getElem?_eq_some_iff.mp hj).1; rw [ok.ll]; exact this)⟩
    rw [look_at ok hj hu] at q
    exact ⟨_, rfl, a, _, 2, .ref al, rfl, rfl, h1, atI_nat (j := 2) rfl, _, rfl, a, _, 0, .ref an, rfl, rfl, h1, atI_nat (j := 0) rfl, an, on, b.names, rfl, h2, hdn, _, rfl, z, j, rfl, h2, hj, hf, al, _, _, .str u, rfl, rfl, h5, atI_nat (by rw [List.getElem?_map, hu]; rfl), q⟩
theorem scDeeds : FnScope ["base", "name", "leads"] ["base"] (defScope sDeeds) := ⟨rfl, rfl, rfl, by decide +kernel, rfl, by decide +kernel, by decide +kernel⟩
theorem ok_deeds (F : FnP K "_law_deeds" sDeeds f fd) : FnOk P w K mg base CX0 1 f fd ["base"] (spDeeds K) := by
  refine F.ok scDeeds (fun vs H Q E h => ?_) (fun cdv A outer s H vs Q E hr h => ?_)
  · obtain ⟨_, _, rfl, _⟩ := h
    rfl
  · obtain ⟨a, b, rfl, ⟨an, ad, al, ps, h1, ⟨on, h2, hdn⟩, h3, h4, h5⟩, ok, q⟩ := h
    refine ⟨_, PSs.nox (pss_one (ps_ret (pe_lc (own := [("name", 1), ("leads", 2)]) (g := gTup K 2 (gCons (gName 1) (gCons (gName 2) gNil))) (tt := tYes) (te := tVar 1) rfl scDeeds.nd (pi_tup (pe_ix ix_tup (pv 0) pe_int (fun _ _ => rfl))) (blkOk_by (N := ["base", "name", "leads"]) (sc := defScope sDeeds) (by decide +kernel))
      (fun _ _ _ _ _ => pg_tup rfl (pgs_cons (pg_name (i := 1) scDeeds.nd rfl (.inl rfl)) (pgs_cons (pg_name (i := 2) scDeeds.nd rfl (.inl rfl)) pgs_nil))) (fun _ _ _ _ _ => pts_nil) (fun _ _ _ _ _ => pv 1)))), ?_⟩
    refine ⟨_, rfl, a, _, 1, .ref ad, rfl, rfl, h1, atI_nat (j := 1) rfl, ad, rfl, ⟨_, h3⟩, fun D hD => ?_⟩
    refine lc_ix (walk_tup (K := K) (a := ad) (xs := ps)) (fun i y => ∃ d, b.deeds[i]? = some d ∧ y = .str d.1) hD (fun H2 m2 => seqT_same h3 m2) (by have := h4.length; have := ok.d4; omega) (fun i x H2 H3 N YK hi m2 iD hx ky => ?_) (fun H2 ys m2 hy ly ry => ?_)
    · obtain ⟨rfl, hx⟩ := hx
      obtain ⟨d, hd, t, l, rfl, ht, hl⟩ := L2.paired_get h4 hx
      exact ⟨t, _, rfl, seqT_same ht m2, rfl, _, [.ref l], rfl, _, [], rfl, rfl, rfl, iteT (B := N H3) ⟨_, rfl, ky _ _ m2 rfl ⟨d, hd, rfl⟩⟩⟩
    · refine q H2 D m2 hD (hy.trans ?_)
      congr 2
      apply List.ext_getElem?
      intro i
      have hlen := h4.length
      cases e : ys[i]? with
      | none =>
        have := List.getElem?_eq_none_iff.mp e
        rw [List.getElem?_eq_none (by rw [List.length_map, List.length_map]; omega)]
      | some y =>
        obtain ⟨d, hd, rfl⟩ := ry i y e
        rw [List.getElem?_map, List.getElem?_map, hd]
        rfl
abbrev NLd2 : List Str := ["base", "standing", "row", "deed", "leads", "name", "lead"]
theorem scLed : FnScope NLd2 ["base", "standing", "row"] (defScope sLed) := ⟨rfl, rfl, rfl, by decide +kernel, rfl, by decide +kernel, by decide +kernel⟩
theorem ok_led (F : FnP K "_law_led" sLed f fd) : FnOk P w K mg base CX0 1 f fd ["base", "standing", "row"] (spLed K) := by
  refine F.ok scLed (fun vs H Q E h => ?_) (fun cdv A outer s H vs Q E hr h => ?_)
  · obtain ⟨_, _, _, _, _, rfl, _⟩ := h
    rfl
  · obtain ⟨a, b, z, r, row, rfl, ⟨an, ad, al, ps, h1, ⟨on, h2, hdn⟩, h3, h4, h5⟩, ok, hz, hrow, good, q⟩ := h
    refine ⟨_, PSs.nox (pss_cons (ps_for PassesOwn.never rfl (pi_list (pv 2)) (pg_name (i := 3) scLed.nd rfl (.inr rfl))
        (pss_cons (ps_set (i := 4) scLed.nd rfl (.inl rfl) (pe_ix ix_list (pe_lc (own := [("name", 5), ("lead", 6)]) (g := gTup K 2 (gCons (gName 5) (gCons (gName 6) gNil))) (tt := tTest (tOp rEq (tVar 5) (tVar 3))) (te := tVar 6) rfl scLed.nd (pi_tup (pe_ix ix_tup (pv 0) pe_int (fun _ _ => rfl))) (blkOk_by (N := NLd2) (sc := defScope sLed) (by decide +kernel))
            (fun _ _ _ _ _ => pg_tup rfl (pgs_cons (pg_name (i := 5) scLed.nd rfl (.inl rfl)) (pgs_cons (pg_name (i := 6) scLed.nd rfl (.inl rfl)) pgs_nil))) (fun _ _ _ _ _ => pts_one (pt_cmpR op_eq (pv 5) (pv 3) (nomark _))) (fun _ _ _ _ _ => pv 6)) pe_int (fun _ _ => rfl)))
        (pss_one (ps_set (i := 1) scLed.nd rfl (.inl rfl) (pe_ix ix_tup (pv 4) (pe_tupIdx (pe_ix ix_tup (pv 0) pe_int (fun _ _ => rfl)) (pv 1)) (fun _ _ => rfl))))))
      (pss_one (ps_ret (pv 1)))), ?_⟩
    refine ⟨_, rfl, r, rfl, ⟨_, hrow⟩, for_list (K := K) (a := r) (xs := sV row) (fun i σ H' => ∃ c3 c4, σ = [some (.ref a), some (.str ((sdOf b).lead z (row.take i))), some (.ref r), c3, c4, none, none] ∧ Same H H' ∧ (sdOf b).lead z (row.take i) ∈ b.names)
      ⟨none, none, rfl, Same.refl H, hz⟩ (fun i σ H' _ ⟨_, _, _, m, _⟩ => m.seq hrow) ?_ ?_⟩
    · rintro i y σ H1 hi ⟨c3, c4, rfl, m1, hin⟩
      obtain ⟨d, hd, rfl⟩ : ∃ d, row[i]? = some d ∧ y = .str d := by
        rw [List.getElem?_map] at hi
        cases e : row[i]? with
        | none =>
          rw [e] at hi
          cases hi
        | some u =>
          rw [e] at hi
          exact ⟨u, rfl, (Option.some.inj hi).symm⟩
      obtain ⟨dd, hdd, e2⟩ := List.mem_map.mp (good d (List.mem_of_getElem? hd))
      obtain ⟨j, hj⟩ := List.mem_iff_getElem?.mp hdd
      obtain ⟨pj, hpj⟩ : ∃ pj, ps[j]? = some pj := ⟨_, List.getElem?_eq_getElem (by have := h4.length; have := (List.getElem?_eq_some_iff.mp hj).1; omega)⟩
      obtain ⟨dj, hdj, tj, lj, rfl, htj, hlj⟩ := L2.paired_get h4 hpj
      obtain rfl : dd = dj := Option.some.inj (hj.symm.trans hdj)
      refine ⟨_, rfl, a, _, 1, .ref ad, rfl, rfl, seqT_same h1 m1, atI_nat (j := 1) rfl, ad, rfl, ⟨_, seqT_same h3 m1⟩, fun D hD => ?_⟩
      have lenps := h4.length
      refine lc_it (walk_tup (K := K) (a := ad) (xs := ps)) (fun i H => Same H1 H ∧ H D = some (.lst (if j < i then [V.ref lj] else []))) ⟨same_new hD, upd_same⟩ (fun i H _ p => seqT_same (seqT_same h3 m1) p.1) (fun k x H2 H3 hk p hx => ?_) (fun H2 p => ?_)
      · obtain ⟨rfl, hx⟩ := hx
        by_cases hkj : k = j
        · subst hkj
          obtain rfl := Option.some.inj (hpj.symm.trans hx)
          refine ⟨tj, _, rfl, seqT_same (seqT_same htj m1) p.1, rfl, _, [.ref lj], rfl, _, [], rfl, rfl, rfl, _, rfl, _, rfl, rfl, _, rfl, ?_⟩
          rw [show decide (V.str dd.1 = V.str d) = true from decide_eq_true (by rw [e2])]
          refine iteT ⟨_, rfl, _, p.2, by rw [if_neg (Nat.lt_irrefl _)]; decide, same_wr p.1 hD, ?_⟩
          rw [upd_same, if_neg (Nat.lt_irrefl _), if_pos (Nat.lt_succ_self _)]
          rfl
        · obtain ⟨dk, hdk, t, l, rfl, ht, hl⟩ := L2.paired_get h4 hx
          refine ⟨t, _, rfl, seqT_same (seqT_same ht m1) p.1, rfl, _, [.ref l], rfl, _, [], rfl, rfl, rfl, _, rfl, _, rfl, rfl, _, rfl, ?_⟩
          have ne : dk.1 ≠ d := fun z => by
            have a1 : (b.deeds.map (·.1))[k]? = some d := by rw [List.getElem?_map, hdk]; exact congrArg some z
            have a2 : (b.deeds.map (·.1))[j]? = some d := by rw [List.getElem?_map, hj]; exact congrArg some e2
            exact hkj ((List.getElem?_inj (List.getElem?_eq_some_iff.mp a1).1 ok.dd).mp (a1.trans a2.symm))
          rw [show decide (V.str dk.1 = V.str d) = false from decide_eq_false fun z => ne (V.str.inj z)]
          refine iteF ⟨p.1, ?_⟩
          rw [p.2]
          by_cases c : j < k
          · rw [if_pos c, if_pos (Nat.lt_succ_of_lt c)]
          · rw [if_neg c, if_neg (by omega)]
      · have hjl : j < ps.length := (List.getElem?_eq_some_iff.mp hpj).1
        have p2 := p.2
        rw [if_pos hjl] at p2
        have m2 := m1.trans p.1
        obtain ⟨n, hn, hf⟩ := idx_of ok.nd hin
        obtain ⟨u, hu⟩ : ∃ u, dd.2[n]? = some u := ⟨_, List.getElem?_eq_getElem (by have := (List.getElem?_eq_some_iff.mp hn).1; rw [ok.dl dd hdd]; exact this)⟩
        refine ⟨D, _, 0, .ref lj, rfl, rfl, SqL.of p2, atI_nat (j := 0) rfl, _, rfl, _, rfl, a, _, 0, .ref an, rfl, rfl, seqT_same h1 m2, atI_nat (j := 0) rfl, an, on, b.names, rfl, m2 _ _ h2, hdn, _, rfl, _, n, rfl, m2 _ _ h2, hn, hf, lj, _, _, .str u, rfl, rfl, seqT_same hlj m2, atI_nat (by rw [List.getElem?_map, hu]; rfl), ?_⟩
        have e5 : (sdOf b).lead z (row.take (i + 1)) = u := by
          rw [List.take_succ, hd]
          unfold Sd.lead
          rw [Option.toList_some, List.foldl_append]
          have := lead1_at ok hdd hn hu
          rw [e2] at this
          exact this
        rw [e5]
        exact ⟨some (.str d), some (.ref lj), rfl, m2, ok.di dd hdd u (List.mem_of_getElem? hu)⟩
    · rintro σ H1 ⟨c3, c4, rfl, m1, hin⟩
      rw [List.length_map, List.take_length]
      exact ⟨_, rfl, q H1 m1⟩
end
end Bs
set_option Elab.async false
set_option linter.all false
set_option maxRecDepth 100000
set_option maxHeartbeats 2000000
/-! a lambda with parameters that captures names, handed to a def of the module, called there -/
namespace LamP
open PySem PySem.Spec PyProof.Rows L2 LamX NdefX
/-- its words, the cells that it captured, its code object -/
structure LF where
  qual : Str
  params : Arguments
  body : Expr
  scope : Scope
  cl : List (Str × Addr)
  c : Addr
abbrev LF.fd (F : LF) (pm ctv : Value) : FuncData := PySem.W.kla_fn "<lambda>" F.qual F.params F.body F.scope F.cl pm (.ref F.c) ctv
/-- the same words, for the frame's context alone -/
abbrev LF.nf (F : LF) : NF := ⟨"<lambda>", F.qual, F.params, [], F.scope, F.cl, F.c⟩
def LfO (f : Addr) (F : LF) : HO := .ext fun h => ∃ (od : Option Addr) (sl : Array (Option Value)) (pm ctv : Value), h.get? f = some (⟨.type "function", od, .func (F.fd pm ctv), sl⟩ : Obj)
theorem lfO_ne {f : Addr} {F : LF} (ps : Array Value) : LfO f F ≠ .tbl ps := fun z => by
  unfold LfO at z
  cases z
theorem lfO_at {P : Program} {w : World} {H : Hp} {h : Heap} {f : Addr} {F : LF} (hok : HOk P w H h) (e : H f = some (LfO f F)) : ∃ (od : Option Addr) (sl : Array (Option Value)) (pm ctv : Value), h.get? f = some (⟨.type "function", od, .func (F.fd pm ctv), sl⟩ : Obj) := by
  obtain ⟨z, _, _⟩ := hok f _ e
  exact z
section
variable {X : Cx} {pins : List (Addr × Obj)} {σ : L2.St} {H : Hp} {s : Shared}
theorem inv_lf {F : LF} {o : Obj} {t' : Nat} {pm ctv : Value} (I : Inv X pins σ H s) (ho : o = { cls := .type "function", data := .func (F.fd pm ctv) }) :
    Inv X pins σ (upd H s.heap.objs.size (LfO s.heap.objs.size F)) { s with heap := s.heap.push o, toks := t' } := by
  subst ho
  refine I.laid (a := s.heap.objs.size) (fun b u e => Heap.get?_push_of_some _ e) (Nat.le_refl _) ?_
  have e : (s.heap.push ({ cls := .type "function", data := .func (F.fd pm ctv) } : Obj)).get? s.heap.objs.size = some ({ cls := .type "function", data := .func (F.fd pm ctv) } : Obj) := Heap.get?_push_size _ rfl
  exact ⟨⟨_, _, pm, ctv, e⟩, ⟨_, e⟩, fun h1 h2 ⟨od, sl, p, t, z⟩ st => ⟨od, sl, p, t, st _ z⟩⟩
theorem lam_makeN {T : List NTab} {nm : Nat → Nat → Str} {c P : Addr} {params : Arguments} {body : Expr} {scope : Scope} {pos : Pos} {E : Value → Shared → Prop} {Q : Value → Shared → Prop} (I : Inv X pins σ H s) (TB : TabB X.base X.mg c P) (hcode : X.env.code = .ref c)
    (hm : (P, nm) ∈ T) (hn : nm pos.line pos.col = X.env.qual ++ "<lambda>") (hu : ∀ p ∈ T, p.1 = P → p.2 = nm) (hT : TabsN T H) (hdef : defaultsOf params X.env = ([], [])) (hfree : ∀ y ∈ scope.names, y.2 = .free → ∃ c, X.env.cells.lookup y.1 = some c)
    (h : ∀ (f c' : Addr) (H1 : Hp) (s' : Shared), Inv X pins σ H1 s' → ExtN H H1 → (∀ b, H1 b = Option.none → H b = Option.none) → TabsN T H1 → H f = none → H1 f = some (LfO f ⟨X.env.qual ++ "<lambda>", params, body, scope, cloFrom X.env.cells scope.names [], c'⟩) → H1 c' = some (CodeO c' (X.env.qual ++ "<lambda>")) → Q (.ref f) s') :
    wpAny (model X.prog X.w) X.A (eval (.Lambda params body scope pos) X.env) Q E s := by
  obtain ⟨ps, hP, ht, ha⟩ := (show TabN H P nm from hT _ hm)
  refine PySem.W.kla_eval hdef ?_
  have bP : s.heap.BuiltinsAt X.mg P := TB.bm.keeps I.bk
  have hP' : s.heap.get? P = some { cls := .none, data := .fields ps } := I.hok P _ hP
  cases hc : codeAmong pos ps.toList with
  | none =>
    refine PySem.W.kla_makeFunction (mg := X.mg) (c := c) (P := P) (ps := ps) (closure_ok hfree) I.ok.glob (I.mod.glob.keeps I.bk) hcode (TB.code.keeps I.bk) hP' ht hc TB.gP bP fun c' ctv h' tk hx hge hlt hrec htb => ?_
    obtain ⟨c2, oc, vs, t, e2, hoc, hd, hv⟩ := hrec
    cases e2
    have nC : H c' = none := I.hok.fresh hge
    have I1 := inv_table (t' := tk) (more := #[rawInt pos.line, rawInt pos.col, .ref c']) (h' := h') I hP (fun b o hb e => hx b o hb e) htb hge ⟨oc, vs, t, hoc, hd, hv⟩
    have hE : ExtN H (upd (upd H P (.tbl (ps ++ #[rawInt pos.line, rawInt pos.col, .ref c']))) c' (CodeO c' (X.env.qual ++ "<lambda>"))) := fun b o e n => by
      rw [upd_ne (ne_of_none e nC), upd_ne (fun z => n ps (Option.some.inj (e.symm.trans (by rw [z]; exact hP))))]
      exact e
    have eL : (ps ++ #[rawInt pos.line, rawInt pos.col, .ref c']).toList = ps.toList ++ [rawInt pos.line, rawInt pos.col, .ref c'] := by simp
    have T1 : TabsN T (upd (upd H P (.tbl (ps ++ #[rawInt pos.line, rawInt pos.col, .ref c']))) c' (CodeO c' (X.env.qual ++ "<lambda>"))) := fun p hp => by
      by_cases hb : p.1 = P
      · rw [hu p hp hb, hb]
        refine ⟨_, by rw [upd_ne (ne_of_none hP nC), upd_same], by rw [eL]; exact PySem.TriplesOk_snoc _ _ _ _ ht, fun p' cv hcv => ?_⟩
        rw [eL] at hcv
        rcases among_app2 _ ht hcv with z | ⟨z, z1, z2⟩
        · obtain ⟨c0, e1, e2⟩ := ha p' cv z
          exact ⟨c0, e1, hE _ _ e2 codeO_ne⟩
        · refine ⟨c', z, ?_⟩
          rw [← z1, ← z2, hn]
          exact upd_same
      · obtain ⟨ps', a1, a2, a3⟩ := hT p hp
        refine ⟨ps', by rw [upd_ne (ne_of_none a1 nC), upd_ne hb]; exact a1, a2, fun p' cv hcv => ?_⟩
        obtain ⟨c0, e1, e2⟩ := a3 p' cv hcv
        exact ⟨c0, e1, hE _ _ e2 codeO_ne⟩
    have nF := I1.hok.fresh (Nat.le_refl _)
    have I2 := inv_lf (F := ⟨X.env.qual ++ "<lambda>", params, body, scope, cloFrom X.env.cells scope.names [], c'⟩) (t' := tk) (pm := (X.mg "__name__").getD .none) (ctv := ctv) I1 rfl
    refine h h'.objs.size c' _ _ I2 (fun b o e n => ?_) (fun b e => upd_none (upd_none (upd_none e))) (T1.ext fun b o e => ?_) (I.hok.fresh (Nat.le_trans hge (Nat.le_of_lt hlt))) upd_same ?_
    · have e1 := hE b o e n
      exact (upd_ne (ne_of_none e1 nF)).trans e1
    · exact (upd_ne (ne_of_none e nF)).trans e
    · exact (upd_ne (Nat.ne_of_lt hlt)).trans upd_same
  | some cv =>
    obtain ⟨c', e, hco⟩ := ha pos cv hc
    subst e
    rw [hn] at hco
    refine PySem.W.kla_makeFunctionHit (mg := X.mg) (c := c) (P := P) (ps := ps) (closure_ok hfree) I.ok.glob (I.mod.glob.keeps I.bk) hcode (TB.code.keeps I.bk) hP' ht hc bP fun ctv h' tk hx hsz => ?_
    have I1 : Inv X pins σ H { s with heap := h', toks := tk } := I.kept hx
    have nF : H h'.objs.size = none := I1.hok.fresh (Nat.le_refl _)
    have I2 := inv_lf (F := ⟨X.env.qual ++ "<lambda>", params, body, scope, cloFrom X.env.cells scope.names [], c'⟩) (t' := tk) (pm := (X.mg "__name__").getD .none) (ctv := ctv) I1 rfl
    refine h h'.objs.size c' _ _ I2 (fun b o e n => ?_) (fun b e => upd_none e) (hT.ext fun b o e => ?_) nF upd_same ?_
    · exact (upd_ne (ne_of_none e nF)).trans e
    · exact (upd_ne (ne_of_none e nF)).trans e
    · exact (upd_ne (ne_of_none hco nF)).trans hco
end
/-- the reading of «lambda ..: ..» -/
def tLamN (T : List NTab) (mk : Addr → LF) : TE := fun σ H Q => TabsN T H ∧ ∀ (f c' : Addr) (H1 : Hp), ExtN H H1 → (∀ b, H1 b = Option.none → H b = Option.none) → TabsN T H1 → H f = none → H1 f = some (LfO f (mk c')) → H1 c' = some (CodeO c' (mk c').qual) → Q (.ref f) H1
section
variable {X : Cx}
theorem pe_lambda {T : List NTab} {nm : Nat → Nat → Str} {c P : Addr} {params : Arguments} {body : Expr} {scope : Scope} {pos : Pos} (TB : TabB X.base X.mg c P) (hcode : X.env.code = .ref c) (hm : (P, nm) ∈ T) (hn : nm pos.line pos.col = X.env.qual ++ "<lambda>") (hu : ∀ p ∈ T, p.1 = P → p.2 = nm)
    (hfree : ∀ y ∈ scope.names, y.2 = .free → X.env.scope.names.lookup y.1 = some .cell ∨ X.env.scope.names.lookup y.1 = some .free) (hdef : defaultsOf params X.env = ([], [])) :
    PE X (.Lambda params body scope pos) (tLamN T fun c' => ⟨X.env.qual ++ "<lambda>", params, body, scope, cloFrom X.env.cells scope.names [], c'⟩) := by
  refine ⟨fun pins s σ H Q I h => ?_⟩
  obtain ⟨hT, h⟩ := h
  have hfr : ∀ y ∈ scope.names, y.2 = .free → ∃ c, X.env.cells.lookup y.1 = some c := fun y hy e => (hfree y hy e).elim (fun z => I.ok.has _ (.inl z)) fun z => I.ok.has _ (.inr z)
  refine lam_makeN I TB hcode hm hn hu hT hdef hfr fun f c' H1 s' I1 eN nn T1 f0 f1 c1 => ?_
  exact ⟨.ref f, H1, I1, rfl, h f c' H1 eN nn T1 f0 f1 c1⟩
end
/-! ### cells of another frame, later -/
theorem cells_un {cl : List (Str × Addr)} {fr : List Str} {ws : List (Option V)} {fs : List Addr} {H H1 : Hp} {h h1 : Heap} (C : CellsAt cl fr ws h H) (un : Un fs [] H H1 h h1) : CellsAt cl fr ws h1 H1 := by
  have kp : ∀ y c, cl.lookup y = some c → ∀ v, h.IsCell c v → h1.IsCell c v := fun y c e v ⟨o, ho, hd⟩ => by
    obtain ⟨sl, q⟩ := un.any ho (C.all y c e).1 (by simp)
    exact ⟨_, q, hd⟩
  refine ⟨C.len, fun y c e => ?_, C.inj, fun i y e => ?_⟩
  · obtain ⟨n, v, z⟩ := C.all y c e
    refine ⟨?_, v, kp y c e v z⟩
    obtain ⟨o, ho, _⟩ := z
    exact un.free c o ho n (by simp)
  · obtain ⟨c, hc, hv⟩ := C.has i y e
    refine ⟨c, hc, fun v ev => ?_⟩
    obtain ⟨u, r, z⟩ := hv v ev
    exact ⟨u, r, kp y c hc _ z⟩
/-! ### the lambda's promise -/
structure LOk (P : Program) (w : World) (K : PySem.W.Frag) (mg : Str → Option Value) (base : Heap) (CX : CXT) (k : Nat) (f : Addr) (F : LF) (ps fr : List Str) (sp : List (Option V) → Sp) : Prop where
  len : ∀ ws vs H Q E, sp ws vs H Q E → vs.length = ps.length
  run : ∀ (A : Around) (outer : List Env) (s : Shared) (H : Hp) (us : List Value) (vs : List V) (ws : List (Option V)) (Q : VK) (E : XK), Room k A → Env0 P w K mg base A outer s H → H f = some (LfO f F) → H F.c = some (CodeO F.c F.qual) →
    CellsAt F.cl fr ws s.heap H → Vals vs us → sp ws vs H Q E → codeAny (model P w) A (.call (.ref f) ⟨us, []⟩) (CR CX outer P w H s Q E) s
section
variable {CX : CXT} {P : Program} {w : World} {K : PySem.W.Frag} {mg : Str → Option Value} {base : Heap} {N ps fr : List Str} {F : LF} {f : Addr} {k j : Nat} {sp sp' : List (Option V) → Sp}
theorem LOk.mono (o : LOk P w K mg base CX j f F ps fr sp) (h : j ≤ k) : LOk P w K mg base CX k f F ps fr sp := ⟨o.len, fun A outer s H us vs ws Q E hr => o.run A outer s H us vs ws Q E (hr.mono h)⟩
theorem LOk.imp (o : LOk P w K mg base CX k f F ps fr sp) (h : ∀ ws vs H Q E, sp' ws vs H Q E → sp ws vs H Q E) : LOk P w K mg base CX k f F ps fr sp' :=
  ⟨fun ws vs H Q E q => o.len ws vs H Q E (h _ _ _ _ _ q), fun A outer s H us vs ws Q E hr e0 hf hc C r q => o.run A outer s H us vs ws Q E hr e0 hf hc C r (h _ _ _ _ _ q)⟩
/-- a lambda by its body -/
theorem lok_of (S : NScope N ps fr F.scope) (hb : ∀ (pm ctv : Value) (us : List Value), us.length = ps.length → bindArgs (F.fd pm ctv) ⟨us, []⟩ = pure (ps.zip us)) (len : ∀ ws vs H Q E, sp ws vs H Q E → vs.length = ps.length)
    (hbody : ∀ (A : Around) (outer : List Env) (s : Shared) (H : Hp) (vs : List V) (ws : List (Option V)) (Q : VK) (E : XK), Room k (A.deeper (envF F.nf f s.heap.objs.size)) → H f = some (LfO f F) → H F.c = some (CodeO F.c F.qual) → ws.length = fr.length → sp ws vs H Q E →
      ∃ t, PE (ncx CX P w K mg base N F.nf f A outer s H E) F.body t ∧ t (startF N vs ws) H Q) :
    LOk P w K mg base CX (k + 1) f F ps fr sp := by
  refine ⟨len, fun A outer s H us vs ws Q E hr e0 hf hc C r hsp => ?_⟩
  have hl := len _ _ _ _ _ hsp
  have lim : s.heap.NoLimit := e0.mod.nolimit.keeps fun b o e => (e0.bs b o e).1
  obtain ⟨od, sl, pm, ctv, ho⟩ := lfO_at e0.hok hf
  refine PySem.W.kla_callFunE hr.depth ho rfl S.co S.gen rfl (codeO_at e0.hok hc) ?_
  rw [hb pm ctv us (by rw [← r.length]; exact hl)]
  refine wpAny_pure (wpAny_newFunctionEnv S.nocell (fun ⟨n, _⟩ hy => S.par n (List.of_mem_zip hy).1) (fun h₁ hns hsb => ⟨lim.fresh _ hsb, ?_⟩) S.kind)
  show codeAny _ _ (.expr F.body (envF F.nf f s.heap.objs.size)) _ _
  have kp : ∀ b o, s.heap.get? b = some o → h₁.get? b = some o := fun b o e => hsb.extBut b o (Nat.ne_of_lt (Heap.lt_size e)) (Heap.get?_push_of_some _ e)
  obtain ⟨t, ht, hq⟩ := hbody A outer s H vs ws Q E (hr.deeper _) hf hc C.len hsp
  have I : Inv (ncx CX P w K mg base N F.nf f A outer s H E) [] (startF N vs ws) H { s with heap := h₁, toks := s.toks + (ps.zip us).length } := inv_startN (F := F.nf) S hr.hd e0 hl r C hns kp
  refine PySem.W.kla_codeExpr (wpAny_mono (ht.run [] _ (startF N vs ws) H Q I hq) (fun v s' hs => ?_) fun e s' hs => hs)
  obtain ⟨w', H', J', rv, q⟩ := hs
  exact ⟨w', H', J'.os, J'.bare, J'.base, J'.hok, rv, q⟩
end
/-! ### its call in the def that got it: the cells lie as they did when that def began -/
def tCallL (mk : Addr → LF) (i : Nat) (ws : List (Option V)) (sp : Addr → Addr → List (Option V) → Sp) (E : XK) (t : TA) : TE := fun σ H Q => ∃ f c', σ[i]? = some (some (.ref f)) ∧ H f = some (LfO f (mk c')) ∧
  t σ H fun vs H1 => H1 f = some (LfO f (mk c')) ∧ H1 (mk c').c = some (CodeO (mk c').c (mk c').qual) ∧ sp f c' ws vs H1 Q E
section
variable {X : Cx} {CX : CXT} {mk : Addr → LF} {cl : List (Str × Addr)} {ps fr : List Str} {i j k : Nat} {x : Str} {ws : List (Option V)} {sp : Addr → Addr → List (Option V) → Sp} {E : XK} {t : TA} {e : Expr} {es : List Expr} {p pos : Pos}
theorem lfnAt_of {pins : List (Addr × Obj)} {σ : L2.St} {H : Hp} {s : Shared} {f : Addr} {F : LF} (I : Inv X pins σ H s) (e : H f = some (LfO f F)) : PySem.W.FnAt f s.heap := by
  obtain ⟨od, sl, pm, ctv, ho⟩ := lfO_at I.hok e
  exact ⟨_, od, _, sl, ho⟩
theorem pe_calll (Fn : ∀ f c', LOk X.prog X.w X.K X.mg X.base CX k f (mk c') ps fr (sp f c')) (hcl : ∀ c', (mk c').cl = cl) (C : CellsAt cl fr ws X.s_0.heap X.H_0) (hex : X.ex = []) (hr : Room j X.A) (hk : k ≤ j) (hx : Passes CX X E) (hN : X.N[i]? = some x) (hv : Vis X.env.scope x) (ha : PA X (e :: es) t)
    (hd : (x == ("__debug__" : Str)) = false := by decide) (hcd : (x == ("__classdict__" : Str)) = false := by decide)
    (he : starEach (e :: es) X.env = (false, eval e X.env) :: starEach es X.env := by rfl) (hpl : (backTo pos (starEach es X.env)).any (·.1) = false := by rfl) :
    PE X (.Call (.Name x p) (e :: es) [] pos) (tCallL mk i ws sp E t) := by
  refine ⟨fun pins s σ H Q I h => ?_⟩
  obtain ⟨f, c', hs, hf, ht⟩ := h
  refine wpAny_Call_Name_kw (thn ((pe_var (pos := p) hN hv hd hcd).run pins s σ H (fun v H1 => v = .ref f ∧ H1 = H) I ⟨.ref f, hs, rfl, rfl⟩) fun u s1 ⟨v, H1, I1, r1, q1⟩ => ?_)
  obtain ⟨ev, eH⟩ := q1
  subst ev
  rw [eH] at I1
  obtain rfl : u = Value.ref f := r1
  refine PySem.W.callWith_F (first := []) (lfnAt_of I1 hf) (thn (ha.run pos pins s1 σ H _ I1 ht) fun us s2 ⟨vs, H2, I2, r, h1, h2, q⟩ => ⟨lfnAt_of I2 h1, ?_⟩) he hpl
  show wpAny _ _ (call (.ref f) us) _ _ _
  have C2 : CellsAt (mk c').cl fr ws s2.heap H2 := by
    rw [hcl c']
    have b := I2.base
    rw [hex] at b
    exact cells_un C b
  refine wpAny_call (codeAny_mono ((Fn f c').run X.A X.stack s2 H2 us vs ws Q E (hr.mono hk) I2.env0 h1 h2 C2 r q) fun r s' hq => ?_)
  cases r with
  | error e => exact hx pins σ H2 s2 e s' I2 hq
  | ok fl =>
    cases fl with
    | ret u => exact I2.after hq
    | next => exact False.elim hq
    | brk => exact False.elim hq
    | cont => exact False.elim hq
end
end LamP
set_option Elab.async false
set_option linter.all false
set_option maxRecDepth 100000
set_option maxHeartbeats 2000000
/-! a def of the module that gets a lambda: its promise is told of what the lambda's captured cells hold at its call -/
namespace LamP
open PySem PySem.Spec PyProof.Rows L2 LamX NdefX
/-- sp cl ws: cl the cells, ws what they hold -/
structure CFn (P : Program) (w : World) (K : PySem.W.Frag) (mg : Str → Option Value) (base : Heap) (CX : CXT) (k : Nat) (f : Addr) (fd : FuncData) (ps fr : List Str) (sp : List (Str × Addr) → List (Option V) → Sp) : Prop where
  len : ∀ cl ws vs H Q E, sp cl ws vs H Q E → vs.length = ps.length
  run : ∀ (A : Around) (outer : List Env) (s : Shared) (H : Hp) (args : Args) (us : List Value) (vs : List V) (cl : List (Str × Addr)) (ws : List (Option V)) (Q : VK) (E : XK), Room k A → Env0 P w K mg base A outer s H → BindsTo s fd args (ps.zip us) → Vals vs us →
    CellsAt cl fr ws s.heap H → sp cl ws vs H Q E → codeAny (model P w) A (.call (.ref f) args) (CR CX outer P w H s Q E) s
section
variable {CX : CXT} {P : Program} {w : World} {K : PySem.W.Frag} {mg : Str → Option Value} {base : Heap} {f : Addr} {fd : FuncData} {ps fr : List Str} {sp sp' : List (Str × Addr) → List (Option V) → Sp}
theorem CFn.mono {j k : Nat} (F : CFn P w K mg base CX j f fd ps fr sp) (h : j ≤ k) : CFn P w K mg base CX k f fd ps fr sp := ⟨F.len, fun A outer s H args us vs cl ws Q E hr => F.run A outer s H args us vs cl ws Q E (hr.mono h)⟩
theorem CFn.imp {k : Nat} (F : CFn P w K mg base CX k f fd ps fr sp) (h : ∀ cl ws vs H Q E, sp' cl ws vs H Q E → sp cl ws vs H Q E) : CFn P w K mg base CX k f fd ps fr sp' :=
  ⟨fun cl ws vs H Q E q => F.len cl ws vs H Q E (h _ _ _ _ _ _ q), fun A outer s H args us vs cl ws Q E hr e0 hb r C q => F.run A outer s H args us vs cl ws Q E hr e0 hb r C (h _ _ _ _ _ _ q)⟩
/-- a def by its body -/
theorem cfn_of {k : Nat} {name qual : Str} {params : Arguments} {body : List Stmt} {scope : Scope} {dV kV doc pm cdv ct oc : Value} {an od : Option Addr} {osl : Array (Option Value)} {N : List Str}
    (lk : K.lookup f = some ⟨oc, od, .func (PySem.W.fnOf name qual params body scope dV kV doc pm an cdv ct), osl⟩) (hcd : PySem.W.codeIn K cdv qual = true) (S : FnScope N ps scope)
    (len : ∀ cl ws vs H Q E, sp cl ws vs H Q E → vs.length = ps.length)
    (hbody : ∀ (A : Around) (outer : List Env) (s : Shared) (H : Hp) (vs : List V) (cl : List (Str × Addr)) (ws : List (Option V)) (Q : VK) (E : XK), Room k (A.deeper (envOfC qual scope s.heap.objs.size f cdv)) → CellsAt cl fr ws s.heap H → sp cl ws vs H Q E →
      ∃ t, PSs (cxOf CX P w K mg base N qual scope f cdv A outer s H E) body t ∧ t { nx := fun _ H' => Q .non H', rt := Q } (L2.start N vs) H) :
    CFn P w K mg base CX (k + 1) f (PySem.W.fnOf name qual params body scope dV kV doc pm an cdv ct) ps fr sp :=
  ⟨len, fun A outer s H args us vs cl ws Q E hr e0 hb r C hsp => run_ofS lk hcd S hr e0 hb r (len _ _ _ _ _ _ hsp) fun hr' => hbody A outer s H vs cl ws Q E hr' C hsp⟩
end
def tCallC (cl : List (Str × Addr)) (js : List Nat) (sp : List (Str × Addr) → List (Option V) → Sp) (dvs : List V) (E : XK) (t : TA) : TE := fun σ H Q => t σ H fun vs H1 => sp cl (js.map (slotAt σ)) (vs ++ dvs) H1 Q E
section
variable {X : Cx} {CX : CXT} {cl : List (Str × Addr)} {ps fr : List Str} {js : List Nat} {k : Nat} {f : Addr} {fd : FuncData} {x : Str} {sp : List (Str × Addr) → List (Option V) → Sp} {ds : List Value} {dvs : List V} {E : XK} {t : TA} {e : Expr} {es : List Expr} {p pos : Pos}
/-- x(e, ..), x a def of the module; js: where the captured names stand in the running frame -/
theorem pe_callC (F : CFn X.prog X.w X.K X.mg X.base CX k f fd ps fr sp) (cp : X.Ok → Caps X cl fr js) (hr : Room k X.A) (hg : Gl X x) (hm : X.mg x = some (.ref f)) (hk : PySem.W.keepIn X.K (.ref f) = true) (hb : Binds X.K fd ps ds) (hd : Vals dvs ds) (hx : Passes CX X E)
    (ha : PA X (e :: es) t) (hdb : (x == ("__debug__" : Str)) = false := by decide) (he : starEach (e :: es) X.env = (false, eval e X.env) :: starEach es X.env := by rfl) (hpl : (backTo pos (starEach es X.env)).any (·.1) = false := by rfl) :
    PE X (.Call (.Name x p) (e :: es) [] pos) (tCallC cl js sp dvs E t) := by
  refine ⟨fun pins s σ H Q I h => ?_⟩
  refine wpAny_Call_Name_kw (ld_glob I hg hm ?_ hdb)
  refine PySem.W.callWith_K (h₀ := X.base) I.ok.mod.kin hk (thn (ha.run pos pins s σ H _ I h) fun us s1 ⟨vs, H1, I1, r, q⟩ => ⟨I1.kIn, ?_⟩) he hpl
  have hl := F.len _ _ _ _ _ _ q
  have rv : Vals (vs ++ dvs) (us ++ ds) := r.append hd
  refine wpAny_call (codeAny_mono (F.run X.A X.stack s1 H1 ⟨us, []⟩ (us ++ ds) (vs ++ dvs) cl _ Q E hr I1.env0 (hb s1 us I1.kIn (by
    have h1 := rv.length
    have h2 : (us ++ ds).length = ps.length := h1.symm.trans hl
    simpa using h2)) rv (cells_of I1 (cp I1.ok)) q) fun r s' hq => ?_)
  cases r with
  | error e => exact hx pins σ H1 s1 e s' I1 hq
  | ok fl =>
    cases fl with
    | ret u => exact I1.after hq
    | next => exact False.elim hq
    | brk => exact False.elim hq
    | cont => exact False.elim hq
end
/-! ### the lambda that one slot holds, called -/
def tCallL1 (f : Addr) (F : LF) (i : Nat) (ws : List (Option V)) (sp : List (Option V) → Sp) (E : XK) (t : TA) : TE := fun σ H Q => σ[i]? = some (some (.ref f)) ∧ H f = some (LfO f F) ∧
  t σ H fun vs H1 => H1 f = some (LfO f F) ∧ H1 F.c = some (CodeO F.c F.qual) ∧ sp ws vs H1 Q E
section
variable {X : Cx} {CX : CXT} {F : LF} {f : Addr} {ps fr : List Str} {i j k : Nat} {x : Str} {ws : List (Option V)} {sp : List (Option V) → Sp} {E : XK} {t : TA} {e : Expr} {es : List Expr} {p pos : Pos}
theorem pe_calll1 (Fn : LOk X.prog X.w X.K X.mg X.base CX k f F ps fr sp) (C : CellsAt F.cl fr ws X.s_0.heap X.H_0) (hex : X.ex = []) (hr : Room j X.A) (hk : k ≤ j) (hx : Passes CX X E) (hN : X.N[i]? = some x) (hv : Vis X.env.scope x) (ha : PA X (e :: es) t)
    (hd : (x == ("__debug__" : Str)) = false := by decide) (hcd : (x == ("__classdict__" : Str)) = false := by decide)
    (he : starEach (e :: es) X.env = (false, eval e X.env) :: starEach es X.env := by rfl) (hpl : (backTo pos (starEach es X.env)).any (·.1) = false := by rfl) :
    PE X (.Call (.Name x p) (e :: es) [] pos) (tCallL1 f F i ws sp E t) := by
  refine ⟨fun pins s σ H Q I h => ?_⟩
  obtain ⟨hs, hf, ht⟩ := h
  refine wpAny_Call_Name_kw (thn ((pe_var (pos := p) hN hv hd hcd).run pins s σ H (fun v H1 => v = .ref f ∧ H1 = H) I ⟨.ref f, hs, rfl, rfl⟩) fun u s1 ⟨v, H1, I1, r1, q1⟩ => ?_)
  obtain ⟨ev, eH⟩ := q1
  subst ev
  rw [eH] at I1
  obtain rfl : u = Value.ref f := r1
  refine PySem.W.callWith_F (first := []) (lfnAt_of I1 hf) (thn (ha.run pos pins s1 σ H _ I1 ht) fun us s2 ⟨vs, H2, I2, r, h1, h2, q⟩ => ⟨lfnAt_of I2 h1, ?_⟩) he hpl
  show wpAny _ _ (call (.ref f) us) _ _ _
  have C2 : CellsAt F.cl fr ws s2.heap H2 := by
    have b := I2.base
    rw [hex] at b
    exact cells_un C b
  refine wpAny_call (codeAny_mono (Fn.run X.A X.stack s2 H2 us vs ws Q E (hr.mono hk) I2.env0 h1 h2 C2 r q) fun r s' hq => ?_)
  cases r with
  | error e => exact hx pins σ H2 s2 e s' I2 hq
  | ok fl =>
    cases fl with
    | ret u => exact I2.after hq
    | next => exact False.elim hq
    | brk => exact False.elim hq
    | cont => exact False.elim hq
end
end LamP
set_option Elab.async false
set_option linter.all false
set_option maxRecDepth 100000
set_option maxHeartbeats 2000000
/-! row_where: the first row, in breadth, that leads to a pair for which the given function says True -/
namespace L2
namespace Pl
open PySem PySem.Spec PyProof.Rows LamP NdefX LamX
theorem cfn_ofD {P : Program} {w : World} {K : PySem.W.Frag} {mg : Str → Option Value} {base : Heap} {x qual : Str} {params : Arguments} {body : List Stmt} {scope : Scope} {dvs : List V} {kws : List (Str × V)} {f : Addr} {fd : FuncData} {CX : CXT} {N ps fr : List Str} {k : Nat} {sp : List (Str × Addr) → List (Option V) → Sp}
    (F : FunD K x qual params body scope dvs kws f fd) (S : FnScope N ps scope) (len : ∀ cl ws vs H Q E, sp cl ws vs H Q E → vs.length = ps.length)
    (hbody : ∀ (cdv : Value) (A : Around) (outer : List Env) (s : Shared) (H : Hp) (vs : List V) (cl : List (Str × Addr)) (ws : List (Option V)) (Q : VK) (E : XK), Room k (A.deeper (envOfC qual scope s.heap.objs.size f cdv)) → CellsAt cl fr ws s.heap H → sp cl ws vs H Q E →
      ∃ t, PSs (cxOf CX P w K mg base N qual scope f cdv A outer s H E) body t ∧ t { nx := fun _ H' => Q .non H', rt := Q } (start N vs) H) : CFn P w K mg base CX (k + 1) f fd ps fr sp := by
  obtain ⟨oc, od, dV, kV, doc, pm, an, cdv, ct, osl, rfl, lk, hcd, _, _⟩ := F.ex
  exact cfn_of lk hcd S len fun A outer s H vs cl ws Q E hr C hsp => hbody cdv A outer s H vs cl ws Q E hr C hsp
theorem iteFB {c : Bool} {A B : Prop} (hc : c = false) (h : B) : if c = true then A else B := by
  rw [if_neg (by rw [hc]; decide)]
  exact h
theorem iteTB {c : Bool} {A B : Prop} (hc : c = true) (h : A) : if c = true then A else B := by
  rw [if_pos hc]
  exact h
def badW (wt : Pr → Bool) (p : Pr) : Prop := wt p = true
/-- the row is of deeds, and leads to a pair that is wanted -/
def PartW (b : Sd) (wt : Pr → Bool) (x y : Str) (row : List Str) : Prop := (∀ d ∈ row, d ∈ b.deeds) ∧ wt (b.lead x row, b.lead y row) = true
theorem tab_inW {b : Sd} {bad : Pr → Prop} (ok : b.Ok) {p0 : Pr} (h1 : p0.1 ∈ b.names) (h2 : p0.2 ∈ b.names) {tab : List (Pr × List Str)} {n : Nat} (B : Bfs (stepP b) bad b.deeds p0 tab n) : ∀ t ∈ tab, t.1.1 ∈ b.names ∧ t.1.2 ∈ b.names := fun t ht => by
  obtain ⟨e, hd⟩ := B.lead t ht
  rw [run_lead] at e
  rw [← e]
  exact ⟨lead_in ok hd h1, lead_in ok hd h2⟩
theorem tab_fewW {b : Sd} {bad : Pr → Prop} (ok : b.Ok) {p0 : Pr} (h1 : p0.1 ∈ b.names) (h2 : p0.2 ∈ b.names) {tab : List (Pr × List Str)} {n : Nat} (B : Bfs (stepP b) bad b.deeds p0 tab n) : tab.length ≤ 25 := by
  have h := nd_le (m := b.names.flatMap fun a => b.names.map fun c => (a, c)) B.nodup fun z hz => by
    obtain ⟨t, ht, rfl⟩ := List.mem_map.mp hz
    obtain ⟨a1, a2⟩ := tab_inW ok h1 h2 B t ht
    exact List.mem_flatMap.mpr ⟨_, a1, List.mem_map.mpr ⟨_, a2, rfl⟩⟩
  rw [pairs_len, List.length_map] at h
  have := Nat.mul_le_mul ok.n5 ok.n5
  omega
/-- the lambda f answers wt (l, r), whenever what is known now is still known -/
def spRowW (P : Program) (w : World) (K : PySem.W.Frag) (mg : Str → Option Value) (base : Heap) (fr : List Str) (C : Addr) : List (Str × Addr) → List (Option V) → Sp := fun cl ws vs H Q E => ∃ x b y z f F spw wt, vs = [.ref x, .str y, .str z, .ref f] ∧ StAt C H x b ∧ b.Ok ∧ y ∈ b.names ∧ z ∈ b.names ∧
  F.cl = cl ∧ H f = some (LfO f F) ∧ H F.c = some (CodeO F.c F.qual) ∧ LOk P w K mg base (L2.CX P w) 5 f F ["left", "right"] fr spw ∧
  (∀ H' l r (Q' : VK), Same H H' → l ∈ b.names → r ∈ b.names → Q' (.bl (wt (l, r))) H' → spw ws [.str l, .str r] H' Q' E) ∧
  (∀ H' p row, Same H H' → H p = none → H' p = some (.lst (sV row)) → PartW b wt y z row → (∀ r, PartW b wt y z r → row.length ≤ r.length) → Q (.ref p) H') ∧ ((∀ r, ¬ PartW b wt y z r) → ∀ H', Same H H' → Q .non H')
def WInv (H0 : Hp) (x R W f : Addr) (b : Sd) (wt : Pr → Bool) (p0 : Pr) (m : Nat) (σ : St) (H : Hp) : Prop := ∃ (tab : List (Pr × List Str)) (n : Nat) (es : List (Pr × Addr)) (ws : List Addr) (c5 c6 c7 c8 c9 : Option V),
  σ = [some (.ref x), some (.str p0.1), some (.str p0.2), some (.ref f), some (.ref R), some (.ref W), c5, c6, c7, c8, c9] ∧ Same H0 H ∧ H R = some (.dT (kvT es)) ∧ Paired (RowAt H0 (vw R W H)) es tab ∧ H W = some (.lst (ws.map V.ref)) ∧ Paired (PairT (vw R W H)) ws ((tab.drop n).map (·.1)) ∧
  Bfs (stepP b) (badW wt) b.deeds p0 tab n ∧ m + n = 26
end Pl
end L2
namespace Bs
open PySem PySem.Spec PyProof.Rows L2 L2.Pl LamP NdefX LamX
section
variable {P : Program} {w : World} {K : PySem.W.Frag} {mg : Str → Option Value} {base : Heap} {f : Addr} {fd : FuncData}
abbrev NRw : List Str := ["store", "first", "second", "wanted", "rows", "waiting", "left", "right", "row", "deed", "behind"]
theorem scRowWhere : FnScope NRw ["store", "first", "second", "wanted"] (defScope sRowWhere) := ⟨rfl, rfl, rfl, by decide +kernel, rfl, by decide +kernel, by decide +kernel⟩
theorem ok_rowWhere {C CN : Addr} (fr : List Str) (T : StF K mg C) (M : StM P w K mg base C CN) (F : FnP K "row_where" sRowWhere f fd) : CFn P w K mg base (L2.CX P w) 6 f fd ["store", "first", "second", "wanted"] fr (spRowW P w K mg base fr C) := by
  obtain ⟨fE, dE, oE, bE, mE⟩ := M.lead
  obtain ⟨pD, fD, dD, oD, bD, mD⟩ := M.dds
  refine cfn_ofD (CX := L2.CX P w) F scRowWhere (fun cl wsx vs H Q E h => ?_) (fun cdv A outer s H vs cl wsx Q E hr CC h => ?_)
  · obtain ⟨_, _, _, _, _, _, _, _, rfl, _⟩ := h
    rfl
  · obtain ⟨x, b, y, z, fL, FL, spw, wt, rfl, hx, ok, hy, hz, hcl, hfL, hcL, oL, hwt, q1, q2⟩ := h
    subst hcl
    have hr2 := hr.mono (j := 2) (by decide)
    have hr4 := hr.mono (j := 4) (by decide)
    refine ⟨_, pss_cons (ps_set (i := 4) scRowWhere.nd rfl (.inl rfl) (pe_dispT (hu_of hr) (pe_tup (pa_cons (pv 1) (pa_cons (pv 2) pa_nil))) (pe_lst pa_nil)))
      (pss_cons (ps_set (i := 5) scRowWhere.nd rfl (.inl rfl) (pe_lst (pa_cons (pe_tup (pa_cons (pv 1) (pa_cons (pv 2) pa_nil))) pa_nil)))
      (pss_cons (ps_while (passes_of rfl) (pt_truth (pv 5) (by intro _; rfl))
        (pss_cons (ps_asg (pe_bm PySem.F.plainAttrs_list PySem.F.slot_list_pop PySem.F.type_list_pop mt_popAt (pv 5) (pa_cons pe_int pa_nil)) (pg_tup rfl (pgs_cons (pg_name (i := 6) scRowWhere.nd rfl (.inl rfl)) (pgs_cons (pg_name (i := 7) scRowWhere.nd rfl (.inl rfl)) pgs_nil))))
        (pss_cons (ps_set (i := 8) scRowWhere.nd rfl (.inl rfl) (pe_dget (hu_of hr) (pv 4) (pe_tup (pa_cons (pv 6) (pa_cons (pv 7) pa_nil))) (fun _ _ => rfl)))
        (pss_cons (ps_if (pt_val (pe_calll1 (i := 3) oL CC rfl hr (Nat.le_refl _) (passes_call (takes_of rfl rfl rfl rfl) fun _ _ _ _ h => h) rfl (.inl rfl) (pa_cons (pv 6) (pa_cons (pv 7) pa_nil)))) (pss_one (ps_ret (pv 8))) pss_nil)
        (pss_one (ps_for (passes_of rfl) rfl (pi_tup (pe_prop (pv 0) T.cl mD oD hr2 bD .nil pass0 (by rfl))) (pg_name (i := 9) scRowWhere.nd rfl (.inl rfl))
          (pss_cons (ps_set (i := 10) scRowWhere.nd rfl (.inl rfl) (pe_tup (pa_cons (pe_meth (pv 0) T.cl mE oE hr4 bE .nil (passes_call (takes_of rfl rfl rfl rfl) fun _ _ _ _ h => h) (pa_cons (pv 6) (pa_cons (pe_lst (pa_cons (pv 9) pa_nil)) pa_nil))) (pa_cons (pe_meth (pv 0) T.cl mE oE hr4 bE .nil (passes_call (takes_of rfl rfl rfl rfl) fun _ _ _ _ h => h) (pa_cons (pv 7) (pa_cons (pe_lst (pa_cons (pv 9) pa_nil)) pa_nil))) pa_nil))))
          (pss_one (ps_if (pt_cmp (pc_dnotin (hu_of hr) (pv 10) (pv 4)))
            (pss_cons (ps_dput (hu_of hr) (pv 4) (pv 10) (pe_op op_cat (pv 8) (pe_lst (pa_cons (pv 9) pa_nil))) rfl)
            (pss_one (ps_expr (pe_bm PySem.F.plainAttrs_list PySem.F.slot_list_append PySem.F.type_list_append mt_append (pv 5) (pa_cons (pv 10) pa_nil))))) pss_nil)))))))))
      (pss_one (ps_ret pe_non)))), ?_⟩
    obtain ⟨dx, ts, td, dl, dk, es0, h1, h2, h3, h4, h5, h6⟩ := id hx
    have nE : (stFs ts td dl dk).lookup ("lead" : Str) = none := st_no (by decide +kernel)
    refine fun R hR => ⟨_, rfl, _, rfl, by show 2 ≤ sizeLine; decide, fun T0 hT0 => ⟨Nat.zero_le _, fun L0 hL0 => ?_⟩⟩
    have R0 : (upd H R (.dT [])) R = some (.dT []) := upd_same
    have nRT : R ≠ T0 := ne_of_none R0 hT0
    have R1 : (upd (upd H R (.dT [])) T0 (.tup [.str y, .str z])) R = some (.dT []) := (upd_ne nRT).trans R0
    have nRL : R ≠ L0 := ne_of_none R1 hL0
    have nTL : T0 ≠ L0 := ne_of_none upd_same hL0
    refine ⟨(upd_ne nRL).trans R1, T0, keyP (y, z), rfl, (upd_ne nTL).trans upd_same, ?_⟩
    have T0n : H T0 = none := (upd_ne nRT.symm).symm.trans hT0
    have L0n : H L0 = none := (upd_ne nRL.symm).symm.trans ((upd_ne nTL.symm).symm.trans hL0)
    have sH : Same H (upd (upd (upd (upd H R (.dT [])) T0 (.tup [.str y, .str z])) L0 (.lst [])) R (.dT [(keyP (y, z), .ref L0)])) := same_wr (same_wr (same_wr (same_new hR) T0n) L0n) hR
    have atL : (upd (upd (upd (upd H R (.dT [])) T0 (.tup [.str y, .str z])) L0 (.lst [])) R (.dT [(keyP (y, z), .ref L0)])) L0 = some (.lst []) := (upd_ne nRL.symm).trans upd_same
    have atR : (upd (upd (upd (upd H R (.dT [])) T0 (.tup [.str y, .str z])) L0 (.lst [])) R (.dT [(keyP (y, z), .ref L0)])) R = some (.dT [(keyP (y, z), .ref L0)]) := upd_same
    generalize upd (upd (upd (upd H R (.dT [])) T0 (.tup [.str y, .str z])) L0 (.lst [])) R (.dT [(keyP (y, z), .ref L0)]) = H1 at *
    refine ⟨_, rfl, _, rfl, by show 2 ≤ sizeLine; decide, fun T1 hT1 => ⟨by show 1 ≤ sizeLine; decide, fun W hW => ?_⟩⟩
    have nT1W : T1 ≠ W := ne_of_none upd_same hW
    have W1 : H1 W = none := (upd_ne nT1W.symm).symm.trans hW
    have s2 : Same H1 (upd (upd H1 T1 (.tup [.str y, .str z])) W (.lst [.ref T1])) := same_wr (same_new hT1) W1
    have nRW : R ≠ W := ne_of_none atR W1
    refine ⟨WInv H x R W fL b wt (y, z), ⟨26, [((y, z), [])], 0, [((y, z), L0)], [T1], none, none, none, none, none, rfl, sH.trans s2, s2 _ _ atR, .cons ⟨rfl, vw_of nRL.symm (ne_of_none atL W1) (s2 _ _ atL), L0n⟩ .nil, upd_same, .cons (vw_of (ne_of_none atR hT1).symm nT1W ((upd_ne nT1W).trans upd_same)) .nil, Bfs.begin, rfl⟩, ?_⟩
    rintro m σ H2 ⟨tab, n, es, ws, c5, c6, c7, c8, c9, rfl, m2, hRr, hes, hWw, hws, B, hm⟩
    have few := tab_fewW ok hy hz B
    refine ⟨_, rfl, !(ws.map V.ref).isEmpty, .inl ⟨_, SqL.of hWw, rfl⟩, ?_⟩
    cases ws with
    | nil =>
      refine iteF ?_
      have l0 := hws.length
      rw [List.length_nil, List.length_map, List.length_drop] at l0
      refine q2 (fun r hr => B.none (by omega) hr.1 ?_) H2 m2
      rw [run_lead]
      exact hr.2
    | cons a ws =>
      refine iteT ?_
      have l0 := hws.length
      rw [List.length_cons, List.length_map, List.length_drop] at l0
      obtain ⟨t, ht⟩ : ∃ t, tab[n]? = some t := ⟨_, List.getElem?_eq_getElem (by omega)⟩
      have hdrop : tab.drop n = t :: tab.drop (n + 1) := by
        rw [List.drop_eq_getElem_cons (by omega)]
        rw [List.getElem?_eq_getElem (by omega)] at ht
        rw [Option.some.inj ht]
      rw [hdrop, List.map_cons] at hws
      obtain ⟨hwa, hws⟩ : PairT (vw R W H2) a t.1 ∧ Paired (PairT (vw R W H2)) ws ((tab.drop (n + 1)).map (·.1)) := by
        cases hws with
        | cons u v => exact ⟨u, v⟩
      obtain ⟨in1, in2⟩ := tab_inW ok hy hz B t (List.mem_of_getElem? ht)
      obtain ⟨naR, naW, ha⟩ := vw_get hwa
      refine ⟨WInv H x R W fL b wt (y, z) (m - 1), fun σ' H' p => ⟨m - 1, by omega, p⟩, ?_⟩
      refine ⟨_, rfl, .inl ⟨rfl, _, SqL.of hWw⟩, W, _, 0, 0, .ref a, rfl, rfl, hWw, by decide, by decide, PySem.StrLaws.seqIndex_nonneg (Int.le_refl 0) (by rw [List.length_map, List.length_cons]; omega), rfl, ?_⟩
      have W3 : (upd H2 W (.lst (((a :: ws).map V.ref).eraseIdx 0))) W = some (.lst (ws.map V.ref)) := upd_same
      have R3 : (upd H2 W (.lst (((a :: ws).map V.ref).eraseIdx 0))) R = some (.dT (kvT es)) := (upd_ne nRW).trans hRr
      have m3 : Same H (upd H2 W (.lst (((a :: ws).map V.ref).eraseIdx 0))) := same_wr m2 ((sH.trans (same_new hT1)).free hW)
      have hes3 : Paired (RowAt H (vw R W (upd H2 W (.lst (((a :: ws).map V.ref).eraseIdx 0))))) es tab := hes.mono fun _ _ q => q.same vw_W
      have hws3 : Paired (PairT (vw R W (upd H2 W (.lst (((a :: ws).map V.ref).eraseIdx 0))))) ws ((tab.drop (n + 1)).map (·.1)) := hws.mono fun _ _ q => vw_W _ _ q
      have ha3 : (upd H2 W (.lst (((a :: ws).map V.ref).eraseIdx 0))) a = some (.tup [.str t.1.1, .str t.1.2]) := (upd_ne naW).trans ha
      have W0 : H W = none := (sH.trans (same_new hT1)).free hW
      generalize upd H2 W (.lst (((a :: ws).map V.ref).eraseIdx 0)) = H3 at *
      refine ⟨a, _, rfl, .inl (.inl ha3), rfl, _, [.str t.1.2], rfl, _, [], rfl, rfl, ?_⟩
      obtain ⟨e, he, eRow⟩ := row_at hes3 ht
      obtain ⟨e1', eAt, eNew⟩ := eRow
      obtain ⟨neR, neW, eAt⟩ := vw_get eAt
      refine ⟨_, rfl, _, rfl, _, rfl, by show 2 ≤ sizeLine; decide, fun T2 hT2 => ?_⟩
      have nRT2 : R ≠ T2 := ne_of_none R3 hT2
      have nWT2 : W ≠ T2 := ne_of_none W3 hT2
      have v1 : valV (kvT es) (keyP t.1) = some (.ref e.2) := by
        rw [← e1']
        exact val_nodup (kvT_nodup hes3 B.nodup) (keyP e.1, V.ref e.2) (List.mem_map.mpr ⟨e, List.mem_of_getElem? he, rfl⟩)
      refine ⟨R, .ref e.2, rfl, ?_, ?_⟩
      · rw [← v1]
        exact DGet.t ((upd_ne nRT2).trans R3) upd_same
      have m4 : Same H (upd H3 T2 (.tup [.str t.1.1, .str t.1.2])) := m3.trans (same_new hT2)
      have s34 : Same H3 (upd H3 T2 (.tup [.str t.1.1, .str t.1.2])) := same_new hT2
      have R4 := s34 _ _ R3
      have W4 := s34 _ _ W3
      have hes4 := hes3.mono fun _ _ q => RowAt.same q (vw_same s34)
      have hws4 := hws3.mono fun _ _ q => vw_same s34 _ _ q
      have eAt4 := s34 _ _ eAt
      generalize upd H3 T2 (.tup [.str t.1.1, .str t.1.2]) = H4 at *
      obtain ⟨tl, tdd⟩ := B.lead t (List.mem_of_getElem? ht)
      rw [run_lead] at tl
      refine ⟨rfl, m4 _ _ hfL, _, rfl, _, rfl, m4 _ _ hfL, m4 _ _ hcL, hwt _ _ _ _ m4 in1 in2 ⟨_, rfl, ?_⟩⟩
      by_cases hb : wt t.1 = false
      · refine iteFB hb ?_
        have tdeeds : sV (b.ds.map (·.1)) = sV b.deeds := rfl
        have ld : (sV b.deeds).length = b.deeds.length := List.length_map _
        refine ⟨_, rfl, x, dx, _, rfl, m4 _ _ h1, x, dx, _, .ref td, rfl, m4 _ _ h1, st_look2, td, rfl, ⟨_, SqT.up (m4 _ _ h3)⟩, ?_⟩
        refine for_tup (K := K) (a := td) (xs := sV b.deeds) (fun i σ H' => ∃ (tab : List (Pr × List Str)) (es : List (Pr × Addr)) (ws : List Addr) (c8 c9 : Option V), σ = [some (.ref x), some (.str y), some (.str z), some (.ref fL), some (.ref R), some (.ref W), some (.str t.1.1), some (.str t.1.2), some (.ref e.2), c8, c9] ∧ Same H H' ∧ H' R = some (.dT (kvT es)) ∧ Paired (RowAt H (vw R W H')) es tab ∧ H' W = some (.lst (ws.map V.ref)) ∧
            Paired (PairT (vw R W H')) ws ((tab.drop (n + 1)).map fun u : Pr × List Str => u.1) ∧ Bfs1 (stepP b) (badW wt) b.deeds (y, z) tab n t (b.deeds.take i) ∧ vw R W H' e.2 = some (.lst (sV t.2)))
          ⟨tab, es, ws, c8, c9, rfl, m4, R4, hes4, W4, hws4, Bfs1.first B ht (fun h => by rw [show wt t.1 = true from h] at hb; cases hb), vw_of neR neW eAt4⟩ (fun i σ H' _ ⟨_, _, _, _, _, _, m, _⟩ => SqT.up (m _ _ h3)) ?_ ?_
        · rintro i y1 σ H5 hi ⟨tab, es, ws, c8, c9, rfl, m5, R5, hes5, W5, hws5, B1, eAt5⟩
          obtain ⟨d, hd, rfl⟩ : ∃ d, b.deeds[i]? = some d ∧ y1 = .str d := by
            rw [List.getElem?_map] at hi
            cases e : b.deeds[i]? with
            | none =>
              rw [e] at hi
              cases hi
            | some u =>
              rw [e] at hi
              exact ⟨u, rfl, (Option.some.inj hi).symm⟩
          have hdin := List.mem_of_getElem? hd
          refine ⟨_, rfl, x, dx, _, rfl, m5 _ _ h1, nE, _, rfl, _, rfl, by show 1 ≤ sizeLine; decide, fun l1 hl1 => ?_⟩
          have s6 : Same H5 (upd H5 l1 (.lst [.str d])) := same_new hl1
          refine ⟨x, b, .str t.1.1, l1, [d], rfl, hx.same (m5.trans s6), ok, SqL.of upd_same, (by show 1 ≤ 1000; decide), fun c hc => List.mem_singleton.mp hc ▸ hdin, .inl ⟨_, rfl, in1⟩, fun z1 ez _ H6 m6 => ?_, fun nst => (not_noSt in1 nst).elim⟩
          cases ez
          have s56 := s6.trans m6
          refine ⟨_, rfl, x, dx, _, rfl, s56 _ _ (m5 _ _ h1), nE, _, rfl, _, rfl, by show 1 ≤ sizeLine; decide, fun l2 hl2 => ?_⟩
          have s7 : Same H6 (upd H6 l2 (.lst [.str d])) := same_new hl2
          refine ⟨x, b, .str t.1.2, l2, [d], rfl, hx.same (m5.trans (s56.trans s7)), ok, SqL.of upd_same, (by show 1 ≤ 1000; decide), fun c hc => List.mem_singleton.mp hc ▸ hdin, .inl ⟨_, rfl, in2⟩, fun z1 ez _ H7 m7 => ⟨by show 2 ≤ sizeLine; decide, fun T3 hT3 => ?_⟩, fun nst => (not_noSt in2 nst).elim⟩
          cases ez
          have s57 := s56.trans (s7.trans m7)
          have s8 : Same H7 (upd H7 T3 (.tup [.str (b.lead t.1.1 [d]), .str (b.lead t.1.2 [d])])) := same_new hT3
          have s58 := s57.trans s8
          have T3at : (upd H7 T3 (.tup [.str (b.lead t.1.1 [d]), .str (b.lead t.1.2 [d])])) T3 = some (.tup [.str (b.lead t.1.1 [d]), .str (b.lead t.1.2 [d])]) := upd_same
          have nT3R : T3 ≠ R := (ne_of_none (s57 _ _ R5) hT3).symm
          have nT3W : T3 ≠ W := (ne_of_none (s57 _ _ W5) hT3).symm
          generalize upd H7 T3 (.tup [.str (b.lead t.1.1 [d]), .str (b.lead t.1.2 [d])]) = H8 at *
          have m8 := m5.trans s58
          have R8 := s58 _ _ R5
          have W8 := s58 _ _ W5
          have hes8 := hes5.mono fun _ _ q => RowAt.same q (vw_same s58)
          have hws8 := hws5.mono fun _ _ q => vw_same s58 _ _ q
          have eAt8 := vw_same s58 _ _ eAt5
          have few5 := tab_fewW ok hy hz B1.b
          have hstep : stepP b d t.1 = (b.lead t.1.1 [d], b.lead t.1.2 [d]) := rfl
          refine ⟨_, rfl, _, rfl, R, _, rfl, DGet.t (k := keyP (stepP b d t.1)) R8 T3at, _, rfl, ?_⟩
          by_cases hin : stepP b d t.1 ∈ tab.map (·.1)
          · obtain ⟨u, hu, hue⟩ := List.mem_map.mp hin
            obtain ⟨j, hj⟩ := List.mem_iff_getElem?.mp hu
            obtain ⟨e3, he3, r3⟩ := row_at hes8 hj
            have v3 : valV (kvT es) (keyP (stepP b d t.1)) = some (.ref e3.2) := by
              rw [← hue, ← r3.1]
              exact val_nodup (kvT_nodup hes8 B1.b.nodup) (keyP e3.1, V.ref e3.2) (List.mem_map.mpr ⟨e3, List.mem_of_getElem? he3, rfl⟩)
            rw [v3]
            refine iteF ⟨tab, es, ws, some (.str d), some (.ref T3), rfl, m8, R8, hes8, W8, hws8, ?_, eAt8⟩
            rw [List.take_succ, hd]
            exact B1.old hj hue
          · have v3 : valV (kvT es) (keyP (stepP b d t.1)) = none := val_none fun q hq e => hin (by
              have h2 : q.1 ∈ (kvT es).map (·.1) := List.mem_map_of_mem hq
              rw [rows_keys hes8] at h2
              obtain ⟨p, hp, e2⟩ := List.mem_map.mp h2
              rw [← keyP_inj (e2.trans e)]
              exact hp)
            rw [v3]
            refine iteT ?_
            obtain ⟨ne1, ne2, eAt8'⟩ := vw_get eAt8
            refine ⟨_, rfl, _, rfl, by show 1 ≤ sizeLine; decide, fun l3 hl3 => ?_⟩
            have s9 : Same H8 (upd H8 l3 (.lst [.str d])) := same_new hl3
            have tsh : t.2.length ≤ 25 := by
              have a1 := B1.b.short n t B1.at_
              have a2 := (List.getElem?_eq_some_iff.mp B1.at_).1
              omega
            refine ⟨e.2, l3, sV t.2, [.str d], rfl, rfl, s9 _ _ eAt8', upd_same, ?_, fun p hp => ?_⟩
            · rw [List.length_map, sizeLine_eq]
              show t.2.length + 1 ≤ _
              omega
            have s10 : Same H8 (upd (upd H8 l3 (.lst [.str d])) p (.lst (sV t.2 ++ [.str d]))) := s9.trans (same_new hp)
            have pat : (upd (upd H8 l3 (.lst [.str d])) p (.lst (sV t.2 ++ [.str d]))) p = some (.lst (sV t.2 ++ [.str d])) := upd_same
            have pR : p ≠ R := (ne_of_none (s9 _ _ R8) hp).symm
            have pW : p ≠ W := (ne_of_none (s9 _ _ W8) hp).symm
            have pn : H8 p = none := s9.free hp
            generalize upd (upd H8 l3 (.lst [.str d])) p (.lst (sV t.2 ++ [.str d])) = H10 at *
            have les : es.length = tab.length := hes8.length
            have lws := hws8.length
            rw [List.length_map, List.length_drop] at lws
            refine ⟨_, rfl, _, rfl, R, _, rfl, DPut.t (k := keyP (stepP b d t.1)) (s10 _ _ R8) (s10 _ _ T3at) (small1000 (by rw [List.length_map]; omega)), ?_⟩
            rw [putK_new _ v3]
            have W11 : (upd H10 R (.dT (kvT es ++ [(keyP (stepP b d t.1), .ref p)]))) W = some (.lst (ws.map V.ref)) := (upd_ne nRW.symm).trans (s10 _ _ W8)
            refine ⟨_, rfl, .inl ⟨rfl, _, SqL.of W11⟩, _, rfl, W, _, .ref T3, rfl, rfl, W11, small1000 (by rw [List.length_map]; omega), ?_⟩
            have fr : ∀ {a : Addr}, H8 a = none → H a = none := fun h => m8.free h
            have v12 : Same (vw R W H10) (vw R W (upd (upd H10 R (.dT (kvT es ++ [(keyP (stepP b d t.1), .ref p)]))) W (.lst (ws.map V.ref ++ [.ref T3])))) := vw_R.trans vw_W
            have v8 := (vw_same (R := R) (W := W) s10).trans v12
            refine ⟨tab ++ [(stepP b d t.1, t.2 ++ [d])], es ++ [(stepP b d t.1, p)], ws ++ [T3], some (.str d), some (.ref T3), rfl, same_wr (same_wr (m8.trans s10) hR) W0, ?_, ?_, ?_, ?_, ?_, v8 _ _ eAt8⟩
            · rw [upd_ne nRW, upd_same]
              show some (HO.dT (kvT es ++ [(keyP (stepP b d t.1), V.ref p)])) = some (HO.dT (List.map _ (es ++ [(stepP b d t.1, p)])))
              rw [List.map_append]
              rfl
            · refine (hes8.mono fun _ _ q => RowAt.same q v8).snoc ⟨rfl, v12 _ _ (vw_of pR pW (pat.trans ?_)), fr pn⟩
              show _ = some (HO.lst (List.map V.str (t.2 ++ [d])))
              rw [List.map_append]
              rfl
            · rw [upd_same, List.map_append]
              rfl
            · have lt : n + 1 ≤ tab.length := (List.getElem?_eq_some_iff.mp B1.at_).1
              rw [List.drop_append_of_le_length lt, List.map_append]
              exact (hws8.mono fun _ _ q => v8 _ _ q).snoc (v8 _ _ (vw_of nT3R nT3W T3at))
            · rw [List.take_succ, hd]
              exact B1.new hdin hin
        · rintro σ H5 ⟨tab, es, ws, c8, c9, rfl, m5, R5, hes5, W5, hws5, B1, eAt5⟩
          rw [ld, List.take_length] at B1
          exact ⟨tab, n + 1, es, ws, _, _, _, _, _, rfl, m5, R5, hes5, W5, hws5, B1.next, by omega⟩
      · have hb : wt t.1 = true := by
          cases e : wt t.1 with
          | true => rfl
          | false => exact absurd e hb
        refine iteTB hb ⟨_, rfl, q1 H4 e.2 t.2 m4 eNew eAt4 ⟨tdd, ?_⟩ fun r hr => ?_⟩
        · have e3 := congrArg Prod.fst tl
          have e4 := congrArg Prod.snd tl
          dsimp only at e3 e4
          rw [e3, e4]
          exact hb
        · refine B.least ht hr.1 ?_
          show wt _ = true
          rw [run_lead]
          exact hr.2
end
end Bs
set_option Elab.async false
set_option linter.all false
set_option maxRecDepth 100000
set_option maxHeartbeats 2000000
/-! parting over row_where: the lambda that it makes, and what it promises; SameT: all but the tables of code objects stays -/
namespace L2
namespace Pl
open PySem PySem.Spec PyProof.Rows LamP NdefX LamX
def NT (o : HO) : Prop := ∀ ps, o ≠ .tbl ps
abbrev Keeps (H H' : Hp) : Prop := ∀ b o, H b = some o → (h : NT o := by exact fun _ z => nomatch z) → H' b = some o
/-- all but the tables of code objects stays; what the tables T tell still holds -/
structure SameT (T : List NTab) (H H' : Hp) : Prop where
  keep : Keeps H H'
  fre : ∀ b, H' b = none → H b = none
  tabs : TabsN T H → TabsN T H'
instance {T : List NTab} {H H' : Hp} : CoeFun (SameT T H H') fun _ => Keeps H H' := ⟨@SameT.keep T H H'⟩
theorem SameT.refl {T : List NTab} (H : Hp) : SameT T H H := ⟨fun _ _ h _ => h, fun _ h => h, id⟩
theorem SameT.trans {T : List NTab} {H H1 H2 : Hp} (a : SameT T H H1) (b : SameT T H1 H2) : SameT T H H2 := ⟨fun c o h n => b.keep c o (a.keep c o h n) n, fun c h => a.fre c (b.fre c h), fun h => b.tabs (a.tabs h)⟩
theorem SameT.free {T : List NTab} {H H' : Hp} (e : SameT T H H') {l : Addr} (h : H' l = none) : H l = none := e.fre l h
theorem Same.t {T : List NTab} {H H' : Hp} (m : Same H H') : SameT T H H' := ⟨fun c o h _ => m c o h, fun _ h => m.free h, fun t => t.ext m⟩
theorem SameT.seq {T : List NTab} {K : PySem.W.Frag} {H H' : Hp} {a : Addr} {xs : List V} (e : SameT T H H') (h : SqL K H a xs) : SqL K H' a xs := by
  rcases h with h | h
  · exact .inl (h.elim (fun z => .inl (e.keep _ _ z)) fun ⟨o, z⟩ => .inr ⟨o, e.keep _ _ z⟩)
  · exact .inr h
theorem sameT_new {T : List NTab} {H : Hp} {p : Addr} {o : HO} (h : H p = none) : SameT T H (upd H p o) := Same.t (same_new h)
theorem DeedAt.sameT {T : List NTab} {H H' : Hp} {e : Str × Addr} {p : Str × List (Str × Str)} (h : DeedAt H e p) (m : SameT T H H') : DeedAt H' e p := ⟨h.1, m.keep _ _ h.2⟩
theorem StAt.sameT {T : List NTab} {C : Addr} {H H' : Hp} {x : Addr} {b : Sd} (h : StAt C H x b) (m : SameT T H H') : StAt C H' x b :=
  let ⟨dx, ts, td, dl, dk, es, h1, h2, h3, h4, h5, h6⟩ := h
  ⟨dx, ts, td, dl, dk, es, m.keep _ _ h1, m.keep _ _ h2, m.keep _ _ h3, m.keep _ _ h4, h5.mono fun _ _ q => q.sameT m, m.keep _ _ h6⟩
/-- what the lambda of parting answers -/
def wtP (b : Sd) (p : Pr) : Bool := !decide (V.str (b.look p.1) = V.str (b.look p.2))
theorem wtP_iff {b : Sd} {p : Pr} : wtP b p = true ↔ b.look p.1 ≠ b.look p.2 := by
  unfold wtP
  simp
def spLamP (C : Addr) : List (Option V) → Sp := fun ws vs H Q E => ∃ x b l r, ws = [some (.ref x)] ∧ vs = [.str l, .str r] ∧ StAt C H x b ∧ b.Ok ∧ l ∈ b.names ∧ r ∈ b.names ∧ Q (.bl (wtP b (l, r))) H
def spPartingN (K : PySem.W.Frag) (C CN : Addr) (T : List NTab) : Sp := fun vs H Q E => ∃ x b v1 v2, vs = [.ref x, v1, v2] ∧ TabsN T H ∧ StAt C H x b ∧ b.Ok ∧ ((∃ z, v1 = .str z ∧ z ∈ b.names) ∨ NoSt K H b v1) ∧ ((∃ z, v1 = .str z ∧ z ∈ b.names) → (∃ z, v2 = .str z ∧ z ∈ b.names) ∨ NoSt K H b v2) ∧
  (∀ y z, v1 = .str y → v2 = .str z → y ∈ b.names → z ∈ b.names → (∀ H' p row, SameT T H H' → H p = none → H' p = some (.lst (sV row)) → Parts b y z row → (∀ r, Parts b y z r → row.length ≤ r.length) → Q (.ref p) H') ∧ ((∀ r, ¬ Parts b y z r) → ∀ H', SameT T H H' → Q .non H')) ∧
  (NoSt K H b v1 → ∀ d, H d = none → E (.ref CN) (some d) (upd H d (.xd [("value", v1)]))) ∧ ((∃ z, v1 = .str z ∧ z ∈ b.names) → NoSt K H b v2 → ∀ d, H d = none → E (.ref CN) (some d) (upd H d (.xd [("value", v2)])))
theorem parts_iff {b : Sd} {y z : Str} {row : List Str} : PartW b (wtP b) y z row ↔ Parts b y z row := by
  unfold PartW Parts
  rw [wtP_iff]
/-- a lambda's parts -/
def lamArgs : Expr → Arguments
  | .Lambda a _ _ _ => a
  | _ => default
def lamBody : Expr → Expr
  | .Lambda _ b _ _ => b
  | e => e
def lamScope : Expr → Scope
  | .Lambda _ _ s _ => s
  | _ => default
/-- the last thing handed over by the last row of a def: return f(.., e) -/
def retArg (j : Nat) (st : Stmt) : Expr := match (defBody st).getLast? with
  | some (.Return (some (.Call _ args _ _)) _) => args.getD j (.Constant .none 0 ⟨0, 0, 0, 0⟩)
  | _ => .Constant .none 0 ⟨0, 0, 0, 0⟩
end Pl
end L2
namespace Bs
open PySem PySem.Spec PyProof.Rows L2 L2.Pl LamP NdefX LamX
section
variable {P : Program} {w : World} {K : PySem.W.Frag} {mg : Str → Option Value} {base : Heap} {f : Addr} {fd : FuncData}
abbrev eLam : Expr := retArg 3 sParting
abbrev mkLam (q : Str) (cl : List (Str × Addr)) (c' : Addr) : LF := ⟨q, lamArgs eLam, lamBody eLam, lamScope eLam, cl, c'⟩
theorem scLam : NScope ["left", "right", "store"] ["left", "right"] ["store"] (lamScope eLam) := nscope_by (by decide +kernel)
theorem ok_lam {C CN : Addr} (T : StF K mg C) (M : StM P w K mg base C CN) (q : Str) (cl : List (Str × Addr)) (fa c' : Addr) : LOk P w K mg base (L2.CX P w) 5 fa (mkLam q cl c') ["left", "right"] ["store"] (spLamP C) := by
  obtain ⟨fL, dL, oL, bL, mL⟩ := M.look
  refine lok_of (CX := L2.CX P w) scLam (fun pm ctv us h => ?_) (fun ws vs H Q E h => ?_) (fun A outer s H vs ws Q E hr _ _ _ h => ?_)
  · match us, h with
    | [a, b], _ => rfl
  · obtain ⟨_, _, _, _, _, rfl, _⟩ := h
    rfl
  · obtain ⟨x, b, l, r, rfl, rfl, hx, ok, hl, hr', hq⟩ := h
    refine ⟨_, pe_cmpR op_ne (pe_meth (pv 2) T.cl mL oL hr bL .nil (passes_call (takes_of rfl rfl rfl rfl) fun _ _ _ _ h => h) (pa_cons (pv 0) pa_nil)) (pe_meth (pv 2) T.cl mL oL hr bL .nil (passes_call (takes_of rfl rfl rfl rfl) fun _ _ _ _ h => h) (pa_cons (pv 1) pa_nil)) (nomark _), ?_⟩
    obtain ⟨dx, ts, td, dl, dk, es0, h1, h2, h3, h4, h5, h6⟩ := id hx
    have nL : (stFs ts td dl dk).lookup ("look" : Str) = none := st_no (by decide +kernel)
    refine ⟨_, rfl, x, dx, _, rfl, h1, nL, _, rfl, x, b, .str l, rfl, hx, ok, .inl ⟨_, rfl, hl⟩, fun z1 ez _ => ?_, fun nst => (not_noSt hl nst).elim⟩
    cases ez
    refine ⟨_, rfl, x, dx, _, rfl, h1, nL, _, rfl, x, b, .str r, rfl, hx, ok, .inl ⟨_, rfl, hr'⟩, fun z1 ez _ => ?_, fun nst => (not_noSt hr' nst).elim⟩
    cases ez
    exact ⟨rfl, hq⟩
end
end Bs
set_option Elab.async false
set_option linter.all false
set_option maxRecDepth 100000
set_option maxHeartbeats 2000000
/-! parting over row_where -/
namespace Bs
open PySem PySem.Spec PyProof.Rows L2 L2.Pl LamP NdefX LamX
section
variable {P : Program} {w : World} {K : PySem.W.Frag} {mg : Str → Option Value} {base : Heap} {f : Addr} {fd : FuncData}
abbrev NPb : List Str := ["store", "first", "second"]
theorem scPartingN : FnScope NPb ["store", "first", "second"] (defScope sParting) := ⟨rfl, rfl, rfl, by decide +kernel, rfl, by decide +kernel, by decide +kernel⟩
theorem lam_nd : ndefB (defScope sParting) (lamScope eLam) ["store"] = true := by decide +kernel
theorem ok_partingN {C CN : Addr} {TT : List NTab} {nm : Nat → Nat → Str} {c PT g : Addr} {gd : FuncData} (T : StF K mg C) (M : StM P w K mg base C CN) (F : FnP K "parting" sParting f fd) (oR : ∀ fr, CFn P w K mg base (L2.CX P w) 6 g gd ["store", "first", "second", "wanted"] fr (spRowW P w K mg base fr C)) (gR : mg "row_where" = some (.ref g)) (kR : PySem.W.keepIn K (.ref g) = true) (bR : L2.Binds K gd ["store", "first", "second", "wanted"] [])
    (hcode : fd.code = .ref c) (TB : TabB base mg c PT) (hm : (PT, nm) ∈ TT) (hn : ∀ i j, nm i j = "parting.<locals>.<lambda>") (hu : ∀ p ∈ TT, p.1 = PT → p.2 = nm) :
    FnOk P w K mg base (L2.CX P w) 7 f fd ["store", "first", "second"] (spPartingN K C CN TT) := by
  obtain ⟨fL, dL, oL, bL, mL⟩ := M.look
  obtain ⟨oc, od, dV, kV, doc, pm, an, cdv, ct, osl, rfl, lk, hcd, _, _⟩ := F.ex
  have hcode : cdv = .ref c := hcode
  subst hcode
  refine fn_of (CX := L2.CX P w) lk hcd scPartingN (fun vs H Q E h => ?_) (fun A outer s H vs Q E hr h => ?_)
  · obtain ⟨_, _, _, _, rfl, _⟩ := h
    rfl
  · obtain ⟨x, b, v1, v2, rfl, hT, hx, ok, c1, c2, q, e1, e2⟩ := h
    have hr4 := hr.mono (j := 4) (by decide)
    refine ⟨_, pss_cons (ps_expr (pe_meth (pv 0) T.cl mL oL hr4 bL .nil (passes_call (takes_of rfl rfl rfl rfl) fun _ _ _ _ h => h) (pa_cons (pv 1) pa_nil)))
      (pss_cons (ps_expr (pe_meth (pv 0) T.cl mL oL hr4 bL .nil (passes_call (takes_of rfl rfl rfl rfl) fun _ _ _ _ h => h) (pa_cons (pv 2) pa_nil)))
      (pss_one (ps_ret (pe_callC (js := [0]) (oR ["store"]) (fun ok => Caps.made ok (ndef_free lam_nd) (ndef_fr lam_nd) rfl) hr (by rfl) gR kR bR .nil (passes_call (takes_of rfl rfl rfl rfl) fun _ _ _ _ h => h)
        (pa_cons (pv 0) (pa_cons (pv 1) (pa_cons (pv 2) (pa_cons (pe_lambda TB rfl hm (hn _ _) hu (ndef_free lam_nd) (by rfl)) pa_nil)))))))), ?_⟩
    obtain ⟨dx, ts, td, dl, dk, es0, h1, h2, h3, h4, h5, h6⟩ := id hx
    have nL : (stFs ts td dl dk).lookup ("look" : Str) = none := st_no (by decide +kernel)
    refine ⟨_, rfl, x, dx, _, rfl, h1, nL, _, rfl, x, b, v1, rfl, hx, ok, c1, fun y ey hy => ?_, e1⟩
    subst ey
    refine ⟨_, rfl, x, dx, _, rfl, h1, nL, _, rfl, x, b, v2, rfl, hx, ok, c2 ⟨y, rfl, hy⟩, fun z ez hz => ?_, e2 ⟨y, rfl, hy⟩⟩
    subst ez
    obtain ⟨q1, q2⟩ := q y z rfl rfl hy hz
    refine ⟨_, rfl, _, rfl, _, rfl, hT, fun f' c' H1 eN nn T1 f0 fat cat => ?_⟩
    have sN : SameT TT H H1 := ⟨fun a o h n => eN a o h n, nn, fun _ => T1⟩
    refine ⟨x, b, y, z, f', _, spLamP C, wtP b, rfl, hx.sameT sN, ok, hy, hz, rfl, fat, cat, ok_lam T M _ _ _ _, fun H' l r Q' m hl hr' hq => ⟨x, b, l, r, rfl, rfl, (hx.sameT sN).same m, ok, hl, hr', hq⟩, fun H' p row m p0 pat hp hs => ?_, fun hno H' m => ?_⟩
    · exact q1 H' p row (sN.trans (Same.t m)) (nn _ p0) pat (parts_iff.mp hp) fun r hr => hs r (parts_iff.mpr hr)
    · exact q2 (fun r hr => hno r (parts_iff.mpr hr)) H' (sN.trans (Same.t m))
end
end Bs
set_option Elab.async false
set_option linter.all false
set_option maxRecDepth 100000
set_option maxHeartbeats 4000000
namespace L2
namespace Pl
open PySem PySem.Spec PyProof.Rows LamP NdefX LamX
def spAlikeN (K : PySem.W.Frag) (C CN : Addr) (TT : List NTab) : Sp := fun vs H Q E => ∃ x b v1 v2, vs = [.ref x, v1, v2] ∧ TabsN TT H ∧ StAt C H x b ∧ b.Ok ∧ ((∃ z, v1 = .str z ∧ z ∈ b.names) ∨ NoSt K H b v1) ∧ ((∃ z, v1 = .str z ∧ z ∈ b.names) → (∃ z, v2 = .str z ∧ z ∈ b.names) ∨ NoSt K H b v2) ∧
  (∀ y z, v1 = .str y → v2 = .str z → y ∈ b.names → z ∈ b.names → ∀ k H', (k = true ↔ Alike b y z) → SameT TT H H' → Q (.bl k) H') ∧
  (NoSt K H b v1 → ∀ d, H d = none → E (.ref CN) (some d) (upd H d (.xd [("value", v1)]))) ∧ ((∃ z, v1 = .str z ∧ z ∈ b.names) → NoSt K H b v2 → ∀ d, H d = none → E (.ref CN) (some d) (upd H d (.xd [("value", v2)])))
end Pl
end L2
namespace Bs
open PySem PySem.Spec PyProof.Rows L2 L2.Pl LamP NdefX LamX
section
variable {P : Program} {w : World} {K : PySem.W.Frag} {mg : Str → Option Value} {base : Heap} {f : Addr} {fd : FuncData}
theorem scAlike : FnScope ["store", "first", "second"] ["store", "first", "second"] (defScope sAlike) := ⟨rfl, rfl, rfl, by decide +kernel, rfl, by decide +kernel, by decide +kernel⟩
theorem ok_alikeN {C CN : Addr} {TT : List NTab} (F : FnP K "alike" sAlike f fd) (hP : Has P w K mg base (L2.CX P w) "parting" 7 ["store", "first", "second"] (spPartingN K C CN TT)) : FnOk P w K mg base (L2.CX P w) 8 f fd ["store", "first", "second"] (spAlikeN K C CN TT) := by
  obtain ⟨fP, dP, oP, bP, gP, kP⟩ := hP.ex
  refine F.ok (CX := L2.CX P w) scAlike (fun vs H Q E h => ?_) (fun cdv A outer s H vs Q E hr h => ?_)
  · obtain ⟨_, _, _, _, rfl, _⟩ := h
    rfl
  · obtain ⟨x, b, v1, v2, rfl, hT, hx, ok, c1, c2, q, e1, e2⟩ := h
    refine ⟨_, pss_one (ps_ret (pe_cmpR op_isN (pe_call oP hr (by rfl) gP kP bP .nil (passes_call (takes_of rfl rfl rfl rfl) fun _ _ _ _ h => h) (pa_cons (pv 0) (pa_cons (pv 1) (pa_cons (pv 2) pa_nil)))) pe_non (nomark _))), ?_⟩
    refine ⟨_, rfl, _, rfl, _, rfl, x, b, v1, v2, rfl, hT, hx, ok, c1, c2, fun y z ey ez hy hz => ⟨fun H' p row m _ hp _ _ => ⟨rfl, ?_⟩, fun hn H' m => ⟨rfl, ?_⟩⟩, e1, e2⟩
    · rename_i hpart _
      exact q y z ey ez hy hz _ H' ⟨fun h => (by cases of_decide_eq_true h), fun h => (h row hpart).elim⟩ m
    · exact q y z ey ez hy hz _ H' ⟨fun _ => hn, fun _ => by rfl⟩ m
end
end Bs
namespace L2
namespace Pl
open PySem PySem.Spec PyProof.Rows LamP NdefX LamX
theorem alikeN_use {K : PySem.W.Frag} {C CN : Addr} {TT : List NTab} {H : Hp} {x : Addr} {b : Sd} {y z : Str} {Q : VK} {E : XK} (hT : TabsN TT H) (hx : StAt C H x b) (ok : b.Ok) (hy : y ∈ b.names) (hz : z ∈ b.names) (q : ∀ k H', SameT TT H H' → (k = true ↔ Alike b y z) → Q (.bl k) H') : spAlikeN K C CN TT [.ref x, .str y, .str z] H Q E :=
  ⟨x, b, _, _, rfl, hT, hx, ok, .inl ⟨y, rfl, hy⟩, fun _ => .inl ⟨z, rfl, hz⟩, fun y1 z1 ey ez _ _ k H' hk m => by
    cases ey
    cases ez
    exact q k H' m hk, fun nst => (not_noSt hy nst).elim, fun _ nst => (not_noSt hz nst).elim⟩
end Pl
end L2
set_option Elab.async false
set_option linter.all false
set_option maxRecDepth 100000
set_option maxHeartbeats 2000000
/-! Mv beside tables of code objects: all but the source and the tables stays -/
namespace L2
namespace Pl
open PySem PySem.Spec PyProof.Rows LamP NdefX LamX
theorem TabsN.del {TT : List NTab} {H : Hp} {s : Addr} (h : TabsN TT H) (hs : Src H s) : TabsN TT (del H s) := fun t q => by
  obtain ⟨o1, o2, hs⟩ := hs
  obtain ⟨ps, a1, a2, a3⟩ := h t q
  refine ⟨ps, del_of (fun z => ?_) a1, a2, fun pos cv hc => ?_⟩
  · rw [z, hs] at a1
    cases a1
  · obtain ⟨c, e1, e2⟩ := a3 pos cv hc
    refine ⟨c, e1, del_of (fun z => ?_) e2⟩
    rw [z, hs] at e2
    unfold CodeO at e2
    cases e2
theorem TabsN.undel {TT : List NTab} {H : Hp} {s : Addr} (h : TabsN TT (L2.del H s)) : TabsN TT H := h.ext del_all
structure MvT (TT : List NTab) (s : Addr) (H H' : Hp) : Prop where
  src : Src H' s
  same : SameT TT (L2.del H s) (L2.del H' s)
section
variable {TT : List NTab} {s : Addr} {H H1 H' : Hp}
theorem MvT.refl (h : Src H s) : MvT TT s H H := ⟨h, SameT.refl _⟩
theorem MvT.trans (a : MvT TT s H H1) (b : MvT TT s H1 H') : MvT TT s H H' := ⟨b.src, a.same.trans b.same⟩
theorem Mv.t (m : Mv s H H') : MvT TT s H H' := ⟨m.src, Same.t m.same⟩
theorem SameT.mv (m : SameT TT H H') (h : Src H s) : MvT TT s H H' := by
  obtain ⟨own, mixed, q⟩ := h
  have s' : Src H' s := ⟨own, mixed, m.keep _ _ q⟩
  refine ⟨s', fun b o z n => ?_, fun b z => ?_, fun t => TabsN.del (m.tabs (TabsN.undel t)) s'⟩
  · obtain ⟨nb, z⟩ := del_some z
    exact del_of nb (m.keep _ _ z n)
  · by_cases e : b = s
    · rw [e]
      exact del_same
    · exact (del_ne e).trans (m.fre b ((del_ne e).symm.trans z))
theorem MvT.get {b : Addr} {o : HO} (m : MvT TT s H H') (n : b ≠ s) (h : H b = some o) (hn : NT o := by exact fun _ z => nomatch z) : H' b = some o := (del_some (m.same.keep _ _ (del_of n h) hn)).2
theorem MvT.free {p : Addr} (m : MvT TT s H H') (hs : Src H s) (h : H' p = none) : H p = none := by
  have e : p ≠ s := m.src.ne h
  exact (del_ne e).symm.trans (m.same.fre p ((del_ne e).trans h))
theorem MvT.tabs (m : MvT TT s H H') (hs : Src H s) (t : TabsN TT H) : TabsN TT H' := TabsN.undel (m.same.tabs (TabsN.del t hs))
theorem MvT.over {o : HO} (hs : H s = none) (ho : ∃ a b, o = .lst [.int a, .int b]) (m : MvT TT s (upd H s o) H') : SameT TT H H' := by
  obtain ⟨a, b, rfl⟩ := ho
  have S0 : Src (upd H s (.lst [.int a, .int b])) s := ⟨a, b, upd_same⟩
  refine ⟨fun c x e n => m.get (ne_of_none e hs) ((upd_ne (ne_of_none e hs)).trans e) n, fun c e => ?_, fun t => m.tabs S0 (t.ext (same_new hs))⟩
  have := m.free S0 e
  exact new_old this
end
end Pl
end L2
set_option Elab.async false
set_option linter.all false
set_option maxRecDepth 100000
set_option maxHeartbeats 4000000
/-! SameT for what the law's own parts know -/
namespace L2
namespace Pl
open PySem PySem.Spec PyProof.Rows LamP NdefX LamX
theorem seqT_sameT {TT : List NTab} {K : PySem.W.Frag} {H H' : Hp} {l : Addr} {xs : List V} (h : SqT K H l xs) (e : SameT TT H H') : SqT K H' l xs := by
  rcases h with (h | ⟨o, h⟩) | h
  · exact .inl (.inl (e.keep _ _ h))
  · exact .inl (.inr ⟨o, e.keep _ _ h⟩)
  · exact .inr h
theorem PairAt.sameT {TT : List NTab} {K : PySem.W.Frag} {H H' : Hp} {v : V} {p : Str × List Str} (h : PairAt K H v p) (e : SameT TT H H') : PairAt K H' v p :=
  let ⟨t, l, z, a, b⟩ := h
  ⟨t, l, z, seqT_sameT a e, seqT_sameT b e⟩
theorem BdAt.sameT {TT : List NTab} {K : PySem.W.Frag} {H H' : Hp} {a : Addr} {b : Bd} (h : BdAt K H a b) (e : SameT TT H H') : BdAt K H' a b :=
  let ⟨n, d, l, ps, h1, h2, h3, h4, h5⟩ := h
  ⟨n, d, l, ps, seqT_sameT h1 e, (let ⟨o, q, r⟩ := h2; ⟨o, e.keep _ _ q, r⟩), seqT_sameT h3 e, h4.mono fun _ _ q => q.sameT e, seqT_sameT h5 e⟩
theorem sameT_wr {TT : List NTab} {H H' : Hp} {p : Addr} {o : HO} {xs : List V} (m : SameT TT H H') (hp : H p = none) (hq : H' p = some (.lst xs)) : SameT TT H (upd H' p o) := by
  refine ⟨fun c u h n => (upd_ne (ne_of_none h hp)).trans (m.keep c u h n), fun c h => m.fre c ?_, fun t q hqT => ?_⟩
  · by_cases e : c = p
    · rw [e, upd_same] at h
      cases h
    · exact (upd_ne e).symm.trans h
  · obtain ⟨ps, a1, a2, a3⟩ := m.tabs t q hqT
    refine ⟨ps, (upd_ne fun z => ?_).trans a1, a2, fun pos cv hc => ?_⟩
    · rw [z, hq] at a1
      cases a1
    · obtain ⟨c, e1, e2⟩ := a3 pos cv hc
      refine ⟨c, e1, (upd_ne fun z => ?_).trans e2⟩
      rw [z, hq] at e2
      unfold CodeO at e2
      cases e2
end Pl
end L2
set_option Elab.async false
set_option linter.all false
set_option maxRecDepth 100000
set_option maxHeartbeats 2000000
/-! comprehensions over heaps of which all but the tables stays;  -/
namespace L2
namespace Pl
open PySem PySem.Spec PyProof.Rows LamP NdefX LamX
theorem lc_smT {TT : List NTab} {J : It} {G : Hp → Prop} {xs : List V} (w : Walk J xs.length G (YAt xs)) {g : TG} {tt : L2.TT} {te : TE} {vs : List Nat} {σ : St} {H1 : Hp} {D : Addr} {Qd : Hp → Prop}
    (keep : V → Bool) (R : V → V → Prop) (hD : H1 D = none) (hG : ∀ H, SameT TT H1 H → G H) (hlen : xs.length ≤ 1000)
    (step : ∀ (x : V) (H' : Hp) (N : Hp → Prop) (Y : VK), x ∈ xs → SameT TT H1 H' → (∃ acc, H' D = some (.lst acc)) → (keep x = false → ∀ H3, SameT TT H1 H3 → H3 D = H' D → N H3) → (keep x = true → ∀ y H4, SameT TT H1 H4 → H4 D = H' D → R x y → Y y H4) →
      g x (wipe σ vs) H' fun σ2 H2 => wipe σ2 vs = wipe σ vs ∧ tt σ2 H2 fun b H3 => if b = true then te σ2 H3 Y else N H3)
    (hd : ∀ H ys, SameT TT H1 H → H D = some (.lst ys) → Paired R (xs.filter keep) ys → Qd H) :
    ∃ W : Nat → Nat → Hp → Prop, (∃ m, W 0 m (upd H1 D (.lst []))) ∧ ∀ i m H, W i m H →
      (J.stop i H ∧ Qd H) ∨ (J.go i H ∧ ∃ Nx : Hp → Prop, (∀ H', Nx H' → ∃ m', m' < m ∧ W (i + 1) m' H') ∧ ∀ x H', J.yld i H x H' → g x (wipe σ vs) H' fun σ2 H2 => wipe σ2 vs = wipe σ vs ∧ tt σ2 H2 fun b H3 =>
        if b = true then te σ2 H3 fun y H4 => ∃ acc, H4 D = some (.lst acc) ∧ acc.length < sizeLine ∧ Nx (upd H4 D (.lst (acc ++ [y]))) else Nx H3) :=
  lc_gen w (fun H => SameT TT H1 H ∧ ∃ acc, H D = some (.lst acc)) keep R ⟨sameT_new hD, _, upd_same⟩ (fun H acc p e y => ⟨sameT_wr p.1 hD e, _, upd_same⟩) (fun H p => hG H p.1) hlen
    (fun x H' N Y hx p kn ky => step x H' N Y hx p.1 p.2 (fun e H3 m3 e3 => kn e H3 ⟨m3, p.2.elim fun o q => ⟨o, e3.trans q⟩⟩ e3) (fun e y H4 m4 e4 r => ky e y H4 ⟨m4, p.2.elim fun o q => ⟨o, e4.trans q⟩⟩ e4 r))
    (fun H ys p => hd H ys p.1)
section
variable {P : Program} {w : World} {K : PySem.W.Frag} {mg : Str → Option Value} {base : Heap} {CX : CXT} {x : Str} {k : Nat} {ps : List Str} {sp sp' : Sp}
theorem Has.imp (h : Has P w K mg base CX x k ps sp) (i : ∀ vs H Q E, sp' vs H Q E → sp vs H Q E) : Has P w K mg base CX x k ps sp' := by
  obtain ⟨f, fd, o, b, g, kp⟩ := h.ex
  exact ⟨f, fd, ⟨fun vs H Q E q => o.len vs H Q E (i _ _ _ _ q), fun A outer s H args us vs Q E hr e0 bt rv q => o.run A outer s H args us vs Q E hr e0 bt rv (i _ _ _ _ q)⟩, b, g, kp⟩
end
end Pl
end L2
set_option Elab.async false
set_option linter.all false
set_option maxRecDepth 100000
set_option maxHeartbeats 2000000
namespace L2
namespace Pl
open PySem PySem.Spec PyProof.Rows LamP NdefX LamX
theorem sameT_wrD {TT : List NTab} {H H' : Hp} {p : Addr} {o : HO} {xs : List (Key × V)} (m : SameT TT H H') (hp : H p = none) (hq : H' p = some (.dK xs)) : SameT TT H (upd H' p o) := by
  refine ⟨fun c u h n => (upd_ne (ne_of_none h hp)).trans (m.keep c u h n), fun c h => m.fre c ?_, fun t q hqT => ?_⟩
  · by_cases e : c = p
    · rw [e, upd_same] at h
      cases h
    · exact (upd_ne e).symm.trans h
  · obtain ⟨ps, a1, a2, a3⟩ := m.tabs t q hqT
    refine ⟨ps, (upd_ne fun z => ?_).trans a1, a2, fun pos cv hc => ?_⟩
    · rw [z, hq] at a1
      cases a1
    · obtain ⟨c, e1, e2⟩ := a3 pos cv hc
      refine ⟨c, e1, (upd_ne fun z => ?_).trans e2⟩
      rw [z, hq] at e2
      unfold CodeO at e2
      cases e2
theorem GrpAt.keep {H0 H H' : Hp} {R : Str → Str → Bool} {ns : List Str} {e : Str × Addr} {k : Str} (h : GrpAt H0 H R ns e k) (m : ∀ b xs, H b = some (.lst xs) → H' b = some (.lst xs)) : GrpAt H0 H' R ns e k := ⟨h.1, m _ _ h.2.1, h.2.2⟩
def spClassesN (C : Addr) (TT : List NTab) : Sp := fun vs H Q _ => ∃ x b, vs = [.ref x] ∧ TabsN TT H ∧ StAt C H x b ∧ b.Ok ∧ ∀ H' p (gs : List (Str × Addr)), SameT TT H H' → H p = none → H' p = some (.lst (gs.map fun e => V.ref e.2)) → (∀ e ∈ gs, e.2 ≠ p) → Paired (GrpAt H H' (alk b) b.names) gs (firsts (alk b) b.names b.names) → Q (.ref p) H'
end Pl
end L2
namespace Bs
open PySem PySem.Spec PyProof.Rows L2 L2.Pl LamP NdefX LamX
section
variable {P : Program} {w : World} {K : PySem.W.Frag} {mg : Str → Option Value} {base : Heap} {f : Addr} {fd : FuncData}
abbrev NCl : List Str := ["store", "groups", "standing", "group", "other"]
theorem scClasses : FnScope NCl ["store"] (defScope sClasses) := ⟨rfl, rfl, rfl, by decide +kernel, rfl, by decide +kernel, by decide +kernel⟩
theorem ok_classesN {C CN : Addr} {TT : List NTab} (G : Gn mg) (T : StF K mg C) (M : StM P w K mg base C CN) (F : FnP K "classes" sClasses f fd) (hA : Has P w K mg base (L2.CX P w) "alike" 8 ["store", "first", "second"] (spAlikeN K C CN TT)) : FnOk P w K mg base CX0 9 f fd ["store"] (spClassesN C TT) := by
  obtain ⟨fA, dA, oA, bA, gA, kA⟩ := hA.ex
  obtain ⟨pS, fS, dS, oS, bS, mS⟩ := M.std
  refine F.ok scClasses (fun vs H Q E h => ?_) (fun cdv A outer s H vs Q E hr h => ?_)
  · obtain ⟨_, _, rfl, _⟩ := h
    rfl
  · obtain ⟨x, b, rfl, hT, hx, ok, q⟩ := h
    have hr2 := hr.mono (j := 2) (by decide)
    refine ⟨_, PSs.nox (pss_cons (ps_set (i := 1) scClasses.nd rfl (.inl rfl) pe_dnewK)
      (pss_cons (ps_for PassesOwn.never rfl (pi_tup (pe_prop (pv 0) T.cl mS oS hr2 bS .nil pass0 (by rfl))) (pg_name (i := 2) scClasses.nd rfl (.inr rfl))
        (pss_cons (ps_setLc (i := 3) (own := [("other", 4)]) (g := gName 4) (tt := tTest (tCall (spAlikeN K C CN TT) [] E0 (tCons (tVar 0) (tCons (tVar 4) (tCons (tVar 2) tNil))))) (te := tVar 4) rfl scClasses.nd rfl rfl (sw_true rfl rfl rfl (by decide +kernel)) (pi_tup (pe_prop (pv 0) T.cl mS oS hr2 bS .nil pass0 (by rfl))) (blkOk_by (N := NCl) (sc := defScope sClasses) (by decide +kernel)) (fun _ _ _ _ _ => pg_name (i := 4) scClasses.nd rfl (.inl rfl))
            (fun _ _ _ _ _ => pts_one (pt_val (pe_call oA hr (by rfl) gA kA bA .nil passF (pa_cons (pv 0) (pa_cons (pv 4) (pa_cons (pv 2) pa_nil)))))) (fun _ _ _ _ _ => pv 4))
        (pss_one (ps_dput (hu_of hr) (pv 1) (pe_ix ix_list (pv 3) pe_int (fun _ _ => rfl)) (pv 3) rfl))))
      (pss_one (ps_ret (pe_callTy (call_listV rfl) (by rfl) G.list bList (pa_cons (pe_bm0 PySem.F.plainAttrs_dict PySem.F.slot_dict_values PySem.F.type_dict_values mt_values (pv 1)) pa_nil)))))), ?_⟩
    obtain ⟨dx, ts, td, dl, dk, es0, h1, h2, h3, h4, h5, h6⟩ := id hx
    have nm := alk_eqv b
    refine fun GD hGD => ?_
    have m0 : SameT TT H (upd H GD (.dK [])) := sameT_new (T := TT) hGD
    refine ⟨_, rfl, x, dx, _, rfl, m0 _ _ h1, x, dx, _, .ref ts, rfl, m0 _ _ h1, st_look1, ts, rfl, ⟨_, SqT.up (m0 _ _ h2)⟩, ?_⟩
    refine for_tup (K := K) (a := ts) (xs := sV b.names) (fun i σ H' => ∃ (gs : List (Str × Addr)) (c2 c3 : Option V), σ = [some (.ref x), some (.ref GD), c2, c3, none] ∧ SameT TT H H' ∧ H' GD = some (.dK (kvR gs)) ∧ Paired (GrpAt H (del H' GD) (alk b) b.names) gs (firsts (alk b) b.names (b.names.take i)))
      ⟨[], none, none, rfl, m0, upd_same, .nil⟩ (fun i σ H' _ ⟨_, _, _, _, m, _⟩ => SqT.up (m _ _ h2)) ?_ ?_
    · rintro i y σ H1 hi ⟨gs, c2, c3, rfl, m1, G1, p1⟩
      obtain ⟨s, hs, rfl⟩ : ∃ s, b.names[i]? = some s ∧ y = .str s := by
        rw [List.getElem?_map] at hi
        cases e : b.names[i]? with
        | none =>
          rw [e] at hi
          cases hi
        | some u =>
          rw [e] at hi
          exact ⟨u, rfl, (Option.some.inj hi).symm⟩
      have hsin := List.mem_of_getElem? hs
      refine ⟨_, rfl, x, dx, _, rfl, m1 _ _ h1, x, dx, _, .ref ts, rfl, m1 _ _ h1, st_look1, ts, rfl, ⟨_, SqT.up (m1 _ _ h2)⟩, fun D hD => ?_⟩
      refine lc_smT (TT := TT) (walk_tup (K := K) (a := ts) (xs := sV b.names)) (keepA b s) (fun x y => y = x) hD (fun H2 m2 => SqT.up (m2 _ _ (m1 _ _ h2))) (by rw [List.length_map]; have := ok.n5; omega) (fun y1 H2 N Y hy1 m2 iD kn ky => ?_) (fun H2 ys m2 hy py => ?_)
      · obtain ⟨o, ho, rfl⟩ := List.mem_map.mp hy1
        obtain ⟨oD, hoD⟩ := iD
        refine ⟨rfl, _, rfl, _, rfl, _, rfl, x, b, .str o, .str s, rfl, (m1.trans m2).tabs hT, hx.sameT (m1.trans m2), ok, .inl ⟨o, rfl, ho⟩, fun _ => .inl ⟨s, rfl, hsin⟩, fun y2 z2 ey ez _ _ k H3 hk m3 => ⟨k, rfl, ?_⟩, fun nst => (not_noSt ho nst).elim, fun _ nst => (not_noSt hsin nst).elim⟩
        cases ey
        cases ez
        cases k with
        | false =>
          refine iteF (kn ?_ H3 (m2.trans m3) (by rw [hoD, m3 _ _ hoD]))
          show alk b o s = false
          cases e : alk b o s with
          | false => rfl
          | true => exact absurd (hk.mpr (alk_iff.mp e)) (by decide)
        | true => exact iteT (B := N H3) ⟨_, rfl, ky (alk_iff.mpr (hk.mp rfl)) _ H3 (m2.trans m3) (by rw [hoD, m3 _ _ hoD]) rfl⟩
      · have ey : ys = sV (grp (alk b) b.names s) := (paired_eq (f := fun z : V => z) py).trans ((List.map_id _).trans (keepA_filter _))
        subst ey
        obtain ⟨r, hr⟩ := fst_mem nm hsin
        have D0 : H D = none := m1.free hD
        have G2 := m2 _ _ G1
        have nDG : D ≠ GD := fun z => by
          rw [z, G1] at hD
          cases hD
        have len1 : gs.length ≤ 1000 := by
          have h8 := p1.length
          have h9 := List.length_filter_le (fun s => decide (fstG (alk b) b.names s = s)) (b.names.take i)
          rw [List.length_take] at h9
          unfold firsts at h8
          have := ok.n5
          omega
        refine ⟨_, rfl, _, rfl, _, rfl, D, _, 0, .str (fstG (alk b) b.names s), rfl, rfl, SqL.of hy, atI_nat (j := 0) (by rw [hr]; rfl), GD, _, rfl, DPut.k (k := Sum.inr (fstG (alk b) b.names s)) G2 (small1000 (by rw [List.length_map]; exact len1)), ?_⟩
        have md : ∀ a xs, (del H1 GD) a = some (.lst xs) → (del (upd H2 GD (.dK (putK (kvR gs) (Sum.inr (fstG (alk b) b.names s)) (.ref D)))) GD) a = some (.lst xs) := fun a xs z => by
          obtain ⟨na, z⟩ := del_some z
          exact del_of na ((upd_ne na).trans (m2 _ _ z))
        have atD : (del (upd H2 GD (.dK (putK (kvR gs) (Sum.inr (fstG (alk b) b.names s)) (.ref D)))) GD) D = some (.lst (sV (grp (alk b) b.names (fstG (alk b) b.names s)))) := by
          rw [grp_eq nm (fst_like nm hsin).2]
          exact del_of nDG ((upd_ne nDG).trans hy)
        have p2 := p1.mono fun _ _ q => GrpAt.keep q md
        have split : b.names = b.names.take i ++ s :: b.names.drop (i + 1) := by
          have hlt := (List.getElem?_eq_some_iff.mp hs).1
          have e1 : b.names.drop i = s :: b.names.drop (i + 1) := by
            rw [List.drop_eq_getElem_cons hlt]
            rw [List.getElem?_eq_getElem hlt] at hs
            rw [Option.some.inj hs]
          rw [← e1, List.take_append_drop]
        have tk : b.names.take (i + 1) = b.names.take i ++ [s] := by
          rw [List.take_succ, hs]
          rfl
        have fs1 : firsts (alk b) b.names (b.names.take (i + 1)) = firsts (alk b) b.names (b.names.take i) ++ (if fstG (alk b) b.names s = s then [s] else []) := by
          unfold firsts
          rw [tk, List.filter_append, List.filter_cons, List.filter_nil]
          by_cases c : fstG (alk b) b.names s = s
          · rw [if_pos c, if_pos (decide_eq_true c)]
          · rw [if_neg c, if_neg (by rw [decide_eq_false c]; decide)]
        by_cases c : fstG (alk b) b.names s = s
        · have new : ∀ q ∈ kvR gs, q.1 ≠ (Sum.inr (fstG (alk b) b.names s) : Key) := fun q hq z => by
            obtain ⟨e, he, rfl⟩ := List.mem_map.mp hq
            have h9 : e.1 ∈ firsts (alk b) b.names (b.names.take i) := by
              rw [← grp_keys p1]
              exact List.mem_map_of_mem he
            have h10 := (List.mem_filter.mp h9).1
            rw [show e.1 = s from (Sum.inr.inj z).trans c] at h10
            have nd := ok.nd
            rw [split, List.nodup_append] at nd
            exact nd.2.2 s h10 s (List.mem_cons_self ..) rfl
          rw [Pl.putK_end new] at *
          refine ⟨gs ++ [(fstG (alk b) b.names s, D)], some (.str s), some (.ref D), rfl, sameT_wrD (m1.trans m2) hGD G2, ?_, ?_⟩
          · rw [upd_same]
            show some (HO.dK (kvR gs ++ [(Sum.inr (fstG (alk b) b.names s), V.ref D)])) = some (HO.dK (List.map _ (gs ++ [(fstG (alk b) b.names s, D)])))
            rw [List.map_append]
            rfl
          · rw [fs1, if_pos c]
            rw [grp_eq nm (fst_like nm hsin).2] at atD
            exact p2.snoc ⟨c, atD, D0⟩
        · have old : ∃ e ∈ gs, e.1 = fstG (alk b) b.names s := by
            have h9 := (fst_ahead nm (by rw [← split]; exact ok.nd) : fstG (alk b) (b.names.take i ++ s :: b.names.drop (i + 1)) s = s ∨ _)
            rw [← split] at h9
            have h10 := h9.resolve_left c
            rw [← grp_keys p1] at h10
            obtain ⟨e, he, e2⟩ := List.mem_map.mp h10
            exact ⟨e, he, e2⟩
          rw [putK_repl old] at *
          refine ⟨gs.map fun e => if e.1 = fstG (alk b) b.names s then (e.1, D) else e, some (.str s), some (.ref D), rfl, sameT_wrD (m1.trans m2) hGD G2, upd_same, ?_⟩
          rw [fs1, if_neg c, List.append_nil]
          exact grp_repl p2 atD D0
    · rintro σ H1 ⟨gs, c2, c3, rfl, m1, G1, p1⟩
      rw [List.length_map, List.take_length] at p1
      refine ⟨_, rfl, .inr (.inr (.inl ⟨rfl, .inl ⟨_, G1⟩⟩)), GD, kvR gs, rfl, rfl, G1, fun vp hvp => ?_⟩
      have nG : GD ≠ vp := ne_of_none G1 hvp
      refine ⟨vp, GD, kvR gs, rfl, upd_same, (upd_ne nG).trans G1, fun p hp => ?_⟩
      have nvp : vp ≠ p := ne_of_none upd_same hp
      have p0 : H1 p = none := (upd_ne nvp.symm).symm.trans hp
      have s2 : SameT TT H1 (upd (upd H1 vp (valuesO vp GD)) p (.lst ((kvR gs).map (·.2)))) := Same.t (same_wr (same_new hvp) p0)
      refine q _ p gs (m1.trans s2) (m1.free p0) ?_ (fun e he z => ?_) (p1.mono fun _ _ q => GrpAt.keep q fun a xs z => s2 _ _ (del_some z).2)
      · rw [upd_same, List.map_map]
        rfl
      · obtain ⟨k, _, g⟩ := paired_left p1 he
        have := del_all _ _ g.2.1
        rw [z, p0] at this
        cases this
end
end Bs
set_option Elab.async false
set_option linter.all false
set_option maxRecDepth 100000
set_option maxHeartbeats 2000000
namespace L2
namespace Pl
open PySem PySem.Spec PyProof.Rows
theorem lead_app {b : Sd} {z : Str} {r1 r2 : List Str} : b.lead z (r1 ++ r2) = b.lead (b.lead z r1) r2 := by
  unfold Sd.lead
  rw [List.foldl_append]
/-- a shortest row passes no couple twice -/
theorem short_parts {b : Sd} (ok : b.Ok) {y z : Str} (hy : y ∈ b.names) (hz : z ∈ b.names) {r : List Str} (hp : Parts b y z r) (hm : ∀ r', Parts b y z r' → r.length ≤ r'.length) : r.length ≤ 25 := by
  by_cases big : r.length ≤ 25
  · exact big
  by_cases h : ∀ i j, i < j → j ≤ r.length → (b.lead y (r.take i), b.lead z (r.take i)) ≠ (b.lead y (r.take j), b.lead z (r.take j))
  · have nd : ((List.range (r.length + 1)).map fun i => (b.lead y (r.take i), b.lead z (r.take i))).Nodup := by
      unfold List.Nodup
      rw [List.pairwise_map]
      exact (List.pairwise_lt_range (n := r.length + 1)).imp_of_mem fun _ hb hab => h _ _ hab (by have := List.mem_range.mp hb; omega)
    have := nd_le (m := b.names.flatMap fun a => b.names.map fun c => (a, c)) nd fun p hp' => by
      obtain ⟨i, _, rfl⟩ := List.mem_map.mp hp'
      have sub : ∀ d ∈ r.take i, d ∈ b.deeds := fun d hd => hp.1 d (List.mem_of_mem_take hd)
      exact List.mem_flatMap.mpr ⟨_, lead_in ok sub hy, List.mem_map.mpr ⟨_, lead_in ok sub hz, rfl⟩⟩
    have e : (b.names.flatMap fun a => b.names.map fun c => (a, c)).length = b.names.length * b.names.length := by
      rw [List.length_flatMap, List.map_congr_left (g := fun _ => b.names.length) fun x _ => List.length_map _, List.map_const', List.sum_replicate_nat]
    have n5 := ok.n5
    have : b.names.length * b.names.length ≤ 5 * 5 := Nat.mul_le_mul n5 n5
    rw [List.length_map, List.length_range] at *
    omega
  · obtain ⟨i, h⟩ := Classical.not_forall.mp h
    obtain ⟨j, h⟩ := Classical.not_forall.mp h
    have h1 : i < j := Classical.byContradiction fun c => h fun c' => (c c').elim
    have h2 : j ≤ r.length := Classical.byContradiction fun c => h fun _ c' => (c c').elim
    have h3 : (b.lead y (r.take i), b.lead z (r.take i)) = (b.lead y (r.take j), b.lead z (r.take j)) := Classical.byContradiction fun c => h fun _ _ => c
    obtain ⟨e1, e2⟩ := Prod.mk.inj h3
    have cut : ∀ w, b.lead w (r.take i) = b.lead w (r.take j) → b.lead w (r.take i ++ r.drop j) = b.lead w r := fun w e => by
      rw [lead_app, e, ← lead_app, List.take_append_drop]
    have := hm (r.take i ++ r.drop j) ⟨fun d hd => by
      rcases List.mem_append.mp hd with hd | hd
      · exact hp.1 d (List.mem_of_mem_take hd)
      · exact hp.1 d (List.mem_of_mem_drop hd), by rw [cut y e1, cut z e2]; exact hp.2⟩
    rw [List.length_append, List.length_take, List.length_drop] at this
    omega
def ToldAt (H H' : Hp) (b : Sd) (y z : Str) (v : V) : Prop := (∃ (p : Addr) (row : List Str), v = .ref p ∧ H p = none ∧ H' p = some (.lst (sV row)) ∧ Parts b y z row ∧ ∀ r, Parts b y z r → row.length ≤ r.length) ∨ (v = .non ∧ Alike b y z)
theorem parting_use {K : PySem.W.Frag} {C CN : Addr} {H : Hp} {x : Addr} {b : Sd} {y z : Str} {Q : VK} {E : XK} (hx : StAt C H x b) (ok : b.Ok) (hy : y ∈ b.names) (hz : z ∈ b.names) (q : ∀ v H', Same H H' → ToldAt H H' b y z v → Q v H') : spParting K C CN [.ref x, .str y, .str z] H Q E :=
  ⟨x, b, _, _, rfl, hx, ok, .inl ⟨y, rfl, hy⟩, fun _ => .inl ⟨z, rfl, hz⟩, fun y1 z1 ey ez _ _ => by
    cases ey
    cases ez
    exact ⟨fun H' p row m h0 hp h1 h2 => q _ H' m (.inl ⟨p, row, rfl, h0, hp, h1, h2⟩), fun hn H' m => q _ H' m (.inr ⟨rfl, hn⟩)⟩,
    fun nst => (not_noSt hy nst).elim, fun _ nst => (not_noSt hz nst).elim⟩
theorem alike_use {K : PySem.W.Frag} {C CN : Addr} {H : Hp} {x : Addr} {b : Sd} {y z : Str} {Q : VK} {E : XK} (hx : StAt C H x b) (ok : b.Ok) (hy : y ∈ b.names) (hz : z ∈ b.names) (q : ∀ k H', Same H H' → (k = true ↔ Alike b y z) → Q (.bl k) H') : spAlike K C CN [.ref x, .str y, .str z] H Q E :=
  ⟨x, b, _, _, rfl, hx, ok, .inl ⟨y, rfl, hy⟩, fun _ => .inl ⟨z, rfl, hz⟩, fun y1 z1 ey ez _ _ k H' hk m => by
    cases ey
    cases ez
    exact q k H' m hk,
    fun nst => (not_noSt hy nst).elim, fun _ nst => (not_noSt hz nst).elim⟩
end Pl
end L2
set_option Elab.async false
set_option linter.all false
set_option maxRecDepth 100000
set_option maxHeartbeats 2000000
namespace L2
namespace Pl
open PySem PySem.Spec PyProof.Rows LamP NdefX LamX
theorem parting_useN {K : PySem.W.Frag} {C CN : Addr} {TT : List NTab} {H : Hp} {x : Addr} {b : Sd} {y z : Str} {Q : VK} {E : XK} (hT : TabsN TT H) (hx : StAt C H x b) (ok : b.Ok) (hy : y ∈ b.names) (hz : z ∈ b.names) (q : ∀ v H', SameT TT H H' → ToldAt H H' b y z v → Q v H') : spPartingN K C CN TT [.ref x, .str y, .str z] H Q E :=
  ⟨x, b, _, _, rfl, hT, hx, ok, .inl ⟨y, rfl, hy⟩, fun _ => .inl ⟨z, rfl, hz⟩, fun y1 z1 ey ez _ _ => by
    cases ey
    cases ez
    exact ⟨fun H' p row m h0 hp h1 h2 => q _ H' m (.inl ⟨p, row, rfl, h0, hp, h1, h2⟩), fun hn H' m => q _ H' m (.inr ⟨rfl, hn⟩)⟩,
    fun nst => (not_noSt hy nst).elim, fun _ nst => (not_noSt hz nst).elim⟩
end Pl
end L2
set_option Elab.async false
set_option linter.all false
set_option maxRecDepth 100000
set_option maxHeartbeats 1000000
/-! a dict that is made where it is walked over -/
namespace L2
open PySem PySem.Spec PyProof.Rows
/-- e, a dict, shut from here on -/
def tShut (td : TE) : TE := fun σ H Q => td σ H fun x H1 => ∃ d kvs, x = .ref d ∧ H1 d = some (.dK kvs) ∧ ∀ o, Q (.ref d) (upd H1 d (.frz o (.dK kvs)))
theorem pe_shut {X : Cx} {e : Expr} {td : TE} (he : PE X e td) : PE X e (tShut td) := by
  refine ⟨fun pins s σ H Q I q => wpAny_mono (he.run pins s σ H _ I q) (fun v s1 ⟨x, H1, I1, rv, d, kvs, ex, hd, k⟩ => ?_) fun _ _ z => z⟩
  obtain ⟨od, I2⟩ := I1.lock hd True.intro
  subst ex
  exact ⟨.ref d, _, I2, rv, k od⟩
end L2
set_option Elab.async false
set_option linter.all false
set_option maxRecDepth 100000
set_option maxHeartbeats 2000000
namespace L2
namespace Pl
open PySem PySem.Spec PyProof.Rows
/-! ### rows from a standing -/
def RowS (H0 H : Hp) (e : Str × Addr) (t : Str × List Str) : Prop := e.1 = t.1 ∧ H e.2 = some (.lst (sV t.2)) ∧ H0 e.2 = none
theorem RowS.same {H0 H H' : Hp} {e : Str × Addr} {t : Str × List Str} (h : RowS H0 H e t) (m : Same H H') : RowS H0 H' e t := ⟨h.1, m _ _ h.2.1, h.2.2⟩
def step1 (b : Sd) (d z : Str) : Str := b.lead1 d z
theorem run_lead1 (b : Sd) (r : List Str) (z : Str) : run (step1 b) z r = b.lead z r := rfl
/-- the dict at R: which standings rows of deeds lead z to, by which rows -/
structure RowsAt (H0 H : Hp) (b : Sd) (z : Str) (R : Addr) (es : List (Str × Addr)) (tab : List (Str × List Str)) : Prop where
  at_ : H R = some (.dK (kvR es))
  new : H0 R = none
  rows : Paired (RowS H0 H) es tab
  lead : ∀ t ∈ tab, b.lead z t.2 = t.1 ∧ ∀ d ∈ t.2, d ∈ b.deeds
  all : ∀ r, (∀ d ∈ r, d ∈ b.deeds) → ∃ t ∈ tab, t.1 = b.lead z r
  few : tab.length ≤ 5
  short : ∀ t ∈ tab, t.2.length ≤ 5
def spRows (C : Addr) : Sp := fun vs H Q _ => ∃ x b z, vs = [.ref x, .str z] ∧ StAt C H x b ∧ b.Ok ∧ z ∈ b.names ∧ ∀ H' R es tab, Same H H' → RowsAt H H' b z R es tab → Q (.ref R) H'
def RInv (H0 : Hp) (x R W : Addr) (b : Sd) (z : Str) (m : Nat) (σ : St) (H : Hp) : Prop := ∃ (tab : List (Str × List Str)) (n : Nat) (es : List (Str × Addr)) (c4 c5 c6 : Option V),
  σ = [some (.ref x), some (.str z), some (.ref R), some (.ref W), c4, c5, c6] ∧ Same H0 H ∧ H R = some (.dK (kvR es)) ∧ Paired (RowS H0 (vw R W H)) es tab ∧ H W = some (.lst (sV ((tab.drop n).map (·.1)))) ∧
  Bfs (step1 b) (fun _ => False) b.deeds z tab n ∧ m + n = 6
theorem tab1_in {b : Sd} (ok : b.Ok) {z : Str} (hz : z ∈ b.names) {tab : List (Str × List Str)} {n : Nat} (B : Bfs (step1 b) (fun _ => False) b.deeds z tab n) : ∀ t ∈ tab, t.1 ∈ b.names := fun t ht => by
  obtain ⟨h1, h2⟩ := B.lead t ht
  rw [← h1, run_lead1]
  exact lead_in ok h2 hz
theorem tab1_few {b : Sd} (ok : b.Ok) {z : Str} (hz : z ∈ b.names) {tab : List (Str × List Str)} {n : Nat} (B : Bfs (step1 b) (fun _ => False) b.deeds z tab n) : tab.length ≤ 5 := by
  have h := nd_le (m := b.names) B.nodup fun y hy => by
    obtain ⟨t, ht, rfl⟩ := List.mem_map.mp hy
    exact tab1_in ok hz B t ht
  have := ok.n5
  rw [List.length_map] at h
  omega
theorem rows1_at {H0 H : Hp} {es : List (Str × Addr)} {tab : List (Str × List Str)} (h : Paired (RowS H0 H) es tab) {n : Nat} {t : Str × List Str} (ht : tab[n]? = some t) : ∃ e, es[n]? = some e ∧ RowS H0 H e t := by
  have hl := h.length
  have lt := (List.getElem?_eq_some_iff.mp ht).1
  obtain ⟨e, he⟩ : ∃ e, es[n]? = some e := ⟨_, List.getElem?_eq_getElem (by omega)⟩
  obtain ⟨u, hu, r⟩ := L2.paired_get h he
  rw [ht] at hu
  exact ⟨e, he, Option.some.inj hu ▸ r⟩
theorem keys1 {H0 H : Hp} {es : List (Str × Addr)} {tab : List (Str × List Str)} (h : Paired (RowS H0 H) es tab) : es.map (·.1) = tab.map (·.1) := by
  induction h with
  | nil => rfl
  | @cons e q gs ks g _ ih => rw [List.map_cons, List.map_cons, ih, g.1]
theorem kvR_keys (es : List (Str × Addr)) : (kvR es).map (·.1) = (es.map (·.1)).map (Sum.inr : Str → Key) := by
  rw [List.map_map, List.map_map]
  rfl
theorem kvR_val {H0 H : Hp} {es : List (Str × Addr)} {tab : List (Str × List Str)} (h : Paired (RowS H0 H) es tab) (nd : (tab.map (·.1)).Nodup) {e : Str × Addr} (he : e ∈ es) : valV (kvR es) (Sum.inr e.1 : Key) = some (.ref e.2) := by
  refine val_nodup ?_ ((Sum.inr e.1 : Key), V.ref e.2) (List.mem_map.mpr ⟨e, he, rfl⟩)
  rw [kvR_keys, keys1 h]
  exact List.pairwise_map.mpr (nd.imp fun ne e => ne (Sum.inr.inj e))
end Pl
end L2
set_option Elab.async false
set_option linter.all false
set_option maxRecDepth 100000
set_option maxHeartbeats 4000000
namespace Bs
open PySem PySem.Spec PyProof.Rows L2 L2.Pl
section
variable {P : Program} {w : World} {K : PySem.W.Frag} {mg : Str → Option Value} {base : Heap} {f : Addr} {fd : FuncData}
abbrev NRf : List Str := ["store", "standing", "rows", "waiting", "place", "deed", "behind"]
theorem scRowsFrom : FnScope NRf ["store", "standing"] (defScope sRowsFrom) := ⟨rfl, rfl, rfl, by decide +kernel, rfl, by decide +kernel, by decide +kernel⟩
theorem ok_rowsFrom {C CN : Addr} (T : StF K mg C) (M : StM P w K mg base C CN) (F : FnP K "rows_from" sRowsFrom f fd) : FnOk P w K mg base CX0 5 f fd ["store", "standing"] (spRows C) := by
  obtain ⟨fE, dE, oE, bE, mE⟩ := M.lead
  obtain ⟨pD, fD, dD, oD, bD, mD⟩ := M.dds
  refine F.ok scRowsFrom (fun vs H Q E h => ?_) (fun cdv A outer s H vs Q E hr h => ?_)
  · obtain ⟨_, _, _, rfl, _⟩ := h
    rfl
  · obtain ⟨x, b, z, rfl, hx, ok, hz, q⟩ := h
    have hr2 := hr.mono (j := 2) (by decide)
    refine ⟨_, PSs.nox (pss_cons (ps_set (i := 2) scRowsFrom.nd rfl (.inl rfl) (pe_disp (pps_cons (pv 1) (pe_lst pa_nil) pps_nil) rfl rfl (by simp) (by decide)))
      (pss_cons (ps_set (i := 3) scRowsFrom.nd rfl (.inl rfl) (pe_lst (pa_cons (pv 1) pa_nil)))
      (pss_cons (ps_while PassesOwn.never (pt_truth (pv 3) (by intro _; rfl))
        (pss_cons (ps_set (i := 4) scRowsFrom.nd rfl (.inl rfl) (pe_bm PySem.F.plainAttrs_list PySem.F.slot_list_pop PySem.F.type_list_pop mt_popAt (pv 3) (pa_cons pe_int pa_nil)))
        (pss_one (ps_for PassesOwn.never rfl (pi_tup (pe_prop (pv 0) T.cl mD oD hr2 bD .nil pass0 (by rfl))) (pg_name (i := 5) scRowsFrom.nd rfl (.inl rfl))
          (pss_cons (ps_set (i := 6) scRowsFrom.nd rfl (.inl rfl) (pe_meth (pv 0) T.cl mE oE hr bE .nil (passF) (pa_cons (pv 4) (pa_cons (pe_lst (pa_cons (pv 5) pa_nil)) pa_nil))))
          (pss_one (ps_if (pt_cmp (pc_dnotin (hu_of hr) (pv 6) (pv 2)))
            (pss_cons (ps_dput (hu_of hr) (pv 2) (pv 6) (pe_op op_cat (pe_dget (hu_of hr) (pv 2) (pv 4) (fun _ _ => rfl)) (pe_lst (pa_cons (pv 5) pa_nil))) rfl)
            (pss_one (ps_expr (pe_bm PySem.F.plainAttrs_list PySem.F.slot_list_append PySem.F.type_list_append mt_append (pv 3) (pa_cons (pv 6) pa_nil))))) pss_nil)))))))
      (pss_one (ps_ret (pv 2)))))), ?_⟩
    obtain ⟨dx, ts, td, dl, dk, es0, h1, h2, h3, h4, h5, h6⟩ := id hx
    have nE : (stFs ts td dl dk).lookup ("lead" : Str) = none := st_no (by decide +kernel)
    -- rows = {standing: []}
    refine fun R hR => ⟨_, rfl, Nat.zero_le _, fun L0 hL0 => ?_⟩
    have nRL : R ≠ L0 := ne_of_none upd_same hL0
    refine ⟨(upd_ne nRL).trans upd_same, [(Sum.inr z, .ref L0)], rfl, by show 1 ≤ 15; decide, ?_⟩
    have L0n : H L0 = none := (upd_ne nRL.symm).symm.trans hL0
    have mk : mergeK [] [((Sum.inr z : Key), V.ref L0)] = kvR [(z, L0)] := rfl
    rw [mk]
    have sH : Same H (upd (upd (upd H R (.dK [])) L0 (.lst [])) R (.dK (kvR [(z, L0)]))) := same_wr (same_wr (same_new hR) L0n) hR
    have atL : (upd (upd (upd H R (.dK [])) L0 (.lst [])) R (.dK (kvR [(z, L0)]))) L0 = some (.lst []) := (upd_ne nRL.symm).trans upd_same
    have atR : (upd (upd (upd H R (.dK [])) L0 (.lst [])) R (.dK (kvR [(z, L0)]))) R = some (.dK (kvR [(z, L0)])) := upd_same
    generalize upd (upd (upd H R (.dK [])) L0 (.lst [])) R (.dK (kvR [(z, L0)])) = H1 at *
    -- waiting = [standing]
    refine ⟨_, rfl, by show 1 ≤ sizeLine; decide, fun W hW => ?_⟩
    have s2 : Same H1 (upd H1 W (.lst [.str z])) := same_new hW
    have nRW : R ≠ W := ne_of_none atR hW
    have W0 : H W = none := sH.free hW
    refine ⟨RInv H x R W b z, ⟨6, [(z, [])], 0, [(z, L0)], none, none, none, rfl, sH.trans s2, s2 _ _ atR, .cons ⟨rfl, vw_of nRL.symm (ne_of_none atL hW) (s2 _ _ atL), L0n⟩ .nil, upd_same, Bfs.begin, rfl⟩, ?_⟩
    rintro m σ H2 ⟨tab, n, es, c4, c5, c6, rfl, m2, hRr, hes, hWw, B, hm⟩
    have few := tab1_few ok hz B
    refine ⟨_, rfl, !(sV ((tab.drop n).map (·.1))).isEmpty, .inl ⟨_, SqL.of hWw, rfl⟩, ?_⟩
    cases hd0 : tab.drop n with
    | nil =>
      refine iteF ?_
      have l0 := congrArg List.length hd0
      rw [List.length_drop, List.length_nil] at l0
      refine ⟨_, rfl, q H2 R es tab m2 ⟨hRr, hR, hes.mono fun _ _ r => ⟨r.1, (vw_get r.2.1).2.2, r.2.2⟩, fun t ht => B.lead t ht, fun r hr => ?_, few, fun t ht => ?_⟩⟩
      · rcases B.cover r.length r rfl hr with ⟨k, t, a1, a2, a3⟩ | ⟨j, t, a1, a2, a3⟩
        · exact ⟨t, List.mem_of_getElem? a1, a2⟩
        · have := (List.getElem?_eq_some_iff.mp a2).1
          omega
      · obtain ⟨j, hj⟩ := List.mem_iff_getElem?.mp ht
        have a1 := B.short j t hj
        have a2 := (List.getElem?_eq_some_iff.mp hj).1
        omega
    | cons t rest =>
      refine iteT ?_
      have lt : n < tab.length := by
        have l0 := congrArg List.length hd0
        rw [List.length_drop, List.length_cons] at l0
        omega
      have hdr := List.drop_eq_getElem_cons lt
      have ht : tab[n]? = some t := by
        rw [List.getElem?_eq_getElem lt, ← (List.cons.inj (hd0.symm.trans hdr)).1]
      have hrest : rest = tab.drop (n + 1) := (List.cons.inj (hd0.symm.trans hdr)).2
      subst hrest
      rw [hd0] at hWw
      have in1 := tab1_in ok hz B t (List.mem_of_getElem? ht)
      refine ⟨RInv H x R W b z (m - 1), fun σ' H' p => ⟨m - 1, by omega, p⟩, ?_⟩
      -- place = waiting.pop(0)
      refine ⟨_, rfl, .inl ⟨rfl, _, SqL.of hWw⟩, W, _, 0, 0, .str t.1, rfl, rfl, hWw, by decide, by decide, PySem.StrLaws.seqIndex_nonneg (Int.le_refl 0) (by rw [List.length_map, List.map_cons, List.length_cons]; omega), rfl, ?_⟩
      have W3 : (upd H2 W (.lst ((sV ((t :: tab.drop (n + 1)).map (·.1))).eraseIdx 0))) W = some (.lst (sV ((tab.drop (n + 1)).map (·.1)))) := upd_same
      have R3 : (upd H2 W (.lst ((sV ((t :: tab.drop (n + 1)).map (·.1))).eraseIdx 0))) R = some (.dK (kvR es)) := (upd_ne nRW).trans hRr
      have m3 : Same H (upd H2 W (.lst ((sV ((t :: tab.drop (n + 1)).map (·.1))).eraseIdx 0))) := same_wr m2 W0
      have hes3 : Paired (RowS H (vw R W (upd H2 W (.lst ((sV ((t :: tab.drop (n + 1)).map (·.1))).eraseIdx 0))))) es tab := hes.mono fun _ _ q => q.same vw_W
      show gName 4 _ _ (upd H2 W (.lst ((sV ((t :: tab.drop (n + 1)).map (·.1))).eraseIdx 0))) _
      generalize upd H2 W (.lst ((sV ((t :: tab.drop (n + 1)).map (·.1))).eraseIdx 0)) = H3 at *
      -- for deed in store.deeds
      have ld : (sV b.deeds).length = b.deeds.length := List.length_map _
      refine ⟨_, rfl, x, dx, _, rfl, m3 _ _ h1, x, dx, _, .ref td, rfl, m3 _ _ h1, st_look2, td, rfl, ⟨_, SqT.up (m3 _ _ h3)⟩, ?_⟩
      refine for_tup (K := K) (a := td) (xs := sV b.deeds) (fun i σ H' => ∃ (tab : List (Str × List Str)) (es : List (Str × Addr)) (c5 c6 : Option V), σ = [some (.ref x), some (.str z), some (.ref R), some (.ref W), some (.str t.1), c5, c6] ∧ Same H H' ∧ H' R = some (.dK (kvR es)) ∧ Paired (RowS H (vw R W H')) es tab ∧
          H' W = some (.lst (sV ((tab.drop (n + 1)).map fun u : Str × List Str => u.1))) ∧ Bfs1 (step1 b) (fun _ => False) b.deeds z tab n t (b.deeds.take i))
        ⟨tab, es, c5, c6, rfl, m3, R3, hes3, W3, Bfs1.first B ht (fun h => h)⟩ (fun i σ H' _ ⟨_, _, _, _, _, m, _⟩ => SqT.up (m _ _ h3)) ?_ ?_
      · rintro i y1 σ H5 hi ⟨tab, es, c5, c6, rfl, m5, R5, hes5, W5, B1⟩
        obtain ⟨d, hd, rfl⟩ : ∃ d, b.deeds[i]? = some d ∧ y1 = .str d := by
          rw [List.getElem?_map] at hi
          cases e : b.deeds[i]? with
          | none =>
            rw [e] at hi
            cases hi
          | some u =>
            rw [e] at hi
            exact ⟨u, rfl, (Option.some.inj hi).symm⟩
        have hdin := List.mem_of_getElem? hd
        -- behind = store.lead(place, [deed])
        refine ⟨_, rfl, x, dx, _, rfl, m5 _ _ h1, nE, _, rfl, _, rfl, by show 1 ≤ sizeLine; decide, fun l1 hl1 => ?_⟩
        have s6 : Same H5 (upd H5 l1 (.lst [.str d])) := same_new hl1
        refine ⟨x, b, .str t.1, l1, [d], rfl, hx.same (m5.trans s6), ok, SqL.of upd_same, (by show 1 ≤ 1000; decide), fun c hc => List.mem_singleton.mp hc ▸ hdin, .inl ⟨_, rfl, in1⟩, fun z1 ez _ H6 m6 => ?_, fun nst => (not_noSt in1 nst).elim⟩
        cases ez
        have s56 := s6.trans m6
        have m8 := m5.trans s56
        have R8 := s56 _ _ R5
        have W8 := s56 _ _ W5
        have hes8 := hes5.mono fun _ _ q => RowS.same q (vw_same s56)
        have few5 := tab1_few ok hz B1.b
        refine ⟨_, rfl, _, rfl, R, _, rfl, DGet.k (k := Sum.inr (b.lead t.1 [d])) R8, _, rfl, ?_⟩
        by_cases hin : step1 b d t.1 ∈ tab.map (·.1)
        · obtain ⟨u, hu, hue⟩ := List.mem_map.mp hin
          obtain ⟨j, hj⟩ := List.mem_iff_getElem?.mp hu
          obtain ⟨e3, he3, r3⟩ := rows1_at hes8 hj
          have v3 : valV (kvR es) (Sum.inr (b.lead t.1 [d]) : Key) = some (.ref e3.2) := by
            rw [show b.lead t.1 [d] = e3.1 from (hue.symm.trans r3.1.symm)]
            exact kvR_val hes8 B1.b.nodup (List.mem_of_getElem? he3)
          rw [v3]
          refine iteF ⟨tab, es, some (.str d), _, rfl, m8, R8, hes8, W8, ?_⟩
          rw [List.take_succ, hd]
          exact B1.old hj hue
        · have v3 : valV (kvR es) (Sum.inr (b.lead t.1 [d]) : Key) = none := val_none fun q hq e => hin (by
            have h2 : q.1 ∈ (kvR es).map (·.1) := List.mem_map_of_mem hq
            rw [kvR_keys, keys1 hes8] at h2
            obtain ⟨p, hp, e2⟩ := List.mem_map.mp h2
            rw [show step1 b d t.1 = p from (Sum.inr.inj (e2.trans e)).symm]
            exact hp)
          rw [v3]
          refine iteT ?_
          obtain ⟨e, he, er⟩ := rows1_at hes8 B1.at_
          obtain ⟨ne1, ne2, eAt8⟩ := vw_get er.2.1
          have v1 : valV (kvR es) (Sum.inr t.1 : Key) = some (.ref e.2) := by
            rw [← er.1]
            exact kvR_val hes8 B1.b.nodup (List.mem_of_getElem? he)
          refine ⟨_, rfl, _, rfl, R, .ref e.2, rfl, ?_, ?_⟩
          · rw [← v1]
            exact DGet.k (k := Sum.inr t.1) R8
          refine ⟨_, rfl, by show 1 ≤ sizeLine; decide, fun l3 hl3 => ?_⟩
          have s9 : Same H6 (upd H6 l3 (.lst [.str d])) := same_new hl3
          have tsh : t.2.length ≤ 5 := by
            have a1 := B1.b.short n t B1.at_
            have a2 := (List.getElem?_eq_some_iff.mp B1.at_).1
            omega
          refine ⟨e.2, l3, sV t.2, [.str d], rfl, rfl, s9 _ _ eAt8, upd_same, ?_, fun p hp => ?_⟩
          · rw [List.length_map, sizeLine_eq]
            show t.2.length + 1 ≤ _
            omega
          have s10 : Same H6 (upd (upd H6 l3 (.lst [.str d])) p (.lst (sV t.2 ++ [.str d]))) := s9.trans (same_new hp)
          have pat : (upd (upd H6 l3 (.lst [.str d])) p (.lst (sV t.2 ++ [.str d]))) p = some (.lst (sV t.2 ++ [.str d])) := upd_same
          have pR : p ≠ R := (ne_of_none (s9 _ _ R8) hp).symm
          have pW : p ≠ W := (ne_of_none (s9 _ _ W8) hp).symm
          have pn : H6 p = none := s9.free hp
          generalize upd (upd H6 l3 (.lst [.str d])) p (.lst (sV t.2 ++ [.str d])) = H10 at *
          have les : es.length = tab.length := hes8.length
          refine ⟨_, rfl, _, rfl, R, _, rfl, DPut.k (k := Sum.inr (b.lead t.1 [d])) (s10 _ _ R8) (small1000 (by rw [List.length_map]; omega)), ?_⟩
          rw [putK_new _ v3]
          have W11 : (upd H10 R (.dK (kvR es ++ [(Sum.inr (b.lead t.1 [d]), .ref p)]))) W = some (.lst (sV ((tab.drop (n + 1)).map fun u : Str × List Str => u.1))) := (upd_ne nRW.symm).trans (s10 _ _ W8)
          refine ⟨_, rfl, .inl ⟨rfl, _, SqL.of W11⟩, _, rfl, W, _, .str (b.lead t.1 [d]), rfl, rfl, W11, small1000 (by rw [List.length_map, List.length_map, List.length_drop]; omega), ?_⟩
          have fr : ∀ {a : Addr}, H6 a = none → H a = none := fun h => m8.free h
          have v12 : Same (vw R W H10) (vw R W (upd (upd H10 R (.dK (kvR es ++ [(Sum.inr (b.lead t.1 [d]), .ref p)]))) W (.lst (sV ((tab.drop (n + 1)).map fun u : Str × List Str => u.1) ++ [.str (b.lead t.1 [d])])))) := vw_R.trans vw_W
          have v8 := (vw_same (R := R) (W := W) s10).trans v12
          refine ⟨tab ++ [(step1 b d t.1, t.2 ++ [d])], es ++ [(step1 b d t.1, p)], some (.str d), _, rfl, same_wr (same_wr (m8.trans s10) hR) W0, ?_, ?_, ?_, ?_⟩
          · rw [upd_ne nRW, upd_same]
            show some (HO.dK (kvR es ++ [(Sum.inr (b.lead t.1 [d]), V.ref p)])) = some (HO.dK (List.map _ (es ++ [(step1 b d t.1, p)])))
            rw [List.map_append]
            rfl
          · refine (hes8.mono fun _ _ q => RowS.same q v8).snoc ⟨rfl, v12 _ _ (vw_of pR pW (pat.trans ?_)), fr pn⟩
            show _ = some (HO.lst (List.map V.str (t.2 ++ [d])))
            rw [List.map_append]
            rfl
          · have lt1 : n + 1 ≤ tab.length := (List.getElem?_eq_some_iff.mp B1.at_).1
            rw [upd_same, List.drop_append_of_le_length lt1, List.map_append]
            show _ = some (HO.lst (List.map V.str (_ ++ _)))
            rw [List.map_append]
            rfl
          · rw [List.take_succ, hd]
            exact B1.new hdin hin
      · rintro σ H5 ⟨tab, es, c5, c6, rfl, m5, R5, hes5, W5, B1⟩
        rw [ld, List.take_length] at B1
        exact ⟨tab, n + 1, es, _, _, _, rfl, m5, R5, hes5, W5, B1.next, by omega⟩
end
end Bs
set_option Elab.async false
set_option linter.all false
set_option maxRecDepth 100000
set_option maxHeartbeats 4000000
namespace L2
namespace Pl
open PySem PySem.Spec PyProof.Rows LamP NdefX LamX
def Sd.start (b : Sd) : Str := b.names.headD ""
theorem Sd.Ok.first {b : Sd} (ok : b.Ok) : ∃ r, b.names = b.start :: r := by
  unfold Sd.start
  cases h : b.names with
  | nil =>
    have := ok.n1
    rw [h] at this
    exact absurd this (by decide)
  | cons a r => exact ⟨r, rfl⟩
theorem Sd.Ok.start_in {b : Sd} (ok : b.Ok) : b.start ∈ b.names := by
  obtain ⟨r, e⟩ := ok.first
  rw [e]
  exact List.mem_cons_self ..
theorem Sd.Ok.at0 {b : Sd} (ok : b.Ok) : (sV b.names)[0]? = some (.str b.start) := by
  obtain ⟨r, e⟩ := ok.first
  rw [e]
  rfl
/-- rows of deeds -/
def Row (b : Sd) (r : List Str) : Prop := ∀ d ∈ r, d ∈ b.deeds
/-- from all standings that can come, what stands behind both rows is alike -/
def AllAlike (b : Sd) (r1 r2 : List Str) : Prop := ∀ u, Row b u → Alike b (b.lead (b.lead b.start u) r1) (b.lead (b.lead b.start u) r2)
def PartRow (b : Sd) (r1 r2 u w : List Str) : Prop := Row b u ∧ Parts b (b.lead (b.lead b.start u) r1) (b.lead (b.lead b.start u) r2) w
/-- two new lists in a tuple -/
structure Told2 (TT : List NTab) (H H' : Hp) (T p q : Addr) (u w : List Str) : Prop where
  same : SameT TT H H'
  at_ : H' T = some (.tup [.ref p, .ref q])
  np : H p = none
  nq : H q = none
  ne : p ≠ q
  hp : H' p = some (.lst (sV u))
  hq : H' q = some (.lst (sV w))
  lu : u.length ≤ 6
  lw : w.length ≤ 26
def spRTP (K : PySem.W.Frag) (C : Addr) (TT : List NTab) : Sp := fun vs H Q _ => ∃ x b l1 l2 r1 r2, vs = [.ref x, .ref l1, .ref l2] ∧ TabsN TT H ∧ StAt C H x b ∧ b.Ok ∧ SqL K H l1 (sV r1) ∧ SqL K H l2 (sV r2) ∧ Row b r1 ∧ Row b r2 ∧ r1.length ≤ 1000 ∧ r2.length ≤ 1000 ∧
  (∀ H' T p q u w, Told2 TT H H' T p q u w → PartRow b r1 r2 u w → w.length ≤ 25 → Q (.ref T) H') ∧ (AllAlike b r1 r2 → ∀ H', SameT TT H H' → Q .non H')
theorem RowS.up {H0 H H' : Hp} {e : Str × Addr} {t : Str × List Str} {R : Addr} {o : HO} (h : RowS H0 H e t) (n : e.2 ≠ R) (m : Same (upd H R o) H') : RowS H0 H' e t := ⟨h.1, m _ _ ((upd_ne n).trans h.2.1), h.2.2⟩
theorem RowsAt.ne {H0 H : Hp} {b : Sd} {z : Str} {R : Addr} {es : List (Str × Addr)} {tab : List (Str × List Str)} (h : RowsAt H0 H b z R es tab) {e : Str × Addr} {t : Str × List Str} (r : RowS H0 H e t) : e.2 ≠ R := fun e1 => by
  have := r.2.1
  rw [e1, h.at_] at this
  cases this
theorem lead_can {b : Sd} (ok : b.Ok) {z : Str} (hz : z ∈ b.names) {u : List Str} (hu : Row b u) : b.lead z u ∈ b.names := lead_in ok hu hz
end Pl
end L2
set_option Elab.async false
set_option linter.all false
set_option maxRecDepth 100000
/-! {k: v for t0 in i0 for t1 in i1}: dict comprehensions with two clauses and no tests -/
namespace DcTwo
open PySem PySem.Spec PyProof.Rows L2
abbrev two (kx vx t0 i0 t1 i1 : Expr) (sc : Scope) (p : Pos) : Expr := .DictComp kx vx [⟨t0, i0, [], 0⟩, ⟨t1, i1, [], 0⟩] sc p
/-- what a turn does with an item that stands in its target, ahead of what follows -/
def goIn (e i1 : Expr) (acc : Value) (env : Env) (K : Sem PySem.Fin) : Sem PySem.Fin := do
  let x ← eval i1 env
  standAt i1.pos
  let x ← foldedSetIterable i1 env x
  let _ ← runOwn (.compStart e 1 (← holding [x] (pyIter x)) acc env) env
  K
def put (kx vx : Expr) (D : Addr) (env : Env) (K : Sem PySem.Fin) : Sem PySem.Fin := do
  (do
    let a ← eval kx env
    let b ← holding [a] (eval vx env)
    standAt { kx.pos with endLine := vx.pos.endLine, endCol := vx.pos.endCol }
    holding [a, b] (dictSet D a b))
  K
def turnOf (e t i : Expr) (lvl : Nat) (it acc : Value) (env : Env) (rest : Sem PySem.Fin → Sem PySem.Fin) : Sem PySem.Fin := do
  standAt i.pos
  match ← pyNext it with
  | none => pure (.done .next)
  | some v =>
    letOwnedTupleGo t it v
    assign t env v
    let mut ok := true
    for c in ([] : List Expr) do
      if ok then ok ← isTrue c env (eval c env)
    if ok then rest (again (.compLoop e lvl it acc env)) else again (.compLoop e lvl it acc env)
theorem turn0 (kx vx t0 i0 t1 i1 : Expr) (sc : Scope) (p : Pos) (it : Value) (D : Addr) (env : Env) :
    compTurn (two kx vx t0 i0 t1 i1 sc p) 0 it (.ref D) env = turnOf (two kx vx t0 i0 t1 i1 sc p) t0 i0 0 it (.ref D) env (goIn (two kx vx t0 i0 t1 i1 sc p) i1 (.ref D) env) := by rfl
theorem turn1 (kx vx t0 i0 t1 i1 : Expr) (sc : Scope) (p : Pos) (it : Value) (D : Addr) (env : Env) :
    compTurn (two kx vx t0 i0 t1 i1 sc p) 1 it (.ref D) env = turnOf (two kx vx t0 i0 t1 i1 sc p) t1 i1 1 it (.ref D) env (put kx vx D env) := by rfl
section
variable {prog : Program} {w : World} {A : Around} {R : Result → Shared → Prop} {s : Shared} {kx vx t0 i0 t1 i1 t i : Expr} {sc : Scope} {p : Pos} {lvl : Nat} {it : Value} {D : Addr} {env : Env} {rest : Sem PySem.Fin → Sem PySem.Fin}
/-- what leaves a piece of the block by an exception -/
abbrev Out (prog : Program) (w : World) (A : Around) (R : Result → Shared → Prop) (env : Env) : Value → Shared → Prop := notedBy (model prog w) A env fun x s' => R (.error x) s'
theorem loopOf (tu : compTurn (two kx vx t0 i0 t1 i1 sc p) lvl it (.ref D) env = turnOf (two kx vx t0 i0 t1 i1 sc p) t i lvl it (.ref D) env rest) (J : Nat → Shared → Prop)
    (step : ∀ k u, J k u → wpAny (model prog w) A (pyNext it) (fun r u1 => match r with
      | none => R (.ok .next) u1
      | some v => wpAny (model prog w) A (letOwnedTupleGo t it v) (fun _ u2 => wpAny (model prog w) A (assign t env v) (fun _ u3 => ∀ (K : Sem PySem.Fin) (Q : PySem.Fin → Shared → Prop), (∀ u4, (∃ k', k' < k ∧ J k' u4) → wpAny (model prog w) A K Q (Out prog w A R env) u4) → wpAny (model prog w) A (rest K) Q (Out prog w A R env) u3) (Out prog w A R env) u2) (Out prog w A R env) u1) (Out prog w A R env) u)
    (k : Nat) (j0 : J k s) : codeAny (model prog w) A (.compLoop (two kx vx t0 i0 t1 i1 sc p) lvl it (.ref D) env) R s := by
  refine codeAny_loop rfl J (fun k u hu => ?_) k j0
  show wpAny _ A ((compTurn (two kx vx t0 i0 t1 i1 sc p) lvl it (.ref D) env).onRaise fun x => do noteFrame x env; theTreesLotGoes x) _ _ u
  refine wpAny_noted ?_
  rw [tu]
  unfold turnOf
  refine wpAny_bind (wpAny_standAt (wpAny_bind (wpAny_mono (step k u hu) (fun r u1 h1 => ?_) fun _ _ z => z)))
  match r, h1 with
  | none, h1 => exact wpAny_pure h1
  | some v, h1 =>
    refine wpAny_bind (wpAny_mono h1 (fun _ u2 h2 => wpAny_bind (wpAny_mono h2 (fun _ u3 h3 => wpAny_bind (wpAny_tests_nil ?_)) fun _ _ z => z)) fun _ _ z => z)
    exact h3 _ _ fun u4 h4 => wpAny_pure ⟨rfl, h4⟩
/-- the second clause begins -/
theorem start1 (h0 : codeAny (model prog w) A (.compLoop (two kx vx t0 i0 t1 i1 sc p) 1 it (.ref D) env) R s)
    (h : wpAny (model prog w) A (pyIter it) (fun it' u => codeAny (model prog w) A (.compLoop (two kx vx t0 i0 t1 i1 sc p) 1 it' (.ref D) env) R u) (Out prog w A R env) s) :
    codeAny (model prog w) A (.compStart (two kx vx t0 i0 t1 i1 sc p) 1 it (.ref D) env) R s := by
  refine codeAny_of_tree ?_
  show wpAny _ _ ((compStart (two kx vx t0 i0 t1 i1 sc p) 1 it (.ref D) env).onRaise fun x => do noteFrame x env; standAt theWindowsPlace) _ _ s
  refine wpAny_notedAt ?_
  unfold compStart
  show wpAny _ _ (ask >>= _) _ _ s
  refine wpAny_bind (wpAny_askSetting (wpAny_ite ?_))
  split
  · first
      | exact wpAny_pure ⟨rfl, h0⟩
      | exact wpAny_bind (wpAny_pure (wpAny_pure ⟨rfl, h0⟩))
  · refine wpAny_bind (wpAny_rule ?_)
    show wpAny _ _ (standAt i1.pos >>= _) _ _ s
    exact wpAny_bind (wpAny_standAt (wpAny_bind (wpAny_mono h (fun it' u z => wpAny_pure ⟨rfl, z⟩) fun _ _ z => z)))
end
section
variable {X : Cx}
/-- what is asked of one loop of the two: J what it walks, W its invariant, fin what is reached behind it, body one turn -/
def Turns (J : It) (W : Nat → Nat → Hp → Prop) (fin : Hp → Prop) (body : (Hp → Prop) → V → Hp → Prop) : Prop := ∀ i m H, W i m H → (J.stop i H ∧ fin H) ∨ (J.go i H ∧ ∃ Nx : Hp → Prop, (∀ H', Nx H' → ∃ m', m' < m ∧ W (i + 1) m' H') ∧ ∀ x H', J.yld i H x H' → body Nx x H')
/-- {k: v for t0 in i0 for t1 in i1}; vs: the block's names, vs1: those of the second target -/
def tDc2 (wi : TI) (g : TG) (wi1 : TI) (g1 : TG) (tk tv : TE) (vs vs1 : List Nat) : TE := fun σ H Q => wi σ H fun J H1 => ∀ D, H1 D = none → ∃ W : Nat → Nat → Hp → Prop, (∃ m, W 0 m (upd H1 D (.dK []))) ∧
  Turns J W (Q (.ref D)) fun Nx x H' => g x (wipe σ vs) H' fun σ2 H2 => wipe σ2 vs = wipe σ vs ∧ wi1 σ2 H2 fun J1 H4 => ∃ W1 : Nat → Nat → Hp → Prop, (∃ m, W1 0 m H4) ∧
    Turns J1 W1 Nx fun Nx1 y H5 => g1 y (wipe σ2 vs1) H5 fun σ3 H6 => wipe σ3 vs1 = wipe σ2 vs1 ∧ tk σ3 H6 fun a H7 => tv σ3 H7 fun b H8 =>
      ∃ kvs k, a = kV k ∧ H8 D = some (.dK kvs) ∧ kvs.length < sizeLine ∧ Nx1 (upd H8 D (.dK (putK kvs k b)))
variable {kx vx t0 i0 t1 i1 : Expr} {sc : Scope} {own : List (Str × Nat)} {vs1 : List Nat} {p : Pos} {wi wi1 : TI} {g g1 : TG} {tk tv : TE}
/-- a piece of the block keeps its reading wherever the block stands -/
abbrev InBlk (X : Cx) (sc : Scope) (F : Cx → Prop) : Prop := ∀ (u : Shared) (G : Hp) (C : Addr) (cl : List (Str × Addr)) (fp : List Addr), F (X.blk u G sc (compEnvC sc cl C X.env) fp)
/-- footprints that stay out of the way of a loop -/
theorem far {X : Cx} {u0 : Shared} {G0 : Hp} {ce : Env} {fp : List Addr} {σ : L2.St} {H : Hp} {u : Shared} (I : Inv (X.blk u0 G0 sc ce fp) [] σ H u) (hn : ∀ b ∈ fp, H b = none) : ∀ b ∈ fp, FpOk (X.blk u0 G0 sc ce fp) [] H b := fun b hb => by
  refine ⟨hn b hb, (I.ok.exf b hb).1, I.ok.exfs b hb, .inl hb, fun x c => (I.ok.exf b hb).2 x c, fun q hq => ?_⟩
  exact absurd (show q ∈ ([] : List (Addr × Obj)) ++ [] from hq) (by simp)
/-- what a walk pinned is there at a turn's end -/
theorem pinned_stay {B : Cx} {pins : List (Addr × Obj)} {fp : List Addr} {h7 : Heap} {σ : L2.St} {H : Hp} {u : Shared} (I : Inv B (pins ++ pinsAt fp h7) σ H u) : ∀ b ∈ fp, ∀ o, h7.get? b = some o → u.heap.get? b = some o ∧ H b = none := fun b hb o e => by
  have z := I.pin (b, o) (List.mem_append_right _ (List.mem_append_right _ (mem_pinsAt hb e)))
  exact ⟨z.1, z.2.1⟩
section
variable {u0 : Shared} {G0 : Hp} {ce : Env} {fp : List Addr} {R : Result → Shared → Prop} {it D : Addr} {tn : Nat → Heap → Prop} {J : It} {σ0 : L2.St} {s4 : Shared} {m0 : Nat} {W : Nat → Nat → Hp → Prop} {fin : Hp → Prop}
/-- the second clause, within a turn of the first: from the walk's pins to the end of that turn -/
theorem inner (hc : X.calm = true) {pins : List (Addr × Obj)} {σ8 : L2.St} {H9 : Hp} {s9 : Shared} {Nx : Hp → Prop} {S : Shared → Prop}
    (pi1 : PI (X.blk u0 G0 sc ce fp) t1 i1 wi1) (pg1 : PG (X.blk u0 G0 sc ce fp) t1 g1) (pk : PE (X.blk u0 G0 sc ce fp) kx tk) (pe : PE (X.blk u0 G0 sc ce fp) vx tv) (hs1 : ∀ env x, foldedSetIterable i1 env x = pure x)
    (I9 : Inv (X.blk u0 G0 sc ce fp) pins σ8 H9 s9)
    (q : wi1 σ8 H9 fun J1 H4 => ∃ W1 : Nat → Nat → Hp → Prop, (∃ m, W1 0 m H4) ∧ Turns J1 W1 Nx fun Nx1 y H5 => g1 y (wipe σ8 vs1) H5 fun σ3 H6 => wipe σ3 vs1 = wipe σ8 vs1 ∧ tk σ3 H6 fun a H7 => tv σ3 H7 fun b H8 =>
      ∃ kvs k, a = kV k ∧ H8 D = some (.dK kvs) ∧ kvs.length < sizeLine ∧ Nx1 (upd H8 D (.dK (putK kvs k b))))
    (hfin : ∀ (H' : Hp) (s' : Shared), Inv (X.blk u0 G0 sc ce fp) pins (wipe σ8 vs1) H' s' → Nx H' → S s') (K : Sem PySem.Fin) (Q : PySem.Fin → Shared → Prop)
    (hK : ∀ s', S s' → wpAny (model X.prog X.w) X.A K Q (Out X.prog X.w X.A R ce) s') :
    wpAny (model X.prog X.w) X.A (goIn (two kx vx t0 i0 t1 i1 sc p) i1 (.ref D) ce K) Q (Out X.prog X.w X.A R ce) s9 := by
  unfold goIn
  refine wpAny_bind (thnF (pi1.run _ s9 σ8 H9 _ I9 q) fun xv s10 hx => wpAny_bind (wpAny_standAt (wpAny_bind (wpAny_of_eq (hs1 ce xv) (wpAny_bind (wpAny_holding (thnF hx fun itv s11 h11 => ?_)))))))
  obtain ⟨it1, fp1, tn1, J1, H11, rfl, I11, T1, st11, f11, W1, ⟨m1, w1⟩, tns⟩ := h11
  refine wpAny_bind (wpAny_runOwn ?_)
  rw [Around.mark_none]
  have clear_ : ∀ {H' : Hp}, (∀ b ∈ fp1, H' b = none) → ∀ b ∈ fp1, FpOk (X.blk u0 G0 sc ce fp) pins H' b := fun z b hb => ⟨z b hb, (f11 b hb).2⟩
  have run1 : codeAny (model X.prog X.w) X.A (.compLoop (two kx vx t0 i0 t1 i1 sc p) 1 (.ref it1) (.ref D) ce) (fun r s' => match r with
      | .ok _ => S s'
      | .error _ => False) s11 := by
    refine loopOf (turn1 kx vx t0 i0 t1 i1 sc p _ _ _) (fun k s' => ∃ j H', Inv (X.blk u0 G0 sc ce fp) pins (wipe σ8 vs1) H' s' ∧ tn1 j s'.heap ∧ (∀ b ∈ fp1, H' b = none) ∧ W1 j k H') ?_ m1 ⟨0, H11, I11.weak (wipe_length _ _) (fun j v z => (wipe_some z).1), st11, fun b hb => (f11 b hb).1, w1⟩
    rintro k s12 ⟨j, H12, I12, st12, n12, w12⟩
    rcases tns j k H12 w12 with ⟨halt, nx⟩ | ⟨go, Nx1, down, body⟩
    · refine thnF (T1.done (X.blk u0 G0 sc ce fp) rfl rfl rfl hc j _ s12 (wipe σ8 vs1) H12 (fun _ _ => False) I12 (clear_ n12) st12 halt) fun r s13 ⟨er, I13⟩ => ?_
      rw [er]
      exact hfin H12 s13 I13 nx
    · refine thnF (T1.item (X.blk u0 G0 sc ce fp) rfl rfl rfl hc j _ s12 (wipe σ8 vs1) H12 (fun _ _ => False) I12 (clear_ n12) st12 go) fun r s13 ⟨v1, er, h13⟩ => ?_
      rw [er]
      refine thnF h13 fun _ s14 ⟨y, H14, I14, r14, y14, st14, n14⟩ => thnF (pg1.run _ s14 (wipe σ8 vs1) H14 y v1 _ (I14.pinned (clear_ n14) (T1.obj _ _ st14)) r14 (body y H14 y14)) fun _ s15 ⟨σ15, H15, I15, w15, q15⟩ => ?_
      intro K1 Q1 hK1
      unfold put
      refine wpAny_bind (wpAny_bind (thnF (pk.run _ s15 σ15 H15 _ I15 q15) fun a s16 ⟨ya, H16, I16, r16, q16⟩ => wpAny_bind (wpAny_holding (thnF (pe.run _ s16 σ15 H16 _ I16 q16) fun b s17 ⟨yb, H17, I17, r17, kvs, kk, ek, atD, few, nx⟩ => wpAny_bind (wpAny_standAt (wpAny_holding ?_))))))
      subst ek
      refine d_dictSet (X := X.blk u0 G0 sc ce fp) I17 atD few r16 r17 fun s18 I18 => hK1 s18 ?_
      obtain ⟨k', lt, w'⟩ := down _ nx
      have ps := pinned_stay I18
      refine ⟨k', lt, j + 1, _, I18.unpinned.weak (by rw [← w15, wipe_length]) (fun j v z => by rw [← w15] at z; exact (wipe_some z).1), T1.keep _ _ _ st14 fun b hb o z => (ps b hb o z).1, fun b hb => ?_, w'⟩
      obtain ⟨o, z, _⟩ := T1.obj _ _ st14 b hb
      exact (ps b hb o z).2
  refine codeAny_mono (start1 run1 (T1.self X.A 0 _ _ _ st11 run1)) fun r s' hr => ?_
  match r, hr with
  | .ok fl, hr => exact hK s' hr
  | .error e, hr => exact hr.elim
/-- the first clause's loop -/
theorem outer (hc : X.calm = true) {σ : L2.St} {vs : List Nat} {G1 : Hp} (hv : ∀ i ∈ vs1, i ∈ vs) (T : Turn X.prog X.w X.K t0 J fp it tn)
    (pg : PG (X.blk u0 G0 sc ce fp) t0 g) (pi1 : PI (X.blk u0 G0 sc ce fp) t1 i1 wi1) (pg1 : PG (X.blk u0 G0 sc ce fp) t1 g1) (pk : PE (X.blk u0 G0 sc ce fp) kx tk) (pe : PE (X.blk u0 G0 sc ce fp) vx tv) (hs1 : ∀ env x, foldedSetIterable i1 env x = pure x)
    (tns : Turns J W fin fun Nx x H' => g x (wipe σ vs) H' fun σ2 H2 => wipe σ2 vs = wipe σ vs ∧ wi1 σ2 H2 fun J1 H4 => ∃ W1 : Nat → Nat → Hp → Prop, (∃ m, W1 0 m H4) ∧
      Turns J1 W1 Nx fun Nx1 y H5 => g1 y (wipe σ2 vs1) H5 fun σ3 H6 => wipe σ3 vs1 = wipe σ2 vs1 ∧ tk σ3 H6 fun a H7 => tv σ3 H7 fun b H8 =>
        ∃ kvs k, a = kV k ∧ H8 D = some (.dK kvs) ∧ kvs.length < sizeLine ∧ Nx1 (upd H8 D (.dK (putK kvs k b))))
    (hEnd : ∀ (H' : Hp) (s' : Shared), Inv (X.blk u0 G0 sc ce fp) [] (wipe σ vs) H' s' → fin H' → R (.ok .next) s')
    (I4 : Inv (X.blk u0 G0 sc ce fp) [] (wipe σ vs) G1 s4) (st4 : tn 0 s4.heap) (n4 : ∀ b ∈ fp, G1 b = none) (w0 : W 0 m0 G1) :
    codeAny (model X.prog X.w) X.A (.compLoop (two kx vx t0 i0 t1 i1 sc p) 0 (.ref it) (.ref D) ce) R s4 := by
  refine loopOf (turn0 kx vx t0 i0 t1 i1 sc p _ _ _) (fun k s' => ∃ i H', Inv (X.blk u0 G0 sc ce fp) [] (wipe σ vs) H' s' ∧ tn i s'.heap ∧ (∀ b ∈ fp, H' b = none) ∧ W i k H') ?_ m0 ⟨0, G1, I4, st4, n4, w0⟩
  rintro k s5 ⟨i, H5, I5, st5, n5, w5⟩
  rcases tns i k H5 w5 with ⟨halt, done⟩ | ⟨go, Nx, down, body⟩
  · refine thnF (T.done (X.blk u0 G0 sc ce fp) rfl rfl rfl hc i [] s5 _ H5 (fun _ _ => False) I5 (far I5 n5) st5 halt) fun r s6 ⟨er, I6⟩ => ?_
    rw [er]
    exact hEnd H5 s6 I6 done
  · refine thnF (T.item (X.blk u0 G0 sc ce fp) rfl rfl rfl hc i [] s5 _ H5 (fun _ _ => False) I5 (far I5 n5) st5 go) fun r s6 ⟨v, er, h6⟩ => ?_
    rw [er]
    refine thnF h6 fun _ s7 ⟨x, H7, I7, r7, y7, st7, n7⟩ => thnF (pg.run _ s7 _ H7 x v _ (I7.pinned (far I7 n7) (T.obj _ _ st7)) r7 (body x H7 y7)) fun _ s8 ⟨σ8, H8, I8, w8, q8⟩ => ?_
    intro K1 Q1 hK1
    refine inner (S := fun s' => ∃ k', k' < k ∧ ∃ i H', Inv (X.blk u0 G0 sc ce fp) [] (wipe σ vs) H' s' ∧ tn i s'.heap ∧ (∀ b ∈ fp, H' b = none) ∧ W i k' H') hc pi1 pg1 pk pe hs1 I8 q8 (fun H' s' I' nx => ?_) K1 Q1 hK1
    obtain ⟨k', lt, w'⟩ := down _ nx
    have ps := pinned_stay I'
    refine ⟨k', lt, i + 1, H', I'.unpinned.weak (by rw [← w8, wipe_length, wipe_length]) (fun j v z => ?_), T.keep _ _ _ st7 fun b hb o z => (ps b hb o z).1, fun b hb => ?_, w'⟩
    · rw [← w8] at z
      obtain ⟨z1, z2⟩ := wipe_some z
      rw [wipe_out fun q => z2 (hv j q)]
      exact z1
    · obtain ⟨o, z, _⟩ := T.obj _ _ st7 b hb
      exact (ps b hb o z).2
end
theorem pe_dc2 (hc : X.calm = true) (hN : X.N.Nodup) (hi : PI X t0 i0 wi) (ok : BlkOk X.N X.env.scope sc own) (hv : ∀ i ∈ vs1, i ∈ own.map (·.2))
    (hg : InBlk X sc fun B => PG B t0 g) (hi1 : InBlk X sc fun B => PI B t1 i1 wi1) (hg1 : InBlk X sc fun B => PG B t1 g1) (hk : InBlk X sc fun B => PE B kx tk) (he : InBlk X sc fun B => PE B vx tv)
    (hs : ∀ x, foldedSetIterable i0 X.env x = pure x := by intro _; rfl) (hs1 : ∀ env x, foldedSetIterable i1 env x = pure x := by intro _ _; rfl) :
    PE X (two kx vx t0 i0 t1 i1 sc p) (tDc2 wi g wi1 g1 tk tv (own.map (·.2)) vs1) := by
  refine ⟨fun pins s σ H Q I h => ?_⟩
  have fr : ∀ y ∈ sc.names, y.2 = .free → ∃ c, X.env.cells.lookup y.1 = some c := fun y hy e => (ok.free y hy e).elim (fun z => I.ok.has _ (.inl z)) fun z => I.ok.has _ (.inr z)
  show wpAny _ _ (eval (.DictComp kx vx [⟨t0, i0, [], 0⟩, ⟨t1, i1, [], 0⟩] sc p) X.env) _ _ s
  rw [arm_eval_DictComp]
  refine wpAny_comprehension_free (use := none) rfl hs (closure_ok fr) ok.kind (fun y hy e => by rw [ok.uniq y hy, e]) (thn (hi.run pins s σ H _ I h) fun xv s1 hx => thn hx fun itv s2 h2 => ?_)
  obtain ⟨it, fp, tn, J, H2, rfl, I2, T, st2, f2, q⟩ := h2
  refine wpAny_newObj_type (newEnv_comp ?_)
  obtain ⟨W, ⟨m0, w0⟩, tns⟩ := q s2.heap.objs.size (I2.hok.fresh (Nat.le_refl _))
  have I3 : Inv X pins σ (upd H2 s2.heap.objs.size (.dK [])) { s2 with heap := s2.heap.push { cls := .type "dict", data := .dict #[] } } := I2.laid (t' := s2.toks) (fun b o e => Heap.get?_push_of_some _ e) (Nat.le_refl _) (dk_empty s2.heap I2.big)
  have f3 : ∀ b ∈ fp, FpOk X pins (upd H2 s2.heap.objs.size (.dK [])) b ∧ b < (s2.heap.push { cls := .type "dict", data := .dict #[] }).objs.size := fun b hb => by
    obtain ⟨o, eo, _⟩ := T.obj _ _ st2 b hb
    have lt := Heap.lt_size eo
    refine ⟨⟨(upd_ne (Nat.ne_of_lt lt)).trans (f2 b hb).1, (f2 b hb).2⟩, ?_⟩
    rw [Heap.size_push]
    exact Nat.lt_succ_of_lt lt
  have I4 := block_start I3 ok hN f3
  have st4 : tn 0 (pushCells ((s2.heap.push { cls := .type "dict", data := .dict #[] }).push { cls := .type "dict", data := .dict #[] }) sc.names) := T.keep _ _ _ st2 fun b _ o eo => pushCells_keeps _ _ _ _ (Heap.get?_push_of_some _ (Heap.get?_push_of_some _ eo))
  have run0 := outer (R := compPost (model X.prog X.w) X.A X.xe none (EP X pins σ Q) (.ref s2.heap.objs.size) (s2.heap.push { cls := .type "dict", data := .dict #[] }).objs.size) (p := p) (i0 := i0) hc hv T (hg _ _ _ _ _) (hi1 _ _ _ _ _) (hg1 _ _ _ _ _) (hk _ _ _ _ _) (he _ _ _ _ _) hs1 tns (fun H' s' I' fin => ?_) I4 st4 (fun b hb => (f3 b hb).1.1) w0
  · exact codeAny_compStart_dict run0 (T.self X.A 0 _ _ _ st4 run0)
  · have I7 : Inv X pins σ H' s' := I3.call' (ch := fp) I'.os I'.base I'.hok I'.bare fun b hb => ⟨(f3 b hb).1.2.2.2.1, (f3 b hb).1.2.1, (f3 b hb).1.2.2.2.2.1, (f3 b hb).1.2.2.2.2.2⟩
    have nC : H' (s2.heap.push { cls := .type "dict", data := .dict #[] }).objs.size = none := I'.free
    obtain ⟨m, hn, _⟩ := I'.loc
    obtain ⟨a0, a1, a2, a3, a4, a5⟩ := I3.fpOk (Nat.le_refl _) nC
    exact ⟨m, hn, fun h'' sb => ⟨.ref s2.heap.objs.size, H', I7.turned (t' := s'.toks) (fun b o hb e => (sb.2 b hb).trans e) a0 a1 a3 a4 a5, rfl, fin⟩⟩
end
end DcTwo
set_option Elab.async false
set_option linter.all false
set_option maxRecDepth 100000
set_option maxHeartbeats 2000000
/-! days: what is seen of standings that may come next; the groups of standings that are alike; the lambda of played_again -/
namespace L2
namespace Pl
open PySem PySem.Spec PyProof.Rows LamP NdefX LamX
/-- for each standing those that may come next, each with its row -/
abbrev Btw := Str → List (Str × List Str)
def RowIn (N : Addr → Prop) (H : Hp) (e : Str × Addr) (t : Str × List Str) : Prop := e.1 = t.1 ∧ H e.2 = some (.lst (sV t.2)) ∧ N e.2
def BtAt (N : Addr → Prop) (H : Hp) (bt : Btw) (e : Str × Addr) (s : Str) : Prop := e.1 = s ∧ ∃ es, H e.2 = some (.dK (kvR es)) ∧ Paired (RowIn N H) es (bt s)
def BtwAt (N : Addr → Prop) (H : Hp) (B : Addr) (b : Sd) (bt : Btw) : Prop := ∃ es, H B = some (.dK (kvR es)) ∧ Paired (BtAt N H bt) es b.names
theorem RowIn.keep {N : Addr → Prop} {H H' : Hp} (m : Keeps H H') {e : Str × Addr} {t : Str × List Str} (h : RowIn N H e t) : RowIn N H' e t := ⟨h.1, m _ _ h.2.1, h.2.2⟩
theorem BtAt.keep {N : Addr → Prop} {H H' : Hp} (m : Keeps H H') {bt : Btw} {e : Str × Addr} {s : Str} (h : BtAt N H bt e s) : BtAt N H' bt e s :=
  let ⟨a, es, b, c⟩ := h
  ⟨a, es, m _ _ b, c.mono fun _ _ q => q.keep @m⟩
theorem BtwAt.keep {N : Addr → Prop} {H H' : Hp} (m : Keeps H H') {B : Addr} {b : Sd} {bt : Btw} (h : BtwAt N H B b bt) : BtwAt N H' B b bt :=
  let ⟨es, a, c⟩ := h
  ⟨es, m _ _ a, c.mono fun _ _ q => q.keep @m⟩
theorem Same.keeps {H H' : Hp} (m : Same H H') : Keeps H H' := fun b o h _ => m b o h
def btHas (bt : Btw) (s l : Str) : Bool := (bt s).any fun t => decide (t.1 = l)
/-- the first entry of a name -/
theorem valR {s : Str} : ∀ {es : List (Str × Addr)}, (∃ e ∈ es, e.1 = s) → ∃ e ∈ es, e.1 = s ∧ valV (kvR es) (Sum.inr s : Key) = some (.ref e.2)
  | [], h => by obtain ⟨_, h, _⟩ := h; cases h
  | a :: es, h => by
    by_cases c : a.1 = s
    · exact ⟨a, List.mem_cons_self .., c, valV_pos (p := ((Sum.inr a.1 : Key), V.ref a.2)) (congrArg Sum.inr c)⟩
    · obtain ⟨e, he, hs⟩ := h
      have he : e ∈ es := (List.mem_cons.mp he).resolve_left fun z => c (z ▸ hs)
      obtain ⟨e', h1, h2, h3⟩ := valR ⟨e, he, hs⟩
      exact ⟨e', List.mem_cons_of_mem _ h1, h2, (valV_neg (p := ((Sum.inr a.1 : Key), V.ref a.2)) fun z => c (Sum.inr.inj z)).trans h3⟩
theorem valR_none {s : Str} : ∀ {es : List (Str × Addr)}, (∀ e ∈ es, e.1 ≠ s) → valV (kvR es) (Sum.inr s : Key) = none
  | [], _ => rfl
  | a :: es, h => (valV_neg (p := ((Sum.inr a.1 : Key), V.ref a.2)) fun z => h a (List.mem_cons_self ..) (Sum.inr.inj z)).trans (valR_none fun e he => h e (List.mem_cons_of_mem _ he))
theorem paired_to {α β : Type} {F : α → β → Prop} : ∀ {xs : List α} {ys : List β}, Paired F xs ys → ∀ y ∈ ys, ∃ x ∈ xs, F x y
  | _, _, .cons h t, y, hy => by
    rcases List.mem_cons.mp hy with rfl | hy
    · exact ⟨_, List.mem_cons_self .., h⟩
    · obtain ⟨x, hx, f⟩ := paired_to t y hy
      exact ⟨x, List.mem_cons_of_mem _ hx, f⟩
theorem paired_of {α β : Type} {F : α → β → Prop} : ∀ {xs : List α} {ys : List β}, Paired F xs ys → ∀ x ∈ xs, ∃ y ∈ ys, F x y
  | _, _, .cons h t, x, hx => by
    rcases List.mem_cons.mp hx with rfl | hx
    · exact ⟨_, List.mem_cons_self .., h⟩
    · obtain ⟨y, hy, f⟩ := paired_of t x hx
      exact ⟨y, List.mem_cons_of_mem _ hy, f⟩
theorem BtwAt.get {N : Addr → Prop} {H : Hp} {B : Addr} {b : Sd} {bt : Btw} (h : BtwAt N H B b bt) {s : Str} (hs : s ∈ b.names) : ∃ a es, DGet H B (.str s) (some (.ref a)) ∧ H a = some (.dK (kvR es)) ∧ Paired (RowIn N H) es (bt s) := by
  obtain ⟨es, hB, p⟩ := h
  obtain ⟨e0, h0, h1⟩ := paired_to p s hs
  obtain ⟨e, he, e1, v⟩ := valR (s := s) ⟨e0, h0, h1.1⟩
  obtain ⟨s', _, q1, es2, q2, q3⟩ := paired_of p e he
  obtain rfl : s' = s := q1.symm.trans e1
  exact ⟨e.2, es2, v ▸ DGet.k (k := Sum.inr s') hB, q2, q3⟩
/-- is it there? -/
theorem row_in {N : Addr → Prop} {H : Hp} {a : Addr} {es : List (Str × Addr)} {ts : List (Str × List Str)} (ha : H a = some (.dK (kvR es))) (p : Paired (RowIn N H) es ts) (l : Str) : ∃ o, DGet H a (.str l) o ∧ o.isSome = (ts.any fun t => decide (t.1 = l)) ∧
    ∀ v, o = some v → ∃ q t, v = .ref q ∧ t ∈ ts ∧ t.1 = l ∧ H q = some (.lst (sV t.2)) ∧ N q := by
  by_cases c : ∃ e ∈ es, e.1 = l
  · obtain ⟨e, he, e1, v⟩ := valR c
    obtain ⟨t, ht, q1, q2, q3⟩ := paired_of p e he
    refine ⟨_, v ▸ DGet.k (k := Sum.inr l) ha, ?_, fun v ev => ?_⟩
    · exact (List.any_eq_true.mpr ⟨t, ht, decide_eq_true (q1.symm.trans e1)⟩).symm
    · cases ev
      exact ⟨e.2, t, rfl, ht, q1.symm.trans e1, q2, q3⟩
  · refine ⟨none, (valR_none fun e he z => c ⟨e, he, z⟩) ▸ DGet.k (k := Sum.inr l) ha, ?_, fun v ev => by cases ev⟩
    symm
    rw [Option.isSome_none, Bool.eq_false_iff]
    intro z
    obtain ⟨t, ht, e⟩ := List.any_eq_true.mp z
    obtain ⟨e1, he, q⟩ := paired_to p t ht
    exact c ⟨e1, he, q.1.trans (of_decide_eq_true e)⟩
/-- the groups by number -/
def GroupsAt (H : Hp) (D : Addr) (b : Sd) (gi : Str → Int) : Prop := ∃ kvs, H D = some (.dK kvs) ∧ (∀ s ∈ b.names, valV kvs (Sum.inr s : Key) = some (.int (gi s))) ∧ ∀ s ∈ b.names, ∀ t ∈ b.names, gi s = gi t ↔ Alike b s t
theorem GroupsAt.keep {H H' : Hp} (m : Keeps H H') {D : Addr} {b : Sd} {gi : Str → Int} (h : GroupsAt H D b gi) : GroupsAt H' D b gi :=
  let ⟨kvs, a, c⟩ := h
  ⟨kvs, m _ _ a, c⟩
theorem BtwAt.sameT {N : Addr → Prop} {TT : List NTab} {H H' : Hp} (m : SameT TT H H') {B : Addr} {b : Sd} {bt : Btw} (h : BtwAt N H B b bt) : BtwAt N H' B b bt := h.keep (@SameT.keep _ _ _ m)
theorem GroupsAt.sameT {TT : List NTab} {H H' : Hp} (m : SameT TT H H') {D : Addr} {b : Sd} {gi : Str → Int} (h : GroupsAt H D b gi) : GroupsAt H' D b gi := h.keep (@SameT.keep _ _ _ m)
theorem BtwAt.same {N : Addr → Prop} {H H' : Hp} (m : Same H H') {B : Addr} {b : Sd} {bt : Btw} (h : BtwAt N H B b bt) : BtwAt N H' B b bt := h.sameT (TT := []) (Same.t m)
theorem GroupsAt.same {H H' : Hp} (m : Same H H') {D : Addr} {b : Sd} {gi : Str → Int} (h : GroupsAt H D b gi) : GroupsAt H' D b gi := h.sameT (TT := []) (Same.t m)
theorem dget_sameT {TT : List NTab} {H H' : Hp} {a : Addr} {y : V} {r : Option V} (h : DGet H a y r) (m : SameT TT H H') : DGet H' a y r := by
  rcases h with ⟨kvs, k, h, e⟩ | ⟨kvs, k, c, h, e1, e2, e3⟩
  · refine .inl ⟨kvs, k, ?_, e⟩
    rcases h with h | ⟨o, h⟩
    · exact .inl (m _ _ h)
    · exact .inr ⟨o, m _ _ h⟩
  · refine .inr ⟨kvs, k, c, ?_, e1, m _ _ e2, e3⟩
    rcases h with h | ⟨o, h⟩
    · exact .inl (m _ _ h)
    · exact .inr ⟨o, m _ _ h⟩
noncomputable def wtD (b : Sd) (bt : Btw) (later : Str) (p : Pr) : Bool := btHas bt p.1 later && !alk b p.2 later
def spLamD (b : Sd) : List (Option V) → Sp := fun ws vs H Q E => ∃ (N : Addr → Prop) (B D : Addr) (later l r : Str) (bt : Btw) (gi : Str → Int), ws = [some (.ref B), some (.ref D), some (.str later)] ∧ vs = [.str l, .str r] ∧ BtwAt N H B b bt ∧ GroupsAt H D b gi ∧ later ∈ b.names ∧ l ∈ b.names ∧ r ∈ b.names ∧ Q (.bl (wtD b bt later (l, r))) H
/-- the lambda in the row that sets i's name: x = f(.., lambda ..) -/
def callLast : Expr → Expr
  | .Call _ args _ _ => args.getLast?.getD (.Constant .none 0 ⟨0, 0, 0, 0⟩)
  | _ => .Constant .none 0 ⟨0, 0, 0, 0⟩
end Pl
end L2
namespace Bs
open PySem PySem.Spec PyProof.Rows L2 L2.Pl LamP NdefX LamX
def forBodyS : Stmt → List Stmt
  | .For _ _ b _ _ => b
  | _ => []
def setVal : Stmt → Expr
  | .Assign _ e _ => e
  | _ => .Constant .none 0 ⟨0, 0, 0, 0⟩
abbrev eLamD : Expr := callLast (setVal ((forBodyS ((forBodyS ((defBody sPlayed).getD 1 (.Pass ⟨0, 0, 0, 0⟩))).getD 0 (.Pass ⟨0, 0, 0, 0⟩))).getD 0 (.Pass ⟨0, 0, 0, 0⟩)))
abbrev mkLamD (q : Str) (cl : List (Str × Addr)) (c' : Addr) : LF := ⟨q, lamArgs eLamD, lamBody eLamD, lamScope eLamD, cl, c'⟩
theorem scLamD : NScope ["left", "right", "between", "groups", "later"] ["left", "right"] ["between", "groups", "later"] (lamScope eLamD) := nscope_by (by decide +kernel)
section
variable {P : Program} {w : World} {K : PySem.W.Frag} {mg : Str → Option Value} {base : Heap} {f : Addr} {fd : FuncData}
theorem ok_lamD {b : Sd} (q : Str) (cl : List (Str × Addr)) (fa c' : Addr) : LOk P w K mg base (L2.CX P w) 5 fa (mkLamD q cl c') ["left", "right"] ["between", "groups", "later"] (spLamD b) := by
  refine lok_of (CX := L2.CX P w) scLamD (fun pm ctv us h => ?_) (fun ws vs H Q E h => ?_) (fun A outer s H vs ws Q E hr _ _ _ h => ?_)
  · match us, h with
    | [a, b], _ => rfl
  · obtain ⟨_, _, _, _, _, _, _, _, _, rfl, _⟩ := h
    rfl
  · obtain ⟨N, B, D, later, l, r, bt, gi, rfl, rfl, hB, hD, hla, hl, hrr, q⟩ := h
    refine ⟨_, pe_and (pe_cmp (pc_din (hu_of hr) (pv 4) (pe_dget (hu_of hr) (pv 2) (pv 0) (fun _ _ => rfl)))) (pe_one (pe_cmpR op_ne (pe_dget (hu_of hr) (pv 3) (pv 1) (fun _ _ => rfl)) (pe_dget (hu_of hr) (pv 3) (pv 4) (fun _ _ => rfl)) (nomark _))), ?_⟩
    obtain ⟨a, es, g1, g2, g3⟩ := hB.get hl
    obtain ⟨o, g4, g5, _⟩ := row_in g2 g3 later
    refine ⟨_, rfl, _, rfl, _, rfl, B, _, rfl, g1, a, o, rfl, g4, _, rfl, ?_⟩
    unfold wtD btHas at q
    rw [g5]
    cases c : (bt l).any fun t => decide (t.1 = later) with
    | false =>
      rw [c] at q
      exact iteF q
    | true =>
      rw [c] at q
      obtain ⟨kvs, d1, d2, d3⟩ := hD
      refine iteT ⟨_, rfl, _, rfl, D, _, rfl, (d2 r hrr) ▸ DGet.k (k := Sum.inr r) d1, _, rfl, _, rfl, D, _, rfl, (d2 later hla) ▸ DGet.k (k := Sum.inr later) d1, rfl, ?_⟩
      have e : (!decide (V.int (gi r) = V.int (gi later))) = (true && !alk b r later) := by
        rw [Bool.true_and]
        congr 1
        rw [Bool.eq_iff_iff, decide_eq_true_iff, alk_iff, ← d3 r hrr later hla]
        exact ⟨fun z => V.int.inj z, congrArg _⟩
      rw [e]
      exact q
end
end Bs
set_option Elab.async false
set_option linter.all false
set_option maxRecDepth 100000
set_option maxHeartbeats 4000000
namespace L2
namespace Pl
open PySem PySem.Spec PyProof.Rows LamP NdefX LamX
theorem flatS (ws : List Str) : (sV ws).all flatV = true := List.all_eq_true.mpr fun x hx => by
  obtain ⟨z, _, rfl⟩ := List.mem_map.mp hx
  rfl
def spCheckD (K : PySem.W.Frag) (C : Addr) : Sp := fun vs H Q _ => ∃ x b l r, vs = [.ref x, .ref l] ∧ StAt C H x b ∧ b.Ok ∧ SqL K H l (sV r) ∧ Row b r ∧ r.length ≤ 1000 ∧ ∀ H', Same H H' → Q .non H'
def spChange (C : Addr) (TT : List NTab) : Sp := fun vs H Q _ => ∃ x b a c, vs = [.ref x, .str a, .str c] ∧ TabsN TT H ∧ StAt C H x b ∧ b.Ok ∧ a ∈ b.deeds ∧ c ∈ b.deeds ∧
  (∀ H' T p q u w, Told2 TT H H' T p q u w → PartRow b [a, c] [c, a] u w → Q (.ref T) H') ∧ (AllAlike b [a, c] [c, a] → ∀ H', SameT TT H H' → Q .non H')
def spTwice (C : Addr) (TT : List NTab) : Sp := fun vs H Q _ => ∃ x b a, vs = [.ref x, .str a] ∧ TabsN TT H ∧ StAt C H x b ∧ b.Ok ∧ a ∈ b.deeds ∧
  (∀ H' T p q u w, Told2 TT H H' T p q u w → PartRow b [a] [a, a] u w → Q (.ref T) H') ∧ (AllAlike b [a] [a, a] → ∀ H', SameT TT H H' → Q .non H')
/-- three new lists in a tuple -/
structure Told3 (TT : List NTab) (H H' : Hp) (T p q r : Addr) (u v w : List Str) : Prop where
  same : SameT TT H H'
  at_ : H' T = some (.tup [.ref p, .ref q, .ref r])
  np : H p = none
  nq : H q = none
  nr : H r = none
  pq : p ≠ q
  pr : p ≠ r
  qr : q ≠ r
  hp : H' p = some (.lst (sV u))
  hq : H' q = some (.lst (sV v))
  hr : H' r = some (.lst (sV w))
  lu : u.length ≤ 6
  lv : v.length ≤ 6
  lw : w.length ≤ 26
def behind (b : Sd) (a : Str) (u v : List Str) : Str := b.lead (b.lead (b.lead b.start u) [a]) v
def spAgain (C : Addr) (TT : List NTab) : Sp := fun vs H Q _ => ∃ x b a, vs = [.ref x, .str a] ∧ TabsN TT H ∧ StAt C H x b ∧ b.Ok ∧ a ∈ b.deeds ∧
  (∀ H' T p q r u v w, Told3 TT H H' T p q r u v w → Row b u → Row b v → Parts b (behind b a u v) (b.lead (behind b a u v) [a]) w → Q (.ref T) H') ∧ ((∀ u v, Row b u → Row b v → Alike b (behind b a u v) (b.lead (behind b a u v) [a])) → ∀ H', SameT TT H H' → Q .non H')
def spLeft (C : Addr) (TT : List NTab) : Sp := fun vs H Q _ => ∃ x b a, vs = [.ref x, .str a] ∧ TabsN TT H ∧ StAt C H x b ∧ b.Ok ∧ a ∈ b.deeds ∧
  (∀ H' T p q u c w, c ∈ b.deeds → Told2 TT H H' T p q u (c :: w) → PartRow b [a, c] [c] u w → Q (.ref T) H') ∧ ((∀ c ∈ b.deeds, AllAlike b [a, c] [c]) → ∀ H', SameT TT H H' → Q .non H')
theorem Told2.afterT {TT : List NTab} {H H1 H' : Hp} {T p q : Addr} {u w : List Str} (m : SameT TT H H1) (t : Told2 TT H1 H' T p q u w) : Told2 TT H H' T p q u w := ⟨m.trans t.same, t.at_, m.free t.np, m.free t.nq, t.ne, t.hp, t.hq, t.lu, t.lw⟩
theorem Told2.after {TT : List NTab} {H H1 H' : Hp} {T p q : Addr} {u w : List Str} (m : Same H H1) (t : Told2 TT H1 H' T p q u w) : Told2 TT H H' T p q u w := t.afterT (Same.t m)
end Pl
end L2
namespace Bs
open PySem PySem.Spec PyProof.Rows L2 L2.Pl LamP NdefX LamX
theorem row2 {b : Sd} {a c : Str} (ha : a ∈ b.deeds) (hc : c ∈ b.deeds) : Row b [a, c] := fun d hd => by
  rcases List.mem_cons.mp hd with rfl | hd
  · exact ha
  · rw [List.mem_singleton.mp hd]
    exact hc
theorem row1 {b : Sd} {a : Str} (ha : a ∈ b.deeds) : Row b [a] := fun d hd => List.mem_singleton.mp hd ▸ ha
theorem str_at {ws : List Str} {i : Nat} {y : V} (h : (sV ws)[i]? = some y) : ∃ d, ws[i]? = some d ∧ y = .str d := by
  rw [List.getElem?_map] at h
  cases e : ws[i]? with
  | none =>
    rw [e] at h
    cases h
  | some u =>
    rw [e] at h
    exact ⟨u, rfl, (Option.some.inj h).symm⟩
end Bs
set_option Elab.async false
set_option linter.all false
set_option maxRecDepth 100000
set_option maxHeartbeats 4000000
namespace L2
namespace Pl
open PySem PySem.Spec PyProof.Rows
/-- a row of deeds leads the start there -/
def Can (b : Sd) (z : Str) : Prop := ∃ r, Row b r ∧ b.lead b.start r = z
noncomputable def canB (b : Sd) (z : Str) : Bool := @decide (Can b z) (Classical.propDecidable _)
theorem canB_iff {b : Sd} {z : Str} : canB b z = true ↔ Can b z := by
  unfold canB
  exact @decide_eq_true_iff _ (Classical.propDecidable _)
theorem Can.first {b : Sd} : Can b b.start := ⟨[], (fun d hd => by cases hd), rfl⟩
theorem Can.step {b : Sd} {z d : Str} (h : Can b z) (hd : d ∈ b.deeds) : Can b (b.lead1 d z) := by
  obtain ⟨r, hr, rfl⟩ := h
  refine ⟨r ++ [d], fun c hc => ?_, ?_⟩
  · rcases List.mem_append.mp hc with h | h
    · exact hr c h
    · rw [List.mem_singleton.mp h]
      exact hd
  · rw [lead_app]
    rfl
theorem Can.in_ {b : Sd} (ok : b.Ok) {z : Str} (h : Can b z) : z ∈ b.names := by
  obtain ⟨r, hr, rfl⟩ := h
  exact lead_in ok hr ok.start_in
/-- a set with the start, shut under deeds, has all that can come -/
theorem can_shut {b : Sd} {F : List Str} (h0 : b.start ∈ F) (hs : ∀ z ∈ F, ∀ d ∈ b.deeds, b.lead1 d z ∈ F) {z : Str} (h : Can b z) : z ∈ F := by
  obtain ⟨r, hr, rfl⟩ := h
  have : ∀ (r : List Str) (y : Str), y ∈ F → Row b r → b.lead y r ∈ F := by
    intro r
    induction r with
    | nil => exact fun y hy _ => hy
    | cons d r ih => exact fun y hy hr => ih (b.lead1 d y) (hs y hy d (hr d (List.mem_cons_self ..))) fun c hc => hr c (List.mem_cons_of_mem _ hc)
  exact this r _ h0 hr
noncomputable def comeL (b : Sd) : List Str := b.names.filter fun z => canB b z
theorem mem_come {b : Sd} (ok : b.Ok) {z : Str} : z ∈ comeL b ↔ Can b z := by
  unfold comeL
  rw [List.mem_filter, canB_iff]
  exact ⟨fun h => h.2, fun h => ⟨h.in_ ok, h⟩⟩
def spCome (C : Addr) : Sp := fun vs H Q _ => ∃ x b, vs = [.ref x] ∧ StAt C H x b ∧ b.Ok ∧ ∀ H' p, Same H H' → H p = none → H' p = some (.lst (sV (comeL b))) → Q (.ref p) H'
/-- the walk in depth -/
structure Dfs (b : Sd) (found waiting : List Str) : Prop where
  nd : found.Nodup
  can : ∀ z ∈ found ++ waiting, Can b z
  shut : ∀ z ∈ found, ∀ d ∈ b.deeds, b.lead1 d z ∈ found ++ waiting
  start : b.start ∈ found ++ waiting
theorem Dfs.few {b : Sd} (ok : b.Ok) {f w : List Str} (D : Dfs b f w) : f.length ≤ 5 := by
  have h := nd_le (m := b.names) D.nd fun y hy => (D.can y (List.mem_append_left _ hy)).in_ ok
  have := ok.n5
  omega
theorem Dfs.old {b : Sd} {f w : List Str} {z : Str} (D : Dfs b f (w ++ [z])) (h : z ∈ f) : Dfs b f w := by
  have sub : ∀ y, y ∈ f ++ (w ++ [z]) → y ∈ f ++ w := fun y hy => by
    rcases List.mem_append.mp hy with h1 | h1
    · exact List.mem_append_left _ h1
    · rcases List.mem_append.mp h1 with h2 | h2
      · exact List.mem_append_right _ h2
      · rw [List.mem_singleton.mp h2]
        exact List.mem_append_left _ h
  exact ⟨D.nd, fun y hy => D.can y (by
    rcases List.mem_append.mp hy with h1 | h1
    · exact List.mem_append_left _ h1
    · exact List.mem_append_right _ (List.mem_append_left _ h1)), fun y hy d hd => sub _ (D.shut y hy d hd), sub _ D.start⟩
theorem Dfs.new {b : Sd} {f w : List Str} {z : Str} (D : Dfs b f (w ++ [z])) (h : z ∉ f) : Dfs b (f ++ [z]) (w ++ b.deeds.map fun d => b.lead1 d z) := by
  have hz : Can b z := D.can z (List.mem_append_right _ (List.mem_append_right _ (List.mem_singleton.mpr rfl)))
  have sub : ∀ y, y ∈ f ++ (w ++ [z]) → y ∈ (f ++ [z]) ++ (w ++ b.deeds.map fun d => b.lead1 d z) := fun y hy => by
    rcases List.mem_append.mp hy with h1 | h1
    · exact List.mem_append_left _ (List.mem_append_left _ h1)
    · rcases List.mem_append.mp h1 with h2 | h2
      · exact List.mem_append_right _ (List.mem_append_left _ h2)
      · exact List.mem_append_left _ (List.mem_append_right _ h2)
  refine ⟨?_, fun y hy => ?_, fun y hy d hd => ?_, sub _ D.start⟩
  · rw [List.nodup_append]
    exact ⟨D.nd, List.nodup_cons.mpr ⟨List.not_mem_nil, List.nodup_nil⟩, fun a ha c hc e => h (by rw [← List.mem_singleton.mp hc, ← e]; exact ha)⟩
  · rcases List.mem_append.mp hy with h1 | h1
    · rcases List.mem_append.mp h1 with h2 | h2
      · exact D.can y (List.mem_append_left _ h2)
      · rw [List.mem_singleton.mp h2]
        exact hz
    · rcases List.mem_append.mp h1 with h2 | h2
      · exact D.can y (List.mem_append_right _ (List.mem_append_left _ h2))
      · obtain ⟨d, hd, rfl⟩ := List.mem_map.mp h2
        exact hz.step hd
  · rcases List.mem_append.mp hy with h1 | h1
    · exact sub _ (D.shut y h1 d hd)
    · rw [List.mem_singleton.mp h1]
      exact List.mem_append_right _ (List.mem_append_right _ (List.mem_map_of_mem hd))
theorem Dfs.all {b : Sd} {f : List Str} (D : Dfs b f []) {z : Str} (h : Can b z) : z ∈ f :=
  can_shut (by have := D.start; rwa [List.append_nil] at this) (fun y hy d hd => by have := D.shut y hy d hd; rwa [List.append_nil] at this) h
def keepI (us : List Str) : V → Bool
  | .str o => decide (o ∈ us)
  | _ => false
theorem keepI_filter {us : List Str} : ∀ ns : List Str, (sV ns).filter (keepI us) = sV (ns.filter fun o => decide (o ∈ us))
  | [] => rfl
  | a :: r => by
    have ih := keepI_filter (us := us) r
    show List.filter (keepI us) (V.str a :: sV r) = sV (List.filter (fun o => decide (o ∈ us)) (a :: r))
    rw [List.filter_cons, List.filter_cons, ih]
    show (if decide (a ∈ us) = true then _ else _) = _
    by_cases c : decide (a ∈ us) = true
    · rw [if_pos c, if_pos c]
      rfl
    · rw [if_neg c, if_neg c]
end Pl
end L2
set_option Elab.async false
set_option linter.all false
set_option maxRecDepth 100000
set_option maxHeartbeats 2000000
/-! played_again: its promise, and the dict of the groups -/
namespace L2
namespace Pl
open PySem PySem.Spec PyProof.Rows LamP NdefX LamX DcTwo
/-- a walk's turns by an invariant -/
theorem turns_it {J : It} {n : Nat} {G : Hp → Prop} {Y : Nat → Hp → V → Hp → Prop} (w : Walk J n G Y) {fin : Hp → Prop} {body : (Hp → Prop) → V → Hp → Prop} {H0 : Hp} (Pv : Nat → Hp → Prop) (h0 : Pv 0 H0) (hG : ∀ i H, i ≤ n → Pv i H → G H)
    (hs : ∀ i x H H', i < n → Pv i H → Y i H x H' → body (Pv (i + 1)) x H') (hd : ∀ H, Pv n H → fin H) : ∃ W : Nat → Nat → Hp → Prop, (∃ m, W 0 m H0) ∧ Turns J W fin body := by
  refine ⟨fun i m H => m = n - i ∧ i ≤ n ∧ Pv i H, ⟨n, by omega, Nat.zero_le _, h0⟩, ?_⟩
  rintro i m H ⟨rfl, hi, p⟩
  by_cases lt : i < n
  · refine .inr ⟨w.goes i H lt (hG i H hi p), Pv (i + 1), fun H' p' => ⟨n - (i + 1), by omega, rfl, by omega, p'⟩, fun x H' y => ?_⟩
    exact hs i x H H' lt p (w.yields i H x H' lt (hG i H hi p) y)
  · obtain rfl : i = n := by omega
    exact .inl ⟨w.stops H (hG _ H (Nat.le_refl _) p), hd H p⟩
/-- a shortest row passes no couple twice -/
theorem short_W {b : Sd} (ok : b.Ok) {wt : Pr → Bool} {y z : Str} (hy : y ∈ b.names) (hz : z ∈ b.names) {r : List Str} (hp : PartW b wt y z r) (hm : ∀ r', PartW b wt y z r' → r.length ≤ r'.length) : r.length ≤ 25 := by
  by_cases big : r.length ≤ 25
  · exact big
  let at_ : Nat → Pr := fun i => (b.lead y (r.take i), b.lead z (r.take i))
  have sub : ∀ i, ∀ d ∈ r.take i, d ∈ b.deeds := fun i d hd => hp.1 d (List.mem_of_mem_take hd)
  by_cases h : ∀ i j, i < j → j ≤ r.length → at_ i ≠ at_ j
  · have nd : ((List.range (r.length + 1)).map at_).Nodup := by
      unfold List.Nodup
      rw [List.pairwise_map]
      exact (List.pairwise_lt_range (n := r.length + 1)).imp_of_mem fun _ hb hab => h _ _ hab (by have := List.mem_range.mp hb; omega)
    have := nd_le (m := b.names.flatMap fun a => b.names.map fun c => (a, c)) nd fun p hp' => by
      obtain ⟨i, _, rfl⟩ := List.mem_map.mp hp'
      exact List.mem_flatMap.mpr ⟨_, lead_in ok (sub i) hy, List.mem_map.mpr ⟨_, lead_in ok (sub i) hz, rfl⟩⟩
    rw [pairs_len, List.length_map, List.length_range] at this
    have := Nat.mul_le_mul ok.n5 ok.n5
    omega
  · obtain ⟨i, h⟩ := Classical.not_forall.mp h
    obtain ⟨j, h⟩ := Classical.not_forall.mp h
    have h1 : i < j := Classical.byContradiction fun c => h fun c' => (c c').elim
    have h2 : j ≤ r.length := Classical.byContradiction fun c => h fun _ c' => (c c').elim
    have h3 : at_ i = at_ j := Classical.byContradiction fun c => h fun _ _ => c
    obtain ⟨e1, e2⟩ := Prod.mk.inj h3
    have cut : ∀ v, b.lead v (r.take i) = b.lead v (r.take j) → b.lead v (r.take i ++ r.drop j) = b.lead v r := fun v e => by
      rw [lead_app, e, ← lead_app, List.take_append_drop]
    have := hm (r.take i ++ r.drop j) ⟨fun d hd => by
      rcases List.mem_append.mp hd with hd | hd
      · exact hp.1 d (List.mem_of_mem_take hd)
      · exact hp.1 d (List.mem_of_mem_drop hd), by rw [cut y e1, cut z e2]; exact hp.2⟩
    rw [List.length_append, List.length_take, List.length_drop] at this
    omega
/-- nothing that may come next shows that a row cannot be played again -/
def NoAgain (b : Sd) (bt : Btw) : Prop := ∀ place later, Can b place → Can b later → ∀ v, Row b v → btHas bt (b.lead place v) later = true → Alike b (b.lead later v) later
/-- four lists in a tuple, three of them new -/
structure Told4 (N : Addr → Prop) (TT : List NTab) (H H' : Hp) (T p q r t : Addr) (u v x w : List Str) : Prop where
  same : SameT TT H H'
  at_ : H' T = some (.tup [.ref p, .ref q, .ref r, .ref t])
  np : H p = none
  nq : H q = none
  nt : H t = none
  old : H r = some (.lst (sV x))
  nb : N r
  pq : p ≠ q
  pt : p ≠ t
  qt : q ≠ t
  hp : H' p = some (.lst (sV u))
  hq : H' q = some (.lst (sV v))
  ht : H' t = some (.lst (sV w))
  lu : u.length ≤ 5
  lv : v.length ≤ 25
  lw : w.length ≤ 25
/-- u, v, x, w show it -/
def Shows4 (b : Sd) (bt : Btw) (u v x w : List Str) : Prop := ∃ later, Row b u ∧ Row b v ∧ (later, x) ∈ bt (b.lead (b.lead b.start u) v) ∧ Parts b later (b.lead later v) w
def spPlayed (C : Addr) (TT : List NTab) : Sp := fun vs H Q _ => ∃ x B b N bt, vs = [.ref x, .ref B] ∧ TabsN TT H ∧ StAt C H x b ∧ b.Ok ∧ BtwAt N H B b bt ∧
  (∀ H' T p q r t u v xx w, Told4 N TT H H' T p q r t u v xx w → Shows4 b bt u v xx w → Q (.ref T) H') ∧ (NoAgain b bt → ∀ H', SameT TT H H' → Q .non H')
/-! ### the groups by number -/
/-- what the dict holds behind n groups -/
def GrpN (b : Sd) (ks : List Str) (n : Nat) (kvs : List (Key × V)) : Prop := ∀ (j : Nat) k, j < n → ks[j]? = some k → ∀ s ∈ grp (alk b) b.names k, valV kvs (Sum.inr s : Key) = some (.int (j : Int))
theorem groups_done {b : Sd} (ok : b.Ok) {kvs : List (Key × V)} (h : GrpN b (firsts (alk b) b.names b.names) (firsts (alk b) b.names b.names).length kvs) {H : Hp} {D : Addr} (hD : H D = some (.dK kvs)) : ∃ gi, GroupsAt H D b gi := by
  have qv := alk_eqv b
  have nd : (firsts (alk b) b.names b.names).Nodup := List.Nodup.sublist List.filter_sublist ok.nd
  have rep : ∀ s ∈ b.names, ∃ j : Nat, (firsts (alk b) b.names b.names)[j]? = some (fstG (alk b) b.names s) ∧ valV kvs (Sum.inr s : Key) = some (.int (j : Int)) := fun s hs => by
    obtain ⟨f1, f2⟩ := fst_like qv hs
    have mem : fstG (alk b) b.names s ∈ firsts (alk b) b.names b.names := List.mem_filter.mpr ⟨f1, decide_eq_true (fst_fst qv hs)⟩
    obtain ⟨j, hj⟩ := List.mem_iff_getElem?.mp mem
    exact ⟨j, hj, h j _ (List.getElem?_eq_some_iff.mp hj).1 hj s (List.mem_filter.mpr ⟨hs, qv.symm _ _ f2⟩)⟩
  classical
  refine ⟨fun s => if hs : s ∈ b.names then ((rep s hs).choose : Int) else 0, kvs, hD, fun s hs => ?_, fun s hs t ht => ?_⟩
  · dsimp only
    rw [dif_pos hs]
    exact (rep s hs).choose_spec.2
  · dsimp only
    rw [dif_pos hs, dif_pos ht]
    have e1 := (rep s hs).choose_spec.1
    have e2 := (rep t ht).choose_spec.1
    generalize (rep s hs).choose = i at *
    generalize (rep t ht).choose = j at *
    have f1 := (fst_like qv hs).2
    have f2 := (fst_like qv ht).2
    constructor
    · intro e
      obtain rfl : i = j := by omega
      rw [e1] at e2
      have e3 := Option.some.inj e2
      rw [← e3] at f2
      exact alk_iff.mp (qv.trans _ _ _ (qv.symm _ _ f1) f2)
    · intro al
      have e3 : fstG (alk b) b.names s = fstG (alk b) b.names t := by
        have g := grp_eq qv (ns := b.names) (alk_iff.mpr al)
        obtain ⟨r1, w1⟩ := fst_mem qv hs
        obtain ⟨r2, w2⟩ := fst_mem qv ht
        rw [g, w2] at w1
        exact (List.cons.inj w1).1.symm
      rw [← e3] at e2
      have := (List.getElem?_inj (List.getElem?_eq_some_iff.mp e1).1 nd).mp (e1.trans e2.symm)
      rw [this]
theorem GrpN.put {b : Sd} {ks : List Str} (uq : ∀ k ∈ ks, ∀ k' ∈ ks, ∀ s, alk b s k = true → alk b s k' = true → k = k') (nd : ks.Nodup) {n : Nat} {kvs : List (Key × V)} (h : GrpN b ks n kvs) {k : Str} (hk : ks[n]? = some k) {s : Str} (hs : s ∈ grp (alk b) b.names k) (y : V) : GrpN b ks n (putK kvs (Sum.inr s : Key) y) := fun j k' hj hk' s' hs' => by
  rw [valV_put]
  rw [if_neg fun z => ?_]
  · exact h j k' hj hk' s' hs'
  · obtain rfl : s' = s := Sum.inr.inj z
    have := uq k (List.mem_of_getElem? hk) k' (List.mem_of_getElem? hk') s' (List.mem_filter.mp hs).2 (List.mem_filter.mp hs').2
    rw [this] at hk
    have := (List.getElem?_inj (List.getElem?_eq_some_iff.mp hk).1 nd).mp (hk.trans hk'.symm)
    omega
end Pl
end L2
set_option Elab.async false
set_option linter.all false
set_option maxRecDepth 100000
set_option maxHeartbeats 4000000
/-! played_again -/
namespace Bs
open PySem PySem.Spec PyProof.Rows L2 L2.Pl LamP NdefX LamX DcTwo
section
variable {P : Program} {w : World} {K : PySem.W.Frag} {mg : Str → Option Value} {base : Heap} {f : Addr} {fd : FuncData}
abbrev NPl : List Str := ["store", "between", "groups", "place", "before", "later", "row", "apart", "standing", "at", "group"]
theorem scPlayed : FnScope NPl ["store", "between"] (defScope sPlayed) := ⟨rfl, rfl, rfl, by decide +kernel, rfl, by decide +kernel, by decide +kernel⟩
theorem lamD_nd : ndefB (defScope sPlayed) (lamScope eLamD) ["between", "groups", "later"] = true := by decide +kernel
theorem ok_played {C CN : Addr} {TT : List NTab} {nm : Nat → Nat → Str} {c PT g : Addr} {gd : FuncData} (G : Gn mg) (T : StF K mg C) (M : StM P w K mg base C CN) (F : FnP K "played_again" sPlayed f fd) (oR : ∀ fr, CFn P w K mg base (L2.CX P w) 6 g gd ["store", "first", "second", "wanted"] fr (spRowW P w K mg base fr C)) (gR : mg "row_where" = some (.ref g)) (kR : PySem.W.keepIn K (.ref g) = true) (bR : L2.Binds K gd ["store", "first", "second", "wanted"] [])
    (hcode : fd.code = .ref c) (TB : TabB base mg c PT) (hm : (PT, nm) ∈ TT) (hn : ∀ i j, nm i j = "played_again.<locals>.<lambda>") (hu : ∀ p ∈ TT, p.1 = PT → p.2 = nm)
    (hK : Has P w K mg base CX0 "classes" 9 ["store"] (spClassesN C TT)) (hF : Has P w K mg base CX0 "rows_from" 5 ["store", "standing"] (spRows C)) (hP : Has P w K mg base (L2.CX P w) "parting" 7 ["store", "first", "second"] (spPartingN K C CN TT)) (hC : ∃ fc fdc, FnOk P w K mg base CX0 1 fc fdc ["self"] (spCome C) ∧ L2.Binds K fdc ["self"] [] ∧ Meth K C "come" fc) :
    FnOk P w K mg base CX0 10 f fd ["store", "between"] (spPlayed C TT) := by
  have part_use : ∀ {H : Hp} {x : Addr} {b : Sd} {y z : Str} {Q : VK} {E : XK}, TabsN TT H → StAt C H x b → b.Ok → y ∈ b.names → z ∈ b.names → (∀ v H', SameT TT H H' → ToldAt H H' b y z v → Q v H') → spPartingN K C CN TT [.ref x, .str y, .str z] H Q E := fun h0 h1 h2 h3 h4 q => parting_useN h0 h1 h2 h3 h4 q
  generalize spPartingN K C CN TT = pP at hP part_use
  obtain ⟨fK, dK, oK, bK, gK, kK⟩ := hK.ex
  obtain ⟨fF, dF, oF, bF, gF, kF⟩ := hF.ex
  obtain ⟨fP, dP, oP, bP, gP, kP⟩ := hP.ex
  obtain ⟨fC, dC, oC, bC, mC⟩ := hC
  obtain ⟨fE, dE, oE, bE, mE⟩ := M.lead
  obtain ⟨pS, fS, dS, oS, bS, mS⟩ := M.std
  obtain ⟨oc, od, dV, kV, doc, pm, an, cdv, ct, osl, rfl, lk, hcd, _, _⟩ := F.ex
  have hcode : cdv = .ref c := hcode
  subst hcode
  refine fn_of (CX := CX0) lk hcd scPlayed (fun vs H Q E h => ?_) (fun A outer s H vs Q E hr h => ?_)
  · obtain ⟨_, _, _, _, _, rfl, _⟩ := h
    rfl
  · obtain ⟨x, B, b, N, bt, rfl, hT, hx, ok, hB, q1, q2⟩ := h
    have hr1 := hr.mono (j := 1) (by decide)
    have hr2 := hr.mono (j := 2) (by decide)
    have hr4 := hr.mono (j := 4) (by decide)
    have hr5 := hr.mono (j := 5) (by decide)
    have hr6 := hr.mono (j := 6) (by decide)
    have hr7 := hr.mono (j := 7) (by decide)
    refine ⟨_, PSs.nox (pss_cons (ps_set (i := 2) scPlayed.nd rfl (.inr rfl) (pe_dc2 (own := [("standing", 8), ("at", 9), ("group", 10)]) (vs1 := [8]) (g := gTup K 2 (gCons (gName 9) (gCons (gName 10) gNil))) (wi1 := iList K (tVar 10)) (g1 := gName 8) (tk := tVar 8) (tv := tVar 9) rfl scPlayed.nd
          (pi_enum (by rfl) G.enum (pa_cons (pe_call oK hr (by rfl) gK kK bK .nil pass0 (pa_cons (pv 0) pa_nil)) pa_nil)) (blkOk_by (N := NPl) (sc := defScope sPlayed) (by decide +kernel)) (by decide)
          (fun _ _ _ _ _ => pg_tup rfl (pgs_cons (pg_name (i := 9) scPlayed.nd rfl (.inl rfl)) (pgs_cons (pg_name (i := 10) scPlayed.nd rfl (.inl rfl)) pgs_nil))) (fun _ _ _ _ _ => pi_list (pv 10)) (fun _ _ _ _ _ => pg_name (i := 8) scPlayed.nd rfl (.inl rfl)) (fun _ _ _ _ _ => pv 8) (fun _ _ _ _ _ => pv 9)))
      (pss_cons (ps_for PassesOwn.never rfl (pi_items (pe_shut (pe_call oF hr5 (by rfl) gF kF bF .nil pass0 (pa_cons (pv 0) (pa_cons (pe_ix ix_tup (pe_prop (pv 0) T.cl mS oS hr2 bS .nil pass0 (by rfl)) pe_int (fun _ _ => rfl)) pa_nil))))) (pg_tup rfl (pgs_cons (pg_name (i := 3) scPlayed.nd rfl (.inl rfl)) (pgs_cons (pg_name (i := 4) scPlayed.nd rfl (.inl rfl)) pgs_nil)))
        (pss_one (ps_for PassesOwn.never rfl (pi_list (pe_meth0 (pv 0) T.cl mC oC hr1 bC .nil pass0)) (pg_name (i := 5) scPlayed.nd rfl (.inr rfl))
          (pss_cons (ps_set (i := 6) scPlayed.nd rfl (.inl rfl) (pe_callC (E := E0) (js := [1, 2, 5]) (oR ["between", "groups", "later"]) (fun ok => Caps.made ok (ndef_free lamD_nd) (ndef_fr lamD_nd) rfl) hr6 (by rfl) gR kR bR .nil passF
              (pa_cons (pv 0) (pa_cons (pv 3) (pa_cons (pv 5) (pa_cons (pe_lambda TB rfl hm (hn _ _) hu (ndef_free lamD_nd) (by rfl)) pa_nil))))))
          (pss_one (ps_if (pt_cmpR op_notN (pv 6) pe_non (nomark _))
            (pss_cons (ps_set (i := 7) scPlayed.nd rfl (.inl rfl) (pe_call (E := E0) oP hr7 (by rfl) gP kP bP .nil passF (pa_cons (pv 0) (pa_cons (pv 5) (pa_cons (pe_meth (pv 0) T.cl mE oE hr4 bE .nil passF (pa_cons (pv 5) (pa_cons (pv 6) pa_nil))) pa_nil)))))
            (pss_one (ps_ret (pe_tup (pa_cons (pv 4) (pa_cons (pv 6) (pa_cons (pe_dget (hu_of hr) (pe_dget (hu_of hr) (pv 1) (pe_meth (pv 0) T.cl mE oE hr4 bE .nil passF (pa_cons (pv 3) (pa_cons (pv 6) pa_nil))) (fun _ _ => rfl)) (pv 5) (fun _ _ => rfl)) (pa_cons (pv 7) pa_nil)))))))) pss_nil))))))
      (pss_one (ps_ret pe_non)))), ?_⟩
    obtain ⟨dx, ts, td, dl, dk, es0, h1, h2, h3, h4, h5, h6⟩ := id hx
    have nE : (stFs ts td dl dk).lookup ("lead" : Str) = none := st_no (by decide +kernel)
    have nC : (stFs ts td dl dk).lookup ("come" : Str) = none := st_no (by decide +kernel)
    have n5 := ok.n5
    have qv := alk_eqv b
    have nd : (firsts (alk b) b.names b.names).Nodup := List.Nodup.sublist List.filter_sublist ok.nd
    have uq : ∀ k ∈ firsts (alk b) b.names b.names, ∀ k' ∈ firsts (alk b) b.names b.names, ∀ s, alk b s k = true → alk b s k' = true → k = k' := fun k hk k' hk' s a c => by
      have e1 := of_decide_eq_true (List.mem_filter.mp hk).2
      have e2 := of_decide_eq_true (List.mem_filter.mp hk').2
      have g := grp_eq qv (ns := b.names) (qv.trans _ _ _ (qv.symm _ _ a) c)
      obtain ⟨r1, w1⟩ := fst_mem qv (List.mem_filter.mp hk).1
      obtain ⟨r2, w2⟩ := fst_mem qv (List.mem_filter.mp hk').1
      rw [g, w2, e1, e2] at w1
      exact (List.cons.inj w1).1.symm
    refine ⟨_, rfl, x, b, rfl, hT, hx, ok, fun H1 p gs m1 p0 hp ne pr => ⟨p, _, rfl, SqL.of hp, fun D hD => ?_⟩⟩
    have lgs : gs.length ≤ 5 := by
      have h8 := pr.length
      have h9 := List.length_filter_le (fun s => decide (fstG (alk b) b.names s = s)) b.names
      have h8 : gs.length = (firsts (alk b) b.names b.names).length := h8
      unfold firsts at h8
      omega
    have mD : SameT TT H1 (upd H1 D (.dK [])) := sameT_new hD
    refine turns_it (walk_enum (K := K) (a := p) (xs := gs.map fun e => V.ref e.2)) (fun i H' => SameT TT H1 H' ∧ ∃ kvs, H' D = some (.dK kvs) ∧ kvs.length ≤ 5 * i ∧ GrpN b (firsts (alk b) b.names b.names) i kvs) ⟨mD, [], upd_same, Nat.zero_le _, fun j k hj => absurd hj (Nat.not_lt_zero _)⟩ (fun i H' _ ⟨m, _⟩ => SqL.of (m _ _ hp)) ?_ ?_
    · rintro i y H2 H3 hi ⟨m2, kvs, hk, lk, gn⟩ ⟨T1, y1, y2, rfl, nT, rfl, e1, e2⟩
      obtain ⟨e, he, rfl⟩ : ∃ e, gs[i]? = some e ∧ y2 = .ref e.2 := by
        have e2 : (gs.map fun e => V.ref e.2)[i]? = some y2 := e2
        rw [List.getElem?_map] at e2
        cases c : gs[i]? with
        | none =>
          rw [c] at e2
          cases e2
        | some u =>
          rw [c] at e2
          exact ⟨u, rfl, (Option.some.inj e2).symm⟩
      obtain rfl := Option.some.inj e1
      obtain ⟨k, hk0, ge⟩ := L2.paired_get pr he
      have m3 := m2.trans (sameT_new (T := TT) nT (o := .tup [.int (i : Nat), .ref e.2]))
      have kD : (upd H2 T1 (.tup [.int (i : Nat), .ref e.2])) D = some (.dK kvs) := (upd_ne (ne_of_none hk nT)).trans hk
      refine ⟨T1, _, rfl, .inl (.inl upd_same), rfl, _, [.ref e.2], rfl, _, [], rfl, rfl, rfl, ?_⟩
      generalize upd H2 T1 (.tup [.int (i : Nat), .ref e.2]) = H3 at *
      refine ⟨_, rfl, e.2, rfl, ⟨_, SqL.of (m3 _ _ ge.2.1)⟩, ?_⟩
      have lg : (grp (alk b) b.names k).length ≤ 5 := Nat.le_trans (List.length_filter_le _ _) n5
      have li : i < 5 := by
        rw [List.length_map] at hi
        omega
      refine turns_it (walk_list (K := K) (a := e.2) (xs := sV (grp (alk b) b.names k))) (fun j H' => SameT TT H1 H' ∧ ∃ kvs, H' D = some (.dK kvs) ∧ kvs.length ≤ 5 * i + j ∧ GrpN b (firsts (alk b) b.names b.names) i kvs ∧ ∀ s ∈ (grp (alk b) b.names k).take j, valV kvs (Sum.inr s : Key) = some (.int (i : Int)))
        ⟨m3, kvs, kD, lk, gn, fun s hs => by
          rw [List.take_zero] at hs
          cases hs⟩ (fun j H' _ ⟨m, _⟩ => SqL.of (m _ _ ge.2.1)) ?_ ?_
      · rintro j y H4 H5 hj ⟨m4, kv4, hk4, lk4, gn4, tk4⟩ ⟨rfl, ey⟩
        obtain ⟨s0, hs0, rfl⟩ := str_at ey
        have sin := List.mem_of_getElem? hs0
        rw [List.length_map] at hj
        refine ⟨rfl, _, rfl, _, rfl, kv4, Sum.inr s0, rfl, hk4, small1000 (by omega), sameT_wrD m4 hD hk4, _, upd_same, ?_, gn4.put uq nd hk0 sin _, fun s hs => ?_⟩
        · have := length_putK kv4 (Sum.inr s0 : Key) (.int (i : Nat))
          omega
        · rw [valV_put]
          by_cases c : (Sum.inr s : Key) = Sum.inr s0
          · rw [if_pos c]
          · rw [if_neg c]
            rw [List.take_succ, hs0] at hs
            rcases List.mem_append.mp hs with hs | hs
            · exact tk4 s hs
            · exact (c (congrArg Sum.inr (List.mem_singleton.mp hs))).elim
      · rintro H4 ⟨m4, kv4, hk4, lk4, gn4, tk4⟩
        rw [List.length_map, List.take_length] at tk4
        rw [List.length_map] at lk4
        refine ⟨m4, kv4, hk4, by omega, fun j' k' hj' hk' s hs => ?_⟩
        by_cases c : j' = i
        · subst c
          rw [hk0] at hk'
          cases hk'
          exact tk4 s hs
        · exact gn4 j' k' (by omega) hk' s hs
    · rintro H2 ⟨m2, kvs, hk, lk, gn⟩
      rw [List.length_map, show gs.length = (firsts (alk b) b.names b.names).length from pr.length] at gn
      obtain ⟨gi, gat⟩ := groups_done ok gn hk
      have mH := m1.trans m2
      have hB2 := hB.sameT mH
      have hx2 := hx.sameT mH
      -- for place, before in rows_from(..).items()
      refine ⟨_, rfl, _, rfl, x, dx, _, rfl, mH _ _ h1, x, dx, _, .ref ts, rfl, mH _ _ h1, st_look1, ts, _, 0, .str b.start, rfl, rfl, SqT.up (mH _ _ h2), atI_nat (j := 0) ok.at0, x, b, b.start, rfl, hx2, ok, ok.start_in, fun H3 R es tab m3 ra => ?_⟩
      refine ⟨R, kvR es, rfl, ra.at_, fun od => ⟨R, od, kvR es, rfl, upd_same, ?_⟩⟩
      have m3' : SameT TT H2 (upd H3 R (.frz od (.dK (kvR es)))) := Same.t (same_wr m3 ra.new)
      have mS := mH.trans m3'
      have rows : ∀ {j : Nat} {e : Str × Addr}, es[j]? = some e → ∃ t, tab[j]? = some t ∧ e.1 = t.1 ∧ (upd H3 R (.frz od (.dK (kvR es)))) e.2 = some (.lst (sV t.2)) ∧ H e.2 = none := fun {j e} hj => by
        obtain ⟨t, ht, r⟩ := L2.paired_get ra.rows hj
        exact ⟨t, ht, r.1, (upd_ne (ra.ne r)).trans r.2.1, mH.free r.2.2⟩
      have atR : (upd H3 R (.frz od (.dK (kvR es)))) R = some (.frz od (.dK (kvR es))) := upd_same
      have lkv : (kvR es).length = tab.length := (List.length_map _).trans ra.rows.length
      have raLead := ra.lead
      have raAll := ra.all
      have raShort := ra.short
      clear ra
      have gS := gat.sameT m3'
      have hBS := hB.sameT mS
      generalize upd H3 R (.frz od (.dK (kvR es))) = HS at *
      refine for_it (walk_items (d := R) (o := od) (kvs := kvR es)) (fun i σ H' => ∃ c3 c4 c5 c6 c7, σ = [some (.ref x), some (.ref B), some (.ref D), c3, c4, c5, c6, c7, none, none, none] ∧ SameT TT HS H' ∧ ∀ j t, j < i → tab[j]? = some t → ∀ later, Can b later → ∀ v, Row b v → btHas bt (b.lead t.1 v) later = true → Alike b (b.lead later v) later)
        ⟨_, _, _, _, _, rfl, SameT.refl HS, fun j t hj => absurd hj (Nat.not_lt_zero _)⟩ (fun i σ H' _ ⟨_, _, _, _, _, _, m, _⟩ => m _ _ atR) ?_ ?_
      · rintro i y σ H4 H5 hi ⟨c3, c4, c5, c6, c7, rfl, m4, al⟩ ⟨T1, y1, y2, rfl, nT, rfl, e1, e2⟩
        rw [List.length_map] at hi
        obtain ⟨e, he⟩ : ∃ e, es[i]? = some e := ⟨_, List.getElem?_eq_getElem hi⟩
        obtain ⟨t, ht, er, eA, eN⟩ := rows he
        have gg : (kvR es)[i]? = some (Sum.inr e.1, V.ref e.2) := by
          rw [List.getElem?_map, he]
          rfl
        dsimp only at e1 e2
        rw [gg] at e1 e2
        obtain rfl : y1 = .str e.1 := (Option.some.inj e1).symm
        obtain rfl : y2 = .ref e.2 := (Option.some.inj e2).symm
        rw [er]
        have m5 : SameT TT HS (upd H4 T1 (.tup [.str t.1, .ref e.2])) := m4.trans (sameT_new nT)
        refine ⟨T1, _, rfl, .inl (.inl upd_same), rfl, _, [.ref e.2], rfl, _, [], rfl, rfl, ?_⟩
        generalize upd H4 T1 (.tup [.str t.1, .ref e.2]) = H5 at *
        have mH5 := mS.trans m5
        obtain ⟨tl, tr⟩ := raLead t (List.mem_of_getElem? ht)
        have in1 : t.1 ∈ b.names := by
          rw [← tl]
          exact lead_can ok ok.start_in tr
        -- for later in store.come()
        refine ⟨_, rfl, x, dx, _, rfl, mH5 _ _ h1, nC, x, b, rfl, hx.sameT mH5, ok, fun H6 pc m6 hpc0 hpc => ⟨pc, rfl, ⟨_, SqL.of hpc⟩, ?_⟩⟩
        have m6 := m5.trans (Same.t (T := TT) m6)
        refine for_list (K := K) (a := pc) (xs := sV (comeL b)) (fun j σ H' => ∃ c5 c6 c7, σ = [some (.ref x), some (.ref B), some (.ref D), some (.str t.1), some (.ref e.2), c5, c6, c7, none, none, none] ∧ SameT TT HS H' ∧ SameT TT H6 H' ∧ ∀ l ∈ (comeL b).take j, ∀ v, Row b v → btHas bt (b.lead t.1 v) l = true → Alike b (b.lead l v) l)
          ⟨_, _, _, rfl, m6, SameT.refl _, fun l hl => by
            rw [List.take_zero] at hl
            cases hl⟩ (fun j σ H' _ ⟨_, _, _, _, _, m, _⟩ => SqL.of (m _ _ hpc)) ?_ ?_
        · rintro j y σ H7 hj ⟨c5, c6, c7, rfl, m7, n7, al7⟩
          obtain ⟨l, hl, rfl⟩ := str_at hj
          have lin := List.mem_of_getElem? hl
          have lcan := (mem_come ok).mp lin
          have lnm := lcan.in_ ok
          have mH7 := mS.trans m7
          -- row = row_where(store, place, later, lambda ..)
          refine ⟨_, rfl, _, rfl, _, rfl, mH7.tabs hT, fun f' c' H8 eX nn T1' f0 fat cat => ?_⟩
          have s8 : SameT TT H7 H8 := ⟨fun a o h n => eX a o h n, nn, fun _ => T1'⟩
          have m8 := m7.trans s8
          have mH8 := mS.trans m8
          refine ⟨x, b, t.1, l, f', _, spLamD b, wtD b bt l, rfl, hx.sameT mH8, ok, in1, lnm, rfl, fat, cat, ok_lamD _ _ _ _, fun H' l1 r1 Q' m hl1 hr1 hq => ⟨N, B, D, l, l1, r1, bt, gi, rfl, rfl, (hB.sameT mH8).same m, (gS.sameT m8).same m, lnm, hl1, hr1, hq⟩, fun H9 pr9 row m9 p90 at9 hp9 hs9 => ?_, fun hno H9 m9 => ?_⟩
          · -- it was found
            have m9 := Same.t (T := TT) m9
            have mH9 := mH8.trans m9
            have few := short_W ok in1 lnm hp9 hs9
            obtain ⟨hd9, wt9⟩ := hp9
            refine ⟨_, rfl, rfl, _, rfl, iteT ?_⟩
            have w2 : btHas bt (b.lead t.1 row) l = true ∧ alk b (b.lead l row) l = false := by
              unfold wtD at wt9
              rw [Bool.and_eq_true] at wt9
              exact ⟨wt9.1, by simpa using wt9.2⟩
            have lr := lead_can ok lnm hd9
            refine ⟨_, rfl, _, rfl, _, rfl, x, dx, _, rfl, mH9 _ _ h1, nE, _, rfl, _, rfl, x, b, .str l, pr9, row, rfl, hx.sameT mH9, ok, SqL.of at9, by omega, hd9, .inl ⟨_, rfl, lnm⟩, fun z1 ez _ H10 m10 => ?_, fun nst => (not_noSt lnm nst).elim⟩
            cases ez
            have m10 := Same.t (T := TT) m10
            have mH10 := mH9.trans m10
            refine part_use (mH10.tabs hT) (hx.sameT mH10) ok lnm lr fun v H11 m11 hv => ?_
            have mH11 := mH10.trans m11
            have nal : ¬ Alike b l (b.lead l row) := fun z => by
              rw [alk_iff.mpr (show Alike b (b.lead l row) l from alk_iff.mp (qv.symm _ _ (alk_iff.mpr z)))] at w2
              cases w2.2
            rcases hv with ⟨pa, apart, rfl, ha0, hat, hpa, hma⟩ | ⟨rfl, hal⟩
            · have fewA := short_parts ok lnm lr hpa hma
              -- return before, row, between[..][later], apart
              refine ⟨_, rfl, _, rfl, _, rfl, _, rfl, x, dx, _, rfl, mH11 _ _ h1, nE, _, rfl, _, rfl, x, b, .str t.1, pr9, row, rfl, hx.sameT mH11, ok, SqL.of ((m10.trans m11) _ _ at9), by omega, hd9, .inl ⟨_, rfl, in1⟩, fun z1 ez _ H12 m12 => ?_, fun nst => (not_noSt in1 nst).elim⟩
              cases ez
              have m12 := Same.t (T := TT) m12
              have mH12 := mH11.trans m12
              have tv := lead_can ok in1 hd9
              obtain ⟨a0, es2, g1, g2, g3⟩ := hB.get tv
              obtain ⟨o, g4, g5, g6⟩ := row_in g2 g3 l
              have h5 : o.isSome = true := g5.trans w2.1
              obtain ⟨v0, rfl⟩ := Option.isSome_iff_exists.mp h5
              obtain ⟨qa, tx, rfl, tin, tl1, hqa, nqa⟩ := g6 v0 rfl
              have g1' := dget_sameT g1 mH12
              have g4' := dget_sameT g4 mH12
              refine ⟨B, _, rfl, g1', _, rfl, a0, _, rfl, g4', _, rfl, by show 4 ≤ sizeLine; decide, fun T9 hT9 => ?_⟩
              have s13 : SameT TT H12 (upd H12 T9 (.tup [.ref e.2, .ref pr9, .ref qa, .ref pa])) := sameT_new hT9
              have to13 := m9.trans (m10.trans (m11.trans (m12.trans s13)))
              have e8 := m8 _ _ eA
              have e10 := (m9.trans m10) _ _ e8
              have r10 := m10 _ _ at9
              exact q1 _ T9 e.2 pr9 qa pa t.2 row tx.2 apart ⟨mH12.trans s13, upd_same, eN, mH8.free p90, mH10.free ha0, hqa, nqa, ne_of_none e8 p90, ne_of_none e10 ha0, ne_of_none r10 ha0, to13 _ _ e8, (m10.trans (m11.trans (m12.trans s13))) _ _ at9, (m12.trans s13) _ _ hat, raShort t (List.mem_of_getElem? ht), few, fewA⟩
                ⟨l, tr, hd9, by rw [tl, show (l, tx.2) = tx from Prod.ext tl1.symm rfl]; exact tin, hpa⟩
            · exact (nal hal).elim
          · -- none
            refine ⟨_, rfl, rfl, _, rfl, iteF ⟨_, _, _, rfl, (m8.trans (Same.t m9)), n7.trans (s8.trans (Same.t m9)), fun l' hl' v hv hb => ?_⟩⟩
            rw [List.take_succ, hl] at hl'
            rcases List.mem_append.mp hl' with h | h
            · exact al7 l' h v hv hb
            · obtain rfl := List.mem_singleton.mp h
              refine Classical.byContradiction fun na => hno v ⟨hv, ?_⟩
              unfold wtD
              rw [hb, Bool.true_and]
              cases c : alk b (b.lead l' v) l' with
              | true => exact (na (alk_iff.mp c)).elim
              | false => rfl
        · rintro σ H7 ⟨c5, c6, c7, rfl, m7, _, al7⟩
          rw [List.length_map, List.take_length] at al7
          refine ⟨_, _, _, _, _, rfl, m7, fun j u hj hu later hla v hv hb => ?_⟩
          by_cases c : j = i
          · subst c
            rw [ht] at hu
            obtain rfl := Option.some.inj hu
            exact al7 later ((mem_come ok).mpr hla) v hv hb
          · exact al j u (by omega) hu later hla v hv hb
      · rintro σ H4 ⟨c3, c4, c5, c6, c7, rfl, m4, al⟩
        rw [lkv] at al
        refine q2 (fun place later hp hla v hv hb => ?_) H4 (mS.trans m4)
        obtain ⟨u, hu, rfl⟩ := hp
        obtain ⟨t, ht, e⟩ := raAll u hu
        obtain ⟨j, hj⟩ := List.mem_iff_getElem?.mp ht
        rw [← e] at hb
        exact al j t (List.getElem?_eq_some_iff.mp hj).1 hj later hla v hv hb
end
end Bs
set_option Elab.async false
set_option linter.all false
set_option maxRecDepth 100000
set_option maxHeartbeats 4000000
/-! day and since: their promises -/
namespace L2
namespace Pl
open PySem PySem.Spec PyProof.Rows LamP NdefX LamX DcTwo
/-- a table of one standing: what it leads to by which row -/
def TabOk (b : Sd) (s : Str) (tab : List (Str × List Str)) : Prop := (∀ t ∈ tab, b.lead s t.2 = t.1 ∧ Row b t.2 ∧ t.2.length ≤ 5)
/-- an entry while the dict at D is made -/
def EntAt (N : Addr → Prop) (G : List (Str × List Str) → Str → Prop) (H : Hp) (e : Str × Addr) (s : Str) : Prop := e.1 = s ∧ ∃ es tab, H e.2 = some (.dK (kvR es)) ∧ Paired (RowIn N H) es tab ∧ G tab s
theorem EntAt.same {N : Addr → Prop} {G : List (Str × List Str) → Str → Prop} {H H' : Hp} {e : Str × Addr} {s : Str} (h : EntAt N G H e s) (m : Same H H') : EntAt N G H' e s :=
  let ⟨a, es, tab, c, d, g⟩ := h
  ⟨a, es, tab, m _ _ c, d.mono fun _ _ q => ⟨q.1, m _ _ q.2.1, q.2.2⟩, g⟩
theorem ents_btw {N : Addr → Prop} {G : List (Str × List Str) → Str → Prop} {H : Hp} : ∀ {es : List (Str × Addr)} {ns : List Str}, Paired (EntAt N G H) es ns → ns.Nodup → ∃ bt : Btw, Paired (BtAt N H bt) es ns ∧ ∀ s ∈ ns, G (bt s) s
  | _, _, .nil, _ => ⟨fun _ => [], .nil, fun s hs => by cases hs⟩
  | _, _, .cons (a := e) (b := s) (l₁ := es) (l₂ := ns) h t, nd => by
    obtain ⟨n1, n2⟩ := List.nodup_cons.mp nd
    obtain ⟨bt, h1, h2⟩ := ents_btw t n2
    obtain ⟨e1, es1, tab, c, d, g⟩ := h
    refine ⟨fun x => if x = s then tab else bt x, .cons ⟨e1, es1, c, ?_⟩ (paired_memB h1 fun x y hy q => ?_), fun x hx => ?_⟩
    · show Paired _ es1 (if s = s then tab else bt s)
      rw [if_pos rfl]
      exact d
    · obtain ⟨q1, es2, q2, q3⟩ := q
      refine ⟨q1, es2, q2, ?_⟩
      show Paired _ es2 (if y = s then tab else bt y)
      rw [if_neg fun (z : y = s) => n1 (z ▸ hy)]
      exact q3
    · show G (if x = s then tab else bt x) x
      rcases List.mem_cons.mp hx with rfl | hx
      · rw [if_pos rfl]
        exact g
      · rw [if_neg fun (z : x = s) => n1 (z ▸ hx)]
        exact h2 x hx
where
  paired_memB {α β : Type} {F G : α → β → Prop} : ∀ {xs : List α} {ys : List β}, Paired F xs ys → (∀ x, ∀ y ∈ ys, F x y → G x y) → Paired G xs ys
    | _, _, .nil, _ => .nil
    | _, _, .cons h t, g => .cons (g _ _ (List.mem_cons_self ..) h) (paired_memB t fun x y hy => g x y (List.mem_cons_of_mem _ hy))
theorem notin_take {ns : List Str} (nd : ns.Nodup) {i : Nat} {s : Str} (hs : ns[i]? = some s) : s ∉ ns.take i := fun h => by
  obtain ⟨j, hj⟩ := List.mem_iff_getElem?.mp h
  have lt := (List.getElem?_eq_some_iff.mp hj).1
  rw [List.length_take] at lt
  rw [List.getElem?_take_of_lt (by omega)] at hj
  have := (List.getElem?_inj (List.getElem?_eq_some_iff.mp hs).1 nd).mp (hs.trans hj.symm)
  omega
/-- three lists in a tuple -/
structure ToldD (TT : List NTab) (H H' : Hp) (T p q r : Addr) (u v w : List Str) : Prop where
  same : SameT TT H H'
  at_ : H' T = some (.tup [.ref p, .ref q, .ref r])
  np : H p = none
  nq : H q = none
  nr : H r = none
  pq : p ≠ q
  pr : p ≠ r
  qr : q ≠ r
  hp : H' p = some (.lst (sV u))
  hq : H' q = some (.lst (sV v))
  hr : H' r = some (.lst (sV w))
  lu : u.length ≤ 5
  lv : v.length ≤ 25
  lw : w.length ≤ 25
structure ToldS (TT : List NTab) (H H' : Hp) (T p q r t : Addr) (u v x w : List Str) : Prop where
  same : SameT TT H H'
  at_ : H' T = some (.tup [.ref p, .ref q, .ref r, .ref t])
  np : H p = none
  nq : H q = none
  nr : H r = none
  nt : H t = none
  pq : p ≠ q
  pr : p ≠ r
  pt : p ≠ t
  qr : q ≠ r
  qt : q ≠ t
  rt : r ≠ t
  hp : H' p = some (.lst (sV u))
  hq : H' q = some (.lst (sV v))
  hr : H' r = some (.lst (sV x))
  ht : H' t = some (.lst (sV w))
  lu : u.length ≤ 5
  lv : v.length ≤ 25
  lx : x.length ≤ 5
  lw : w.length ≤ 25
/-- behind u, v, x, w and behind u, v, x, v, w something else is seen -/
def ShowsS (b : Sd) (u v x w : List Str) : Prop := Row b u ∧ Row b v ∧ Row b x ∧ v ≠ [] ∧ Parts b (b.lead b.start (u ++ v ++ x)) (b.lead b.start (u ++ v ++ x ++ v)) w
/-- each row can be played again, behind any rows between -/
def AllSince (b : Sd) : Prop := ∀ u v x, Row b u → Row b v → Row b x → Alike b (b.lead b.start (u ++ v ++ x)) (b.lead b.start (u ++ v ++ x ++ v))
def AllDay (b : Sd) : Prop := ∀ u v, Row b u → Row b v → Alike b (b.lead b.start (u ++ v)) (b.lead b.start (u ++ v ++ v))
def spDay (C : Addr) (TT : List NTab) : Sp := fun vs H Q _ => ∃ x b, vs = [.ref x] ∧ TabsN TT H ∧ StAt C H x b ∧ b.Ok ∧
  (∀ H' T p q r u v w, ToldD TT H H' T p q r u v w → ShowsS b u v [] w → Q (.ref T) H') ∧ (AllDay b → ∀ H', SameT TT H H' → Q .non H')
def spSince (C : Addr) (TT : List NTab) : Sp := fun vs H Q _ => ∃ x b, vs = [.ref x] ∧ TabsN TT H ∧ StAt C H x b ∧ b.Ok ∧
  (∀ H' T p q r t u v xx w, ToldS TT H H' T p q r t u v xx w → ShowsS b u v xx w → Q (.ref T) H') ∧ (AllSince b → ∀ H', SameT TT H H' → Q .non H')
theorem parts_ne {b : Sd} {l : Str} {v w : List Str} (h : Parts b l (b.lead l v) w) : v ≠ [] := fun e => by
  subst e
  exact h.2 rfl
/-- what one of four lists shows, shows it of since -/
theorem shows_since {b : Sd} {bt : Btw} (ok : b.Ok) (hb : ∀ s ∈ b.names, TabOk b s (bt s)) {u v x w : List Str} (h : Shows4 b bt u v x w) : ShowsS b u v x w ∧ x.length ≤ 5 := by
  obtain ⟨later, hu, hv, hin, hp⟩ := h
  have i1 := lead_in ok hv (lead_in ok hu ok.start_in)
  obtain ⟨g1, g2, g3⟩ := hb _ i1 _ hin
  dsimp only at g1 g2 g3
  refine ⟨⟨hu, hv, g2, parts_ne hp, ?_⟩, g3⟩
  rw [lead_app (r2 := v), lead_app (r2 := x), lead_app (r2 := v) (r1 := u), g1]
  exact hp
theorem Alike.symm' {b : Sd} {y z : Str} (h : Alike b y z) : Alike b z y := alk_iff.mp ((alk_eqv b).symm _ _ (alk_iff.mpr h))
def TabAll (b : Sd) (s : Str) (tab : List (Str × List Str)) : Prop := TabOk b s tab ∧ ∀ r, Row b r → ∃ t ∈ tab, t.1 = b.lead s r
theorem since_all {b : Sd} {bt : Btw} (ok : b.Ok) (hb : ∀ s ∈ b.names, TabAll b s (bt s)) (na : NoAgain b bt) : AllSince b := fun u v x hu hv hx => by
  have hr : Row b (u ++ v ++ x) := fun d hd => by
    rcases List.mem_append.mp hd with h | h
    · rcases List.mem_append.mp h with h | h
      · exact hu d h
      · exact hv d h
    · exact hx d h
  obtain ⟨t, ht, e⟩ := (hb _ (lead_in ok hv (lead_in ok hu ok.start_in))).2 x hx
  have := na (b.lead b.start u) (b.lead b.start (u ++ v ++ x)) ⟨u, hu, rfl⟩ ⟨_, hr, rfl⟩ v hv (List.any_eq_true.mpr ⟨t, ht, decide_eq_true (by rw [e, lead_app (r2 := x), lead_app (r2 := v)])⟩)
  rw [lead_app (r1 := u ++ v ++ x) (r2 := v)]
  exact Alike.symm' this
end Pl
end L2
namespace Bs
open PySem PySem.Spec PyProof.Rows L2 L2.Pl LamP NdefX LamX DcTwo
section
variable {P : Program} {w : World} {K : PySem.W.Frag} {mg : Str → Option Value} {base : Heap} {f : Addr} {fd : FuncData}
abbrev NSi : List Str := ["store", "standing"]
theorem scSince : FnScope NSi ["store"] (defScope sSince) := ⟨rfl, rfl, rfl, by decide +kernel, rfl, by decide +kernel, by decide +kernel⟩
theorem ok_since {C CN : Addr} {TT : List NTab} (T : StF K mg C) (M : StM P w K mg base C CN) (F : FnP K "since" sSince f fd) (hA : Has P w K mg base CX0 "played_again" 10 ["store", "between"] (spPlayed C TT)) (hF : Has P w K mg base CX0 "rows_from" 5 ["store", "standing"] (spRows C)) : FnOk P w K mg base CX0 11 f fd ["store"] (spSince C TT) := by
  obtain ⟨fA, dA, oA, bA, gA, kA⟩ := hA.ex
  obtain ⟨fF, dF, oF, bF, gF, kF⟩ := hF.ex
  obtain ⟨pS, fS, dS, oS, bS, mS⟩ := M.std
  refine F.ok scSince (fun vs H Q E h => ?_) (fun cdv A outer s H vs Q E hr h => ?_)
  · obtain ⟨_, _, rfl, _⟩ := h
    rfl
  · obtain ⟨x, b, rfl, hT, hx, ok, q1, q2⟩ := h
    have hr2 := hr.mono (j := 2) (by decide)
    have hr5 := hr.mono (j := 5) (by decide)
    refine ⟨_, PSs.nox (pss_one (ps_ret (pe_call oA hr (by rfl) gA kA bA .nil pass0 (pa_cons (pv 0) (pa_cons (pe_dc (own := [("standing", 1)]) (g := gName 1) (tt := tYes) (tk := tVar 1) (tv := tCall (spRows C) [] E0 (tCons (tVar 0) (tCons (tVar 1) tNil))) rfl scSince.nd (pi_tup (pe_prop (pv 0) T.cl mS oS hr2 bS .nil pass0 (by rfl))) (blkOk_by (N := NSi) (sc := defScope sSince) (by decide +kernel))
        (fun _ _ _ _ _ => pg_name (i := 1) scSince.nd rfl (.inl rfl)) (fun _ _ _ _ _ => pts_nil) (fun _ _ _ _ _ => pv 1) (fun _ _ _ _ _ => pe_call oF hr5 (by rfl) gF kF bF .nil pass0 (pa_cons (pv 0) (pa_cons (pv 1) pa_nil)))) pa_nil))))), ?_⟩
    obtain ⟨dx, ts, td, dl, dk, es0, h1, h2, h3, h4, h5, h6⟩ := id hx
    refine ⟨_, rfl, _, rfl, x, dx, _, rfl, h1, x, dx, _, .ref ts, rfl, h1, st_look1, ts, rfl, ⟨_, SqT.up h2⟩, fun D hD => ?_⟩
    refine dc_tup (K := K) (a := ts) (xs := sV b.names) (fun i H' => Same H H' ∧ ∃ es, H' D = some (.dK (kvR es)) ∧ Paired (EntAt (fun a => H a = none) (fun tab s => TabAll b s tab) (del H' D)) es (b.names.take i)) ⟨same_new hD, [], upd_same, .nil⟩ (fun i H' _ ⟨m, _⟩ => SqT.up (m _ _ h2)) ?_ ?_
    · rintro i y H1 hy ⟨m1, es, hk, pr⟩
      obtain ⟨s, hs, rfl⟩ := str_at hy
      have sin := List.mem_of_getElem? hs
      refine ⟨rfl, iteT (B := Same H H1 ∧ ∃ es, H1 D = some (.dK (kvR es)) ∧ Paired (EntAt (fun a => H a = none) (fun tab s => TabAll b s tab) (del H1 D)) es (b.names.take (i + 1))) ⟨_, rfl, _, rfl, _, rfl, x, b, s, rfl, hx.same m1, ok, sin, fun H2 R es2 tab m2 ra => ?_⟩⟩
      have k2 := m2 _ _ hk
      have nRD : R ≠ D := (ne_of_none hk ra.new).symm
      have new : ∀ q ∈ kvR es, q.1 ≠ (Sum.inr s : Key) := fun q hq z => by
        obtain ⟨e, he, rfl⟩ := List.mem_map.mp hq
        obtain ⟨s', hs', e1, _⟩ := paired_of pr e he
        rw [show e.1 = s from Sum.inr.inj z] at e1
        subst e1
        exact notin_take ok.nd hs hs'
      have lk : es.length ≤ 5 := by
        have h8 : es.length = (b.names.take i).length := pr.length
        rw [List.length_take] at h8
        have := ok.n5
        omega
      refine ⟨kvR es, Sum.inr s, rfl, k2, small1000 (by rw [List.length_map]; omega), same_wr (m1.trans m2) hD, es ++ [(s, R)], ?_, ?_⟩
      · rw [upd_same, Pl.putK_end new]
        show some (HO.dK (kvR es ++ [(Sum.inr s, V.ref R)])) = some (HO.dK (List.map _ (es ++ [(s, R)])))
        rw [List.map_append]
        rfl
      · have md : Same (del H1 D) (del (upd H2 D (.dK (putK (kvR es) (Sum.inr s) (.ref R)))) D) := (del_mono m2).trans del_upd0
        have tk : b.names.take (i + 1) = b.names.take i ++ [s] := by
          rw [List.take_succ, hs]
          rfl
        rw [tk]
        refine (pr.mono fun _ _ q => q.same md).snoc ⟨rfl, es2, tab, del_of nRD ((upd_ne nRD).trans ra.at_), ra.rows.mono fun e t q => ⟨q.1, ?_, m1.free q.2.2⟩, ⟨fun t ht => ⟨(ra.lead t ht).1, (ra.lead t ht).2, ra.short t ht⟩, ra.all⟩⟩
        have nD : e.2 ≠ D := (ne_of_none hk q.2.2).symm
        exact del_of nD ((upd_ne nD).trans q.2.1)
    · rintro H1 ⟨m1, es, hk, pr⟩
      rw [List.length_map, List.take_length] at pr
      obtain ⟨bt, hbt, hok⟩ := ents_btw pr ok.nd
      have hB : BtwAt (fun a => H a = none) H1 D b bt := ⟨es, hk, hbt.mono fun _ _ q => q.keep fun c o e _ => (del_some e).2⟩
      have mT := Same.t (T := TT) m1
      refine ⟨x, D, b, _, bt, rfl, mT.tabs hT, hx.same m1, ok, hB, fun H' T p q r t u v xx w tl sh => ?_, fun na H' m => ?_⟩
      · obtain ⟨s1, l5⟩ := shows_since ok (fun s hs => (hok s hs).1) sh
        exact q1 H' T p q r t u v xx w ⟨mT.trans tl.same, tl.at_, mT.free tl.np, mT.free tl.nq, tl.nb, mT.free tl.nt, tl.pq, (ne_of_none tl.old tl.np).symm, tl.pt, (ne_of_none tl.old tl.nq).symm, tl.qt, ne_of_none tl.old tl.nt, tl.hp, tl.hq, tl.same _ _ tl.old, tl.ht, tl.lu, tl.lv, l5, tl.lw⟩ s1
      · exact q2 (since_all ok hok na) H' (mT.trans m)
end
end Bs
set_option Elab.async false
set_option linter.all false
set_option maxRecDepth 100000
set_option maxHeartbeats 4000000
/-! day -/
namespace L2
namespace Pl
open PySem PySem.Spec PyProof.Rows LamP NdefX LamX DcTwo
theorem day_all {b : Sd} {bt : Btw} (hb : ∀ s ∈ b.names, bt s = [(s, [])]) (ok : b.Ok) (na : NoAgain b bt) : AllDay b := fun u v hu hv => by
  have hr : Row b (u ++ v) := fun d hd => (List.mem_append.mp hd).elim (hu d) (hv d)
  have := na (b.lead b.start u) (b.lead b.start (u ++ v)) ⟨u, hu, rfl⟩ ⟨_, hr, rfl⟩ v hv (by
    unfold btHas
    rw [← lead_app, hb _ (lead_in ok hr ok.start_in)]
    simp)
  rw [lead_app (r1 := u ++ v) (r2 := v)]
  exact Alike.symm' this
theorem shows_day {b : Sd} {bt : Btw} (ok : b.Ok) (hb : ∀ s ∈ b.names, bt s = [(s, [])]) {u v x w : List Str} (h : Shows4 b bt u v x w) : ShowsS b u v [] w := by
  obtain ⟨later, hu, hv, hin, hp⟩ := h
  rw [hb _ (lead_in ok hv (lead_in ok hu ok.start_in))] at hin
  obtain ⟨e1, e2⟩ := Prod.mk.inj (List.mem_singleton.mp hin)
  refine ⟨hu, hv, (fun d hd => by cases hd), parts_ne hp, ?_⟩
  rw [List.append_nil, lead_app (r1 := u ++ v) (r2 := v), lead_app (r1 := u) (r2 := v), ← e1]
  exact hp
end Pl
end L2
namespace Bs
open PySem PySem.Spec PyProof.Rows L2 L2.Pl LamP NdefX LamX DcTwo
section
variable {P : Program} {w : World} {K : PySem.W.Frag} {mg : Str → Option Value} {base : Heap} {f : Addr} {fd : FuncData}
abbrev NDy : List Str := ["store", "found", "before", "row", "_", "apart", "standing"]
theorem scDay : FnScope NDy ["store"] (defScope sDay) := ⟨rfl, rfl, rfl, by decide +kernel, rfl, by decide +kernel, by decide +kernel⟩
theorem ok_day {C CN : Addr} {TT : List NTab} (T : StF K mg C) (M : StM P w K mg base C CN) (F : FnP K "day" sDay f fd) (hA : Has P w K mg base CX0 "played_again" 10 ["store", "between"] (spPlayed C TT)) : FnOk P w K mg base CX0 11 f fd ["store"] (spDay C TT) := by
  obtain ⟨fA, dA, oA, bA, gA, kA⟩ := hA.ex
  obtain ⟨pS, fS, dS, oS, bS, mS⟩ := M.std
  refine F.ok scDay (fun vs H Q E h => ?_) (fun cdv A outer s H vs Q E hr h => ?_)
  · obtain ⟨_, _, rfl, _⟩ := h
    rfl
  · obtain ⟨x, b, rfl, hT, hx, ok, q1, q2⟩ := h
    have hr2 := hr.mono (j := 2) (by decide)
    refine ⟨_, PSs.nox (pss_cons (ps_set (i := 1) scDay.nd rfl (.inl rfl) (pe_call oA hr (by rfl) gA kA bA .nil pass0 (pa_cons (pv 0) (pa_cons (pe_dc (own := [("standing", 6)]) (g := gName 6) (tt := tYes) (tk := tVar 6) (tv := tDisp [(tVar 6, tLst tNil)]) rfl scDay.nd (pi_tup (pe_prop (pv 0) T.cl mS oS hr2 bS .nil pass0 (by rfl))) (blkOk_by (N := NDy) (sc := defScope sDay) (by decide +kernel))
        (fun _ _ _ _ _ => pg_name (i := 6) scDay.nd rfl (.inl rfl)) (fun _ _ _ _ _ => pts_nil) (fun _ _ _ _ _ => pv 6) (fun _ _ _ _ _ => pe_disp (pps_cons (pv 6) (pe_lst pa_nil) pps_nil) rfl rfl (by simp) (by decide))) pa_nil))))
      (pss_cons (ps_if (pt_cmpR op_isN (pv 1) pe_non (nomark _)) (pss_one (ps_ret pe_non)) pss_nil)
      (pss_cons (ps_asg (pv 1) (pg_tup rfl (pgs_cons (pg_name (i := 2) scDay.nd rfl (.inl rfl)) (pgs_cons (pg_name (i := 3) scDay.nd rfl (.inl rfl)) (pgs_cons (pg_name (i := 4) scDay.nd rfl (.inl rfl)) (pgs_cons (pg_name (i := 5) scDay.nd rfl (.inl rfl)) pgs_nil))))))
      (pss_one (ps_ret (pe_tup (pa_cons (pv 2) (pa_cons (pv 3) (pa_cons (pv 5) pa_nil))))))))), ?_⟩
    obtain ⟨dx, ts, td, dl, dk, es0, h1, h2, h3, h4, h5, h6⟩ := id hx
    refine ⟨_, rfl, _, rfl, x, dx, _, rfl, h1, x, dx, _, .ref ts, rfl, h1, st_look1, ts, rfl, ⟨_, SqT.up h2⟩, fun D hD => ?_⟩
    refine dc_tup (K := K) (a := ts) (xs := sV b.names) (fun i H' => Same H H' ∧ ∃ es, H' D = some (.dK (kvR es)) ∧ Paired (EntAt (fun a => H a = none) (fun tab s => tab = [(s, [])]) (del H' D)) es (b.names.take i)) ⟨same_new hD, [], upd_same, .nil⟩ (fun i H' _ ⟨m, _⟩ => SqT.up (m _ _ h2)) ?_ ?_
    · rintro i y H1 hy ⟨m1, es, hk, pr⟩
      obtain ⟨s, hs, rfl⟩ := str_at hy
      have sin := List.mem_of_getElem? hs
      refine ⟨rfl, iteT (B := Same H H1 ∧ ∃ es, H1 D = some (.dK (kvR es)) ∧ Paired (EntAt (fun a => H a = none) (fun tab s => tab = [(s, [])]) (del H1 D)) es (b.names.take (i + 1))) ⟨_, rfl, fun R hR => ⟨_, rfl, Nat.zero_le _, fun L0 hL0 => ?_⟩⟩⟩
      have nRL : R ≠ L0 := ne_of_none upd_same hL0
      refine ⟨(upd_ne nRL).trans upd_same, [(Sum.inr s, .ref L0)], rfl, by show 1 ≤ 15; decide, ?_⟩
      have L0n : H1 L0 = none := (upd_ne nRL.symm).symm.trans hL0
      have mk : mergeK [] [((Sum.inr s : Key), V.ref L0)] = kvR [(s, L0)] := rfl
      rw [mk]
      have m2 : Same H1 (upd (upd (upd H1 R (.dK [])) L0 (.lst [])) R (.dK (kvR [(s, L0)]))) := same_wr (same_wr (same_new hR) L0n) hR
      have atL : (upd (upd (upd H1 R (.dK [])) L0 (.lst [])) R (.dK (kvR [(s, L0)]))) L0 = some (.lst []) := (upd_ne nRL.symm).trans upd_same
      have atR : (upd (upd (upd H1 R (.dK [])) L0 (.lst [])) R (.dK (kvR [(s, L0)]))) R = some (.dK (kvR [(s, L0)])) := upd_same
      generalize upd (upd (upd H1 R (.dK [])) L0 (.lst [])) R (.dK (kvR [(s, L0)])) = H2 at *
      have k2 := m2 _ _ hk
      have nRD : R ≠ D := (ne_of_none hk hR).symm
      have nLD : L0 ≠ D := (ne_of_none hk L0n).symm
      have new : ∀ q ∈ kvR es, q.1 ≠ (Sum.inr s : Key) := fun q hq z => by
        obtain ⟨e, he, rfl⟩ := List.mem_map.mp hq
        obtain ⟨s', hs', e1, _⟩ := paired_of pr e he
        rw [show e.1 = s from Sum.inr.inj z] at e1
        subst e1
        exact notin_take ok.nd hs hs'
      have lk : es.length ≤ 5 := by
        have h8 : es.length = (b.names.take i).length := pr.length
        rw [List.length_take] at h8
        have := ok.n5
        omega
      refine ⟨kvR es, Sum.inr s, rfl, k2, small1000 (by rw [List.length_map]; omega), same_wr (m1.trans m2) hD, es ++ [(s, R)], ?_, ?_⟩
      · rw [upd_same, Pl.putK_end new]
        show some (HO.dK (kvR es ++ [(Sum.inr s, V.ref R)])) = some (HO.dK (List.map _ (es ++ [(s, R)])))
        rw [List.map_append]
        rfl
      · have md : Same (del H1 D) (del (upd H2 D (.dK (putK (kvR es) (Sum.inr s) (.ref R)))) D) := (del_mono m2).trans del_upd0
        have tk : b.names.take (i + 1) = b.names.take i ++ [s] := by
          rw [List.take_succ, hs]
          rfl
        rw [tk]
        refine (pr.mono fun _ _ q => q.same md).snoc ⟨rfl, [(s, L0)], [(s, [])], del_of nRD ((upd_ne nRD).trans atR), .cons ⟨rfl, ?_, m1.free L0n⟩ .nil, rfl⟩
        exact del_of nLD ((upd_ne nLD).trans atL)
    · rintro H1 ⟨m1, es, hk, pr⟩
      rw [List.length_map, List.take_length] at pr
      obtain ⟨bt, hbt, hok⟩ := ents_btw pr ok.nd
      have hB : BtwAt (fun a => H a = none) H1 D b bt := ⟨es, hk, hbt.mono fun _ _ q => q.keep fun c o e _ => (del_some e).2⟩
      have mT := Same.t (T := TT) m1
      refine ⟨x, D, b, _, bt, rfl, mT.tabs hT, hx.same m1, ok, hB, fun H' T p q r t u v xx w tl sh => ?_, fun na H' m => ?_⟩
      · refine ⟨_, rfl, rfl, _, rfl, iteF ⟨_, rfl, T, _, rfl, .inl (.inl tl.at_), rfl, _, [.ref q, .ref r, .ref t], rfl, _, [.ref r, .ref t], rfl, _, [.ref t], rfl, _, [], rfl, rfl, ?_⟩⟩
        refine ⟨_, rfl, _, rfl, _, rfl, by show 3 ≤ sizeLine; decide, fun T9 hT9 => ?_⟩
        have s9 : SameT TT H' (upd H' T9 (.tup [.ref p, .ref q, .ref t])) := sameT_new hT9
        exact q1 _ T9 p q t u v w ⟨(mT.trans tl.same).trans s9, upd_same, mT.free tl.np, mT.free tl.nq, mT.free tl.nt, tl.pq, tl.pt, tl.qt, s9 _ _ tl.hp, s9 _ _ tl.hq, s9 _ _ tl.ht, tl.lu, tl.lv, tl.lw⟩ (shows_day ok hok sh)
      · exact ⟨_, rfl, rfl, _, rfl, iteT (q2 (day_all hok ok na) H' (mT.trans m))⟩
end
end Bs
set_option Elab.async false
set_option linter.all false
set_option maxRecDepth 100000
set_option maxHeartbeats 4000000
namespace L2
namespace Pl
open PySem PySem.Spec PyProof.Rows
theorem deedsOf (b : Bd) : (sdOf b).deeds = b.deeds.map (·.1) := by
  unfold Sd.deeds sdOf
  rw [List.map_map]
  rfl
theorem startOf (b : Bd) : (sdOf b).start = b.names.headD "" := rfl
def spParts (K : PySem.W.Frag) : Sp := fun vs H Q _ => ∃ a b l1 l2 r1 r2, vs = [.ref a, .ref l1, .ref l2] ∧ BdAt K H a b ∧ b.Ok ∧ SqL K H l1 (sV r1) ∧ SqL K H l2 (sV r2) ∧ Row (sdOf b) r1 ∧ Row (sdOf b) r2 ∧
  ∀ H', Same H H' → Q (.bl (!decide (V.str ((sdOf b).look ((sdOf b).lead (sdOf b).start r1)) = V.str ((sdOf b).look ((sdOf b).lead (sdOf b).start r2))))) H'
def spRow (K : PySem.W.Frag) : Sp := fun vs H Q _ => ∃ (s a : Addr) (b : Bd) (most : Nat), vs = [.ref s, .ref a, .int (most : Int)] ∧ Src H s ∧ BdAt K (del H s) a b ∧ b.Ok ∧ most ≤ 100 ∧ ∀ p H' r, Mv s H H' → H p = none → H' p = some (.lst (sV r)) → Row (sdOf b) r → r.length ≤ most → Q (.ref p) H'
end Pl
end L2
namespace Bs
open PySem PySem.Spec PyProof.Rows L2 L2.Pl
section
variable {P : Program} {w : World} {K : PySem.W.Frag} {mg : Str → Option Value} {base : Heap} {f : Addr} {fd : FuncData}
theorem scParts : FnScope ["base", "one", "other", "start"] ["base", "one", "other"] (defScope sParts) := ⟨rfl, rfl, rfl, by decide +kernel, rfl, by decide +kernel, by decide +kernel⟩
theorem ok_parts (F : FnP K "_law_parts" sParts f fd) (hL : Has P w K mg base CX0 "_law_led" 1 ["base", "standing", "row"] (spLed K)) (hS : Has P w K mg base CX0 "_law_seen" 1 ["base", "standing"] (spSeen K)) : FnOk P w K mg base CX0 2 f fd ["base", "one", "other"] (spParts K) := by
  obtain ⟨fL, dL, oL, bL, gL, kL⟩ := hL.ex
  obtain ⟨fS, dS, oS, bS, gS, kS⟩ := hS.ex
  refine F.ok scParts (fun vs H Q E h => ?_) (fun cdv A outer s H vs Q E hr h => ?_)
  · obtain ⟨_, _, _, _, _, _, rfl, _⟩ := h
    rfl
  · obtain ⟨a, b, l1, l2, r1, r2, rfl, hb, ok, hl1, hl2, g1, g2, q⟩ := h
    obtain ⟨an, ad, al, ps, h1, ⟨on, h2, hdn⟩, h3, h4, h5⟩ := id hb
    refine ⟨_, PSs.nox (pss_cons (ps_set (i := 3) scParts.nd rfl (.inl rfl) (pe_ix ix_tup (pe_ix ix_tup (pv 0) pe_int (fun _ _ => rfl)) pe_int (fun _ _ => rfl)))
      (pss_one (ps_ret (pe_cmpR op_ne (pe_call oS hr (by rfl) gS kS bS .nil pass0 (pa_cons (pv 0) (pa_cons (pe_call oL hr (by rfl) gL kL bL .nil pass0 (pa_cons (pv 0) (pa_cons (pv 3) (pa_cons (pv 1) pa_nil)))) pa_nil))) (pe_call oS hr (by rfl) gS kS bS .nil pass0 (pa_cons (pv 0) (pa_cons (pe_call oL hr (by rfl) gL kL bL .nil pass0 (pa_cons (pv 0) (pa_cons (pv 3) (pa_cons (pv 2) pa_nil)))) pa_nil))) (nomark _))))), ?_⟩
    have okS := sdOf_ok ok
    have hs0 : (sdOf b).start ∈ b.names := okS.start_in
    have g1' : ∀ d ∈ r1, d ∈ b.deeds.map (·.1) := by rw [← deedsOf]; exact g1
    have g2' : ∀ d ∈ r2, d ∈ b.deeds.map (·.1) := by rw [← deedsOf]; exact g2
    refine ⟨_, rfl, a, _, 0, .ref an, rfl, rfl, h1, atI_nat (j := 0) rfl, an, _, 0, .str (sdOf b).start, rfl, rfl, .inl (.inr ⟨on, h2⟩), atI_nat (j := 0) okS.at0, ?_⟩
    refine ⟨_, rfl, _, rfl, _, rfl, _, rfl, a, b, _, l1, r1, rfl, hb, ok, hs0, hl1, g1', fun H1 m1 => ⟨a, b, _, rfl, hb.same m1, ok, lead_in okS g1 hs0, ?_⟩⟩
    refine ⟨_, rfl, _, rfl, _, rfl, _, rfl, a, b, _, l2, r2, rfl, hb.same m1, ok, hs0, m1.seq hl2, g2', fun H2 m2 => ⟨a, b, _, rfl, hb.same (m1.trans m2), ok, lead_in okS g2 hs0, ?_⟩⟩
    exact ⟨rfl, q H2 (m1.trans m2)⟩
end
end Bs
set_option Elab.async false
set_option linter.all false
set_option maxRecDepth 100000
set_option maxHeartbeats 4000000
namespace L2
namespace Pl
open PySem PySem.Spec PyProof.Rows
theorem alike_refl {b : Sd} (y : Str) : Alike b y y := alk_iff.mp ((alk_eqv b).refl y)
theorem Alike.symm {b : Sd} {y z : Str} (h : Alike b y z) : Alike b z y := alk_iff.mp ((alk_eqv b).symm _ _ (alk_iff.mpr h))
theorem Alike.trans {b : Sd} {x y z : Str} (h : Alike b x y) (g : Alike b y z) : Alike b x z := alk_iff.mp ((alk_eqv b).trans _ _ _ (alk_iff.mpr h) (alk_iff.mpr g))
theorem Alike.seen {b : Sd} {x y : Str} (h : Alike b x y) {r : List Str} (hr : Pl.Row b r) : b.look (b.lead x r) = b.look (b.lead y r) := alike_iff.mp h r hr
theorem Alike.led {b : Sd} {x y : Str} (h : Alike b x y) {r : List Str} (hr : Pl.Row b r) : Alike b (b.lead x r) (b.lead y r) := alike_iff.mpr fun v hv => by
  rw [← lead_app, ← lead_app]
  exact h.seen fun d hd => (List.mem_append.mp hd).elim (hr d) (hv d)
end Pl
end L2
set_option Elab.async false
set_option linter.all false
set_option maxRecDepth 100000
set_option maxHeartbeats 4000000
namespace L2
namespace Pl
open PySem PySem.Spec PyProof.Rows LamP NdefX LamX
/-- None where P holds, else what shows that it doesn't -/
def Ans (P : Prop) (v : V) : Prop := (v = .non ∧ P) ∨ ((∃ T, v = .ref T) ∧ ¬ P)
theorem Ans.non {P : Prop} {v : V} (h : Ans P v) : decide (v = .non) = @decide P (Classical.propDecidable _) := by
  rcases h with ⟨rfl, p⟩ | ⟨⟨T, rfl⟩, n⟩
  · rw [@decide_eq_true P (Classical.propDecidable _) p]
    rfl
  · rw [@decide_eq_false P (Classical.propDecidable _) n]
    rfl
def AllAgain (b : Sd) (a : Str) : Prop := ∀ u v, Pl.Row b u → Pl.Row b v → Alike b (behind b a u v) (b.lead (behind b a u v) [a])
def AllLeft (b : Sd) (a : Str) : Prop := ∀ c ∈ b.deeds, AllAlike b [a, c] [c]
theorem not_all {b : Sd} {r1 r2 u w : List Str} (h : PartRow b r1 r2 u w) : ¬ AllAlike b r1 r2 := fun al => al u h.1 w h.2
theorem change_use {C : Addr} {TT : List NTab} {H : Hp} {x : Addr} {b : Sd} {a c : Str} {Q : VK} {E : XK} (hT : TabsN TT H) (hx : StAt C H x b) (ok : b.Ok) (ha : a ∈ b.deeds) (hc : c ∈ b.deeds) (q : ∀ v H', SameT TT H H' → Ans (AllAlike b [a, c] [c, a]) v → Q v H') : spChange C TT [.ref x, .str a, .str c] H Q E :=
  ⟨x, b, a, c, rfl, hT, hx, ok, ha, hc, fun H' T p q' u w t pr => q _ H' t.same (.inr ⟨⟨T, rfl⟩, not_all pr⟩), fun al H' m => q _ H' m (.inl ⟨rfl, al⟩)⟩
theorem twice_use {C : Addr} {TT : List NTab} {H : Hp} {x : Addr} {b : Sd} {a : Str} {Q : VK} {E : XK} (hT : TabsN TT H) (hx : StAt C H x b) (ok : b.Ok) (ha : a ∈ b.deeds) (q : ∀ v H', SameT TT H H' → Ans (AllAlike b [a] [a, a]) v → Q v H') : spTwice C TT [.ref x, .str a] H Q E :=
  ⟨x, b, a, rfl, hT, hx, ok, ha, fun H' T p q' u w t pr => q _ H' t.same (.inr ⟨⟨T, rfl⟩, not_all pr⟩), fun al H' m => q _ H' m (.inl ⟨rfl, al⟩)⟩
theorem again_use {C : Addr} {TT : List NTab} {H : Hp} {x : Addr} {b : Sd} {a : Str} {Q : VK} {E : XK} (hT : TabsN TT H) (hx : StAt C H x b) (ok : b.Ok) (ha : a ∈ b.deeds) (q : ∀ v H', SameT TT H H' → Ans (AllAgain b a) v → Q v H') : spAgain C TT [.ref x, .str a] H Q E :=
  ⟨x, b, a, rfl, hT, hx, ok, ha, fun H' T p q' r u v w t hu hv pr => q _ H' t.same (.inr ⟨⟨T, rfl⟩, fun al => al u v hu hv w pr⟩), fun al H' m => q _ H' m (.inl ⟨rfl, al⟩)⟩
theorem left_use {C : Addr} {TT : List NTab} {H : Hp} {x : Addr} {b : Sd} {a : Str} {Q : VK} {E : XK} (hT : TabsN TT H) (hx : StAt C H x b) (ok : b.Ok) (ha : a ∈ b.deeds) (q : ∀ v H', SameT TT H H' → Ans (AllLeft b a) v → Q v H') : spLeft C TT [.ref x, .str a] H Q E :=
  ⟨x, b, a, rfl, hT, hx, ok, ha, fun H' T p q' u c w hc t pr => q _ H' t.same (.inr ⟨⟨T, rfl⟩, fun al => not_all pr (al c hc)⟩), fun al H' m => q _ H' m (.inl ⟨rfl, al⟩)⟩
/-! ### what is borne is seen -/
def Seen (b : Sd) (r1 r2 : List Str) : Prop := b.look (b.lead b.start r1) = b.look (b.lead b.start r2)
theorem seen_mid {b : Sd} {r1 r2 ah be : List Str} (h : AllAlike b r1 r2) (ha : Pl.Row b ah) (hb : Pl.Row b be) : Seen b (ah ++ r1 ++ be) (ah ++ r2 ++ be) := by
  unfold Seen
  rw [lead_app, lead_app, lead_app, lead_app]
  exact (h ah ha).seen hb
theorem seen_again {b : Sd} {a : Str} {ah bt be : List Str} (h : AllAgain b a) (ha : Pl.Row b ah) (ht : Pl.Row b bt) (hb : Pl.Row b be) : Seen b (ah ++ [a] ++ bt ++ be) (ah ++ [a] ++ bt ++ [a] ++ be) := by
  unfold Seen
  rw [lead_app, lead_app, lead_app, lead_app (r1 := ah ++ [a] ++ bt ++ [a]), lead_app (r1 := ah ++ [a] ++ bt), lead_app (r1 := ah ++ [a]), lead_app (r1 := ah)]
  exact (h ah bt ha ht).seen hb
theorem again_twice {b : Sd} {a : Str} (h : AllAgain b a) : AllAlike b [a] [a, a] := fun u hu => by
  have := h u [] hu fun d hd => by cases hd
  unfold behind at this
  exact this
theorem change_symm {b : Sd} {a c : Str} : AllAlike b [a, c] [c, a] ↔ AllAlike b [c, a] [a, c] := ⟨fun h u hu => (h u hu).symm, fun h u hu => (h u hu).symm⟩
theorem row_app {b : Sd} {r1 r2 : List Str} (h1 : Pl.Row b r1) (h2 : Pl.Row b r2) : Pl.Row b (r1 ++ r2) := fun d hd => (List.mem_append.mp hd).elim (h1 d) (h2 d)
/-- one of the law's couples of rows, with what was told -/
def TupOk (H : Hp) (b : Sd) (T : Addr) : Prop := ∃ p q v R1 R2, H T = some (.tup [.ref p, .ref q, v]) ∧ H p = some (.lst (sV R1)) ∧ H q = some (.lst (sV R2)) ∧ Pl.Row b R1 ∧ Pl.Row b R2 ∧ (v = .non → Seen b R1 R2)
theorem TupOk.same {H H' : Hp} {b : Sd} {T : Addr} (h : TupOk H b T) (m : Same H H') : TupOk H' b T := by
  obtain ⟨p, q, v, R1, R2, h1, h2, h3, h4⟩ := h
  exact ⟨p, q, v, R1, R2, m _ _ h1, m _ _ h2, m _ _ h3, h4⟩
theorem Ans.ok {P : Prop} {v : V} (h : Ans P v) : v = .non → P := fun e => by
  rcases h with ⟨_, p⟩ | ⟨⟨T, rfl⟩, _⟩
  · exact p
  · cases e
def spLaw (K : PySem.W.Frag) : Sp := fun vs H Q _ => ∃ (a : Addr) (ns : List Int), vs = [.ref a] ∧ SqL K H a (ns.map V.int) ∧ ns.length ≤ 63 ∧ (∀ z ∈ ns, Builtin.Int.intBits z ≤ 1048576) ∧ ∀ H', Q (.bl true) H'
theorem Mv.over {H H' : Hp} {s : Addr} {o : HO} (hs : H s = none) (m : Mv s (upd H s o) H') : Same H H' := fun b x e => m.get (ne_of_none e hs) ((upd_ne (ne_of_none e hs)).trans e)
/-- what stands while rows are looked at -/
structure At11 (K : PySem.W.Frag) (C so ba x : Addr) (b : Bd) (H : Hp) : Prop where
  src : Src H so
  bd : BdAt K (del H so) ba b
  ok : b.Ok
  st : StAt C (del H so) x (sdOf b)
theorem At11.mv {K : PySem.W.Frag} {C so ba x : Addr} {b : Bd} {H H' : Hp} (h : At11 K C so ba x b H) (m : Mv so H H') : At11 K C so ba x b H' := ⟨m.src, h.bd.same m.same, h.ok, h.st.same m.same⟩
end Pl
end L2
set_option Elab.async false
set_option linter.all false
set_option maxRecDepth 100000
set_option maxHeartbeats 2000000
/-! texts beside dicts; whether any value stands in a row of texts -/
namespace PlayL
open PySem PySem.SeqAt PySem.MeetsSeq PySem.AutoSeq1
section
variable {A : Around} {s : Shared}
theorem str_declines_dict (b : Str) (u : Tok) (o : Obj) (l : Addr) (ho : o.cls = .type "dict") {es : Array DictEntry} {ep : Nat} (hd : o.data = .dict es ep) :
    Meets (Builtin.«str.__eq__» ⟨[.str b u, .ref l], []⟩) (fun _ R s => s.heap.get? l = some o ∧ R (.ok (.ret .notImplemented)) s) := by
  obtain ⟨cls, dd, data, sl⟩ := o
  dsimp only at ho hd
  subst ho hd
  exact .of_wp fun prog w A R s h => by
    obtain ⟨hp, g, d, tk, os⟩ := s
    obtain ⟨hl, h⟩ := h
    wp_walk using wpAny_loadPart' hl, wpAny_load hl
    exact ⟨_, rfl, h⟩
theorem dict_declines_str (l : Addr) (o : Obj) (b : Str) (u : Tok) (ho : o.cls = .type "dict") :
    Meets (Builtin.«dict.__eq__» ⟨[.ref l, .str b u], []⟩) (fun _ R s => s.heap.get? l = some o ∧ R (.ok (.ret .notImplemented)) s) := by
  obtain ⟨cls, dd, data, sl⟩ := o
  dsimp only at ho
  subst ho
  exact .of_wp fun prog w A R s h => by
    obtain ⟨hp, g, d, tk, os⟩ := s
    obtain ⟨hl, h⟩ := h
    have f1 := F.sub_str_dict
    wp_walk using wpAny_loadPart' hl, wpAny_load hl
    exact ⟨_, rfl, h⟩
theorem eq_str_dict {l : Addr} {o : Obj} (b : Str) (u : Tok) (hl : s.heap.get? l = some o) (hc : o.cls = .type "dict") {es : Array DictEntry} {ep : Nat} (hd : o.data = .dict es ep) (hu : A.units < cLine) : EqAt A s (.str b u) (.ref l) false := fun prog w E Q h => by
  unfold eqBool
  refine wpAny_holding ?_
  refine wpAny_ite_split (fun hab => absurd (eq_of_beq hab) nofun) (fun _ => ?_)
  refine wpAny_bind (rc_eq_decline_or (k := false) (typeIs_str s b u) ⟨_, hl, hc⟩ (by decide) F.sub_dict_str F.slot_str_eq F.slot_dict_eq_refl ?_ ?_ (fun _ hq => wpAny_of_eq (rfl : isSame (.str b u) (.ref l) = pure false) hq) (.inr hu) (wpAny_truthy_bool h))
  · exact fun _ hq => call_meets F.slot_str_eq (typeIs_str s b u) F.entry_str_eq (F.args_str_eq_2 _ _) (str_declines_dict b u o l hc hd) ⟨hl, hq⟩
  · exact fun _ hq => call_meets F.slot_dict_eq_refl ⟨_, hl, hc⟩ F.entry_dict_eq (F.args_dict_eq_2 _ _) (dict_declines_str l o b u hc) ⟨hl, hq⟩
end
end PlayL
namespace L2
namespace Pl
open PySem PySem.Spec PyProof.Rows
section
variable {X : Cx}
/-- a list, a tuple or a dict -/
def BoxV (K : PySem.W.Frag) (H : Hp) (v : V) : Prop := ∃ a, v = .ref a ∧ ((∃ xs, SqL K H a xs) ∨ (∃ xs, SqT K H a xs) ∨ ∃ kvs, Rd H a (.dK kvs))
theorem box_eq {pins : List (Addr × Obj)} {σ : St} {H : Hp} {s : Shared} {v : V} {u : Value} (I : Inv X pins σ H s) (h : BoxV X.K H v) (r : RelV v u) (z : Str) (t : Tok) (A : Around) (hu : A.units < cLine) : SeqAt.EqAt A s (.str z t) u false := by
  obtain ⟨a, rfl, h⟩ := h
  obtain rfl : u = .ref a := r
  rcases h with ⟨xs, h⟩ | ⟨xs, h⟩ | ⟨kvs, h⟩
  · obtain ⟨its, r, p, _⟩ := I.list h
    exact SeqAt.EqAt.str_list z t p.isList hu
  · obtain ⟨its, r, p, _⟩ := I.tuple h
    exact SeqAt.EqAt.str_tuple z t p hu
  · obtain ⟨_, _, vs, _, o, es, ep, h1, h2, h3, _⟩ := dk_rd I.hok h
    exact PlayL.eq_str_dict z t h1 h2.1 h3 hu
/-- x in a row of texts: x a list, a tuple or a dict -/
def rInB (K : PySem.W.Frag) (neg : Bool) : R2 := fun x y H Q => ∃ (p : Addr) (ws : List Str), y = .ref p ∧ (SqL K H p (ws.map V.str) ∨ SqT K H p (ws.map V.str)) ∧ BoxV K H x ∧ Q (.bl neg) H
theorem no_eq {pins : List (Addr × Obj)} {σ : St} {H : Hp} {s : Shared} {v : V} {u : Value} (I : Inv X pins σ H s) (h : BoxV X.K H v) (r : RelV v u) {A : Around} (hu : A.units < cLine) : ∀ {ws : List Str} {us : List Value}, Vals (ws.map V.str) us → ∀ y ∈ us, SeqAt.EqAt A s y u false
  | [], _, .nil, _, hy => by cases hy
  | w :: ws, y0 :: us, .cons q t, y, hy => by
    rcases List.mem_cons.mp hy with rfl | hy
    · obtain ⟨t, rfl⟩ : ∃ t, y = .str w t := q
      exact box_eq I h r w t A hu
    · exact no_eq I h r hu t y hy
theorem op_inB (hu : X.A.in1.units < cLine) : OpR X (compareOp .In) (rInB X.K false) := by
  intro pins s σ H x y v u Q I rx ry h
  obtain ⟨p, ws, rfl, hq, bx, q⟩ := h
  cases ry
  rcases hq with hq | hq
  · obtain ⟨its, r, pl, hz⟩ := I.list hq
    refine SeqAt.in_listAt (fun _ => false) pl.isList (fun w hw => no_eq I bx rx hu r w (by simpa using hw)) ⟨.bl _, H, I, rfl, ?_⟩
    rw [Array.any_eq_false.mpr (fun _ _ => Bool.false_ne_true)]
    exact q
  · obtain ⟨its, r, pl, hz⟩ := I.tuple hq
    refine SeqAt.in_tupleAt (fun _ => false) pl (fun w hw => no_eq I bx rx hu r w (by simpa using hw)) ⟨.bl _, H, I, rfl, ?_⟩
    rw [Array.any_eq_false.mpr (fun _ _ => Bool.false_ne_true)]
    exact q
theorem op_notInB (hu : X.A.in1.units < cLine) : OpR X (compareOp .NotIn) (rInB X.K true) := by
  intro pins s σ H x y v u Q I rx ry h
  obtain ⟨p, ws, rfl, hq, bx, q⟩ := h
  cases ry
  rcases hq with hq | hq
  · obtain ⟨its, r, pl, hz⟩ := I.list hq
    refine SeqAt.notIn_listAt (fun _ => false) pl.isList (fun w hw => no_eq I bx rx hu r w (by simpa using hw)) ⟨.bl _, H, I, rfl, ?_⟩
    rw [Array.any_eq_false.mpr (fun _ _ => Bool.false_ne_true)]
    exact q
  · obtain ⟨its, r, pl, hz⟩ := I.tuple hq
    refine SeqAt.notIn_tupleAt (fun _ => false) pl (fun w hw => no_eq I bx rx hu r w (by simpa using hw)) ⟨.bl _, H, I, rfl, ?_⟩
    rw [Array.any_eq_false.mpr (fun _ _ => Bool.false_ne_true)]
    exact q
/-- whichever of two rules fits -/
theorem op_or {op : CmpOp} {r1 r2 : R2} (h1 : OpR X (compareOp op) r1) (h2 : OpR X (compareOp op) r2) : OpR X (compareOp op) (fun x y H Q => r1 x y H Q ∨ r2 x y H Q) := fun pins s σ H x y v u Q I rx ry h => h.elim (h1 pins s σ H x y v u Q I rx ry) (h2 pins s σ H x y v u Q I rx ry)
end
end Pl
end L2
set_option Elab.async false
set_option linter.all false
set_option maxRecDepth 100000
set_option maxHeartbeats 4000000
namespace L2
namespace Pl
open PySem PySem.Spec PyProof.Rows
def DeedV (b : Sd) (v : V) : Prop := ∃ d, v = .str d ∧ d ∈ b.deeds
/-- no deed: a flat value that is none of them, or a box -/
def NotD (K : PySem.W.Frag) (H : Hp) (b : Sd) (v : V) : Prop := (flatV v = true ∧ inV v (sV b.deeds) = false) ∨ BoxV K H v
theorem BoxV.same {K : PySem.W.Frag} {H H' : Hp} {v : V} (h : BoxV K H v) (m : Same H H') : BoxV K H' v := by
  obtain ⟨a, rfl, h⟩ := h
  refine ⟨a, rfl, ?_⟩
  rcases h with ⟨xs, h⟩ | ⟨xs, h⟩ | ⟨kvs, h⟩
  · exact .inl ⟨xs, m.seq h⟩
  · exact .inr (.inl ⟨xs, seqT_same h m⟩)
  · refine .inr (.inr ⟨kvs, ?_⟩)
    rcases h with h | ⟨o, h⟩
    · exact .inl (m _ _ h)
    · exact .inr ⟨o, m _ _ h⟩
theorem NotD.same {K : PySem.W.Frag} {H H' : Hp} {b : Sd} {v : V} (h : NotD K H b v) (m : Same H H') : NotD K H' b v := h.imp id fun q => q.same m
theorem inD {b : Sd} {d : Str} (h : d ∈ b.deeds) : inV (.str d) (sV b.deeds) = true := by
  rw [inV_strs, decide_eq_true h]
theorem DeedV.not {K : PySem.W.Frag} {H : Hp} {b : Sd} {v : V} (h : DeedV b v) : ¬ NotD K H b v := by
  obtain ⟨d, rfl, hd⟩ := h
  rintro (⟨_, n⟩ | ⟨a, e, _⟩)
  · rw [inD hd] at n
    cases n
  · cases e
/-- NoDeed with the position -/
def Raises (E : XK) (CD : Addr) (H : Hp) (i : Nat) : Prop := ∀ H' d, Same H H' → H' d = none → E (.ref CD) (some d) (upd H' d (.xd [("position", .int (i : Int))]))
theorem Raises.after {E : XK} {CD : Addr} {H H1 : Hp} {i : Nat} (h : Raises E CD H i) (m : Same H H1) : Raises E CD H1 i := fun H' d m' hd => h H' d (m.trans m') hd
def spCheckR (K : PySem.W.Frag) (C CD : Addr) : Sp := fun vs H Q E => ∃ x b l us, vs = [.ref x, .ref l] ∧ StAt C H x b ∧ b.Ok ∧ SqL K H l us ∧ us.length ≤ 1000 ∧ (∀ v ∈ us, DeedV b v ∨ NotD K H b v) ∧ ((∀ v ∈ us, DeedV b v) → ∀ H', Same H H' → Q .non H') ∧
  (∀ (i : Nat) v, us[i]? = some v → NotD K H b v → (∀ (j : Nat) w, j < i → us[j]? = some w → DeedV b w) → Raises E CD H i)
/-- what a question about a deed, about two answers -/
def spAsk1 (K : PySem.W.Frag) (C CD : Addr) (sp : Sp) : Sp := fun vs H Q E => ∃ x b v, vs = [.ref x, v] ∧ StAt C H x b ∧ b.Ok ∧ (DeedV b v ∨ NotD K H b v) ∧ (DeedV b v → sp vs H Q E) ∧ (NotD K H b v → Raises E CD H 0)
def spAsk2 (K : PySem.W.Frag) (C CD : Addr) (sp : Sp) : Sp := fun vs H Q E => ∃ x b v1 v2, vs = [.ref x, v1, v2] ∧ StAt C H x b ∧ b.Ok ∧ (DeedV b v1 ∨ NotD K H b v1) ∧ (DeedV b v2 ∨ NotD K H b v2) ∧ (DeedV b v1 → DeedV b v2 → sp vs H Q E) ∧ (NotD K H b v1 → Raises E CD H 0) ∧ (DeedV b v1 → NotD K H b v2 → Raises E CD H 1)
end Pl
end L2
set_option Elab.async false
set_option linter.all false
set_option maxRecDepth 100000
set_option maxHeartbeats 2000000
/-! the questions about deeds, asked of deeds -/
namespace L2
namespace Pl
open PySem PySem.Spec PyProof.Rows LamP NdefX LamX
theorem cat_use {H : Hp} {p l : Addr} {r1 r2 : List Str} {Q : VK} (h1 : H p = some (.lst (sV r1))) (h2 : H l = some (.lst (sV r2))) (n : r1.length + r2.length ≤ 1000) (q : ∀ u H', Same H H' → H u = none → H' u = some (.lst (sV (r1 ++ r2))) → Q (.ref u) H') : rCat (.ref p) (.ref l) H Q :=
  ⟨p, l, sV r1, sV r2, rfl, rfl, h1, h2, by rw [List.length_map, List.length_map]; exact Nat.le_of_lt (small1000 n), fun u hu => q u _ (same_new hu) hu (by
    rw [upd_same]
    show _ = some (HO.lst (List.map V.str (r1 ++ r2)))
    rw [List.map_append])⟩
theorem cat_useT {TT : List NTab} {H : Hp} {p l : Addr} {r1 r2 : List Str} {Q : VK} (h1 : H p = some (.lst (sV r1))) (h2 : H l = some (.lst (sV r2))) (n : r1.length + r2.length ≤ 1000) (q : ∀ u H', SameT TT H H' → H u = none → H' u = some (.lst (sV (r1 ++ r2))) → Q (.ref u) H') : rCat (.ref p) (.ref l) H Q := cat_use h1 h2 n fun u H' m => q u H' (Same.t m)
theorem ask1_of {K : PySem.W.Frag} {C CD : Addr} {TT : List NTab} {sp : Sp} (hs : ∀ {vs H Q E}, sp vs H Q E → ∃ x b a, vs = [.ref x, .str a] ∧ StAt C H x b ∧ b.Ok ∧ a ∈ b.deeds) (vs : List V) (H : Hp) (Q : VK) (E : XK) (h : sp vs H Q E) : spAsk1 K C CD sp vs H Q E := by
  obtain ⟨x, b, a, rfl, hx, ok, ha⟩ := hs h
  exact ⟨x, b, _, rfl, hx, ok, .inl ⟨a, rfl, ha⟩, fun _ => h, fun n => (DeedV.not ⟨a, rfl, ha⟩ n).elim⟩
theorem change_plain {K : PySem.W.Frag} {C CD : Addr} {TT : List NTab} (vs : List V) (H : Hp) (Q : VK) (E : XK) (h : spChange C TT vs H Q E) : spAsk2 K C CD (spChange C TT) vs H Q E := by
  obtain ⟨x, b, a, c, e, hT, hx, ok, ha, hc, _⟩ := id h
  exact ⟨x, b, _, _, e, hx, ok, .inl ⟨a, rfl, ha⟩, .inl ⟨c, rfl, hc⟩, fun _ _ => h, fun n => (DeedV.not ⟨a, rfl, ha⟩ n).elim, fun _ n => (DeedV.not ⟨c, rfl, hc⟩ n).elim⟩
theorem twice_plain {K : PySem.W.Frag} {C CD : Addr} {TT : List NTab} : ∀ (vs : List V) (H : Hp) (Q : VK) (E : XK), spTwice C TT vs H Q E → spAsk1 K C CD (spTwice C TT) vs H Q E := ask1_of (TT := TT) fun ⟨x, b, a, e, hT, hx, ok, ha, _⟩ => ⟨x, b, a, e, hx, ok, ha⟩
theorem again_plain {K : PySem.W.Frag} {C CD : Addr} {TT : List NTab} : ∀ (vs : List V) (H : Hp) (Q : VK) (E : XK), spAgain C TT vs H Q E → spAsk1 K C CD (spAgain C TT) vs H Q E := ask1_of (TT := TT) fun ⟨x, b, a, e, hT, hx, ok, ha, _⟩ => ⟨x, b, a, e, hx, ok, ha⟩
theorem left_plain {K : PySem.W.Frag} {C CD : Addr} {TT : List NTab} : ∀ (vs : List V) (H : Hp) (Q : VK) (E : XK), spLeft C TT vs H Q E → spAsk1 K C CD (spLeft C TT) vs H Q E := ask1_of (TT := TT) fun ⟨x, b, a, e, hT, hx, ok, ha, _⟩ => ⟨x, b, a, e, hx, ok, ha⟩
end Pl
end L2
set_option Elab.async false
set_option linter.all false
set_option maxRecDepth 100000
set_option maxHeartbeats 4000000
namespace L2
namespace Pl
open PySem PySem.Spec PyProof.Rows LamP NdefX LamX
structure At11T (K : PySem.W.Frag) (C : Addr) (TT : List NTab) (so ba x : Addr) (b : Bd) (H : Hp) : Prop where
  src : Src H so
  bd : BdAt K (del H so) ba b
  ok : b.Ok
  st : StAt C (del H so) x (sdOf b)
  tb : TabsN TT (del H so)
theorem At11T.mv {TT : List NTab} {K : PySem.W.Frag} {C so ba x : Addr} {b : Bd} {H H' : Hp} (h : At11T K C TT so ba x b H) (m : Mv so H H') : At11T K C TT so ba x b H' := ⟨m.src, h.bd.same m.same, h.ok, h.st.same m.same, h.tb.ext m.same⟩
theorem At11T.mvT {TT : List NTab} {K : PySem.W.Frag} {C so ba x : Addr} {b : Bd} {H H' : Hp} (h : At11T K C TT so ba x b H) (m : MvT TT so H H') : At11T K C TT so ba x b H' := ⟨m.src, h.bd.sameT m.same, h.ok, h.st.sameT m.same, m.same.tabs h.tb⟩
theorem TupOk.sameT {TT : List NTab} {H H' : Hp} {b : Sd} {T : Addr} (h : TupOk H b T) (m : SameT TT H H') : TupOk H' b T := by
  obtain ⟨p, q, v, R1, R2, h1, h2, h3, h4⟩ := h
  exact ⟨p, q, v, R1, R2, m _ _ h1, m _ _ h2, m _ _ h3, h4⟩
def spLawN (K : PySem.W.Frag) (TT : List NTab) : Sp := fun vs H Q E => TabsN TT H ∧ spLaw K vs H Q E
end Pl
end L2
set_option Elab.async false
set_option linter.all false
set_option maxRecDepth 100000
/-! a list spread over several targets -/
namespace L2
namespace Pl
open PySem PySem.Spec PyProof.Rows
def gTupL (K : PySem.W.Frag) (n : Nat) (t : TGs) : TG := fun v σ H Q => ∃ l xs, v = .ref l ∧ SqL K H l xs ∧ xs.length = n ∧ t xs σ H Q
theorem pg_tupL {X : Cx} {es : List Expr} {k : Nat} {pos : Pos} {t : TGs} {n : Nat} (hc : X.calm = true) (h : PGs X es t) (hn : (assignEach es X.env).length = n := by rfl) (hst : (assignEach es X.env).findIdx? (·.1) = none := by rfl) :
    PG X (.Tuple es k pos) (gTupL X.K n t) := by
  refine ⟨fun pins s σ H v u Q I r hw => ?_⟩
  obtain ⟨l, xs, rfl, hq, hl, hw⟩ := hw
  obtain rfl : u = Value.ref l := r
  obtain ⟨its, rv, ⟨o, m, e, c1, _, c3⟩, hz⟩ := I.list hq
  have il : s.heap.IsList l its.toArray := ⟨o, e, c1, m, c3⟩
  rw [assign_Tuple]
  refine wpAny_bind (wpAny_standAt ?_)
  unfold unpack
  rw [show (assignEach es X.env).length = its.toArray.size from by simp [hn, ← hl, rv.length], hst]
  refine wpAny_bind (wpAny_holding (PySem.W.kun_itemsOf (I.ok.hd hc) il fun h' hx => ?_))
  have I1 : Inv X pins σ H { s with heap := h' } := I.kept (t' := s.toks) fun b o e => hx b o (Nat.ne_of_lt (Heap.lt_size e)) e
  exact h.run pins _ σ H xs _ Q I1 (by simpa using rv) hw
end Pl
end L2
set_option Elab.async false
set_option linter.all false
set_option maxRecDepth 100000
set_option maxHeartbeats 2000000
namespace L2
namespace Pl
open PySem PySem.Spec PyProof.Rows
theorem op_eq_nil {X : Cx} (hu : X.A.units < cLine) : OpR X (compareOp .Eq) (fun x y H Q => ∃ l b xs, x = .ref l ∧ y = .ref b ∧ SqL X.K H l xs ∧ SqL X.K H b [] ∧ Q (.bl xs.isEmpty) H) := by
  intro pins s σ H x y v u Q I rx ry h
  obtain ⟨l, b, xs, rfl, rfl, hx, hb, q⟩ := h
  cases rx
  cases ry
  obtain ⟨its, r1, p1, z1⟩ := I.list hx
  obtain ⟨its2, r2, p2, z2⟩ := I.list hb
  have l1 := r1.length
  have l2 := r2.length
  have s1 : its.toArray.size = xs.length := by rw [List.size_toArray, l1]
  have s2 : its2.toArray.size = 0 := by
    rw [List.size_toArray, ← l2]
    rfl
  by_cases h0 : xs = []
  · subst h0
    have z : its.toArray.size = 0 := s1
    refine SeqAt.RcAt.lists (e := fun _ => true) p1.isList p2.isList (by rw [z, s2]) hu (fun j h1 _ => ?_) _ _ _ _ ⟨.bl true, H, I, ?_, q⟩
    · rw [z] at h1
      exact absurd h1 (Nat.not_lt_zero _)
    · rw [z]
      rfl
  · refine SeqAt.RcAt.lists_lengths p1.isList p2.isList ?_ hu _ _ _ _ ⟨.bl xs.isEmpty, H, I, ?_, q⟩
    · rw [s1, s2]
      have : xs.length ≠ 0 := fun e => h0 (List.length_eq_zero_iff.mp e)
      simp [this]
    · cases xs with
      | nil => exact absurd rfl h0
      | cons _ _ => rfl
end Pl
end L2
set_option Elab.async false
set_option linter.all false
set_option maxRecDepth 100000
set_option maxHeartbeats 4000000
/-! k31: rows that are played a second time -/
namespace L2
namespace Pl
open PySem PySem.Spec PyProof.Rows LamP NdefX LamX DcTwo
theorem not_day {b : Sd} {u v w : List Str} (h : ShowsS b u v [] w) : ¬ AllDay b := fun al => by
  obtain ⟨hu, hv, _, _, hp⟩ := h
  rw [List.append_nil] at hp
  exact al u v hu hv w hp
theorem not_since {b : Sd} {u v x w : List Str} (h : ShowsS b u v x w) : ¬ AllSince b := fun al => by
  obtain ⟨hu, hv, hx, _, hp⟩ := h
  exact al u v x hu hv hx w hp
theorem day_use {C : Addr} {TT : List NTab} {H : Hp} {x : Addr} {b : Sd} {Q : VK} {E : XK} (hT : TabsN TT H) (hx : StAt C H x b) (ok : b.Ok) (q : ∀ v H', SameT TT H H' → Ans (AllDay b) v → Q v H') : spDay C TT [.ref x] H Q E :=
  ⟨x, b, rfl, hT, hx, ok, fun H' T p q1 r u v w t s => q _ H' t.same (.inr ⟨⟨T, rfl⟩, not_day s⟩), fun a H' m => q _ H' m (.inl ⟨rfl, a⟩)⟩
theorem since_use {C : Addr} {TT : List NTab} {H : Hp} {x : Addr} {b : Sd} {Q : VK} {E : XK} (hT : TabsN TT H) (hx : StAt C H x b) (ok : b.Ok) (q : ∀ v H', SameT TT H H' → Ans (AllSince b) v → Q v H') : spSince C TT [.ref x] H Q E :=
  ⟨x, b, rfl, hT, hx, ok, fun H' T p q1 r t u v xx w tl s => q _ H' tl.same (.inr ⟨⟨T, rfl⟩, not_since s⟩), fun a H' m => q _ H' m (.inl ⟨rfl, a⟩)⟩
theorem seen_day {b : Sd} (al : AllDay b) {ah r be : List Str} (h1 : Row b ah) (h2 : Row b r) (h3 : Row b be) : b.look (b.lead b.start (ah ++ r ++ be)) = b.look (b.lead b.start (ah ++ r ++ r ++ be)) := by
  rw [lead_app (r1 := ah ++ r) (r2 := be), lead_app (r1 := ah ++ r ++ r) (r2 := be)]
  exact (al ah r h1 h2).seen h3
theorem seen_since {b : Sd} (al : AllSince b) {ah r x be : List Str} (h1 : Row b ah) (h2 : Row b r) (h3 : Row b x) (h4 : Row b be) : b.look (b.lead b.start (ah ++ r ++ x ++ be)) = b.look (b.lead b.start (ah ++ r ++ x ++ r ++ be)) := by
  rw [lead_app (r1 := ah ++ r ++ x) (r2 := be), lead_app (r1 := ah ++ r ++ x ++ r) (r2 := be)]
  exact (al ah r x h1 h2 h3).seen h4
def spRowsR (K : PySem.W.Frag) (C : Addr) (TT : List NTab) : Sp := fun vs H Q _ => ∃ so ba x b, vs = [.ref so, .ref ba, .ref x] ∧ At11T K C TT so ba x b H ∧ ∀ H', MvT TT so H H' → Q (.bl true) H'
/-- «if a and b: return», b asked only where a holds: what follows, once -/
theorem and_cont {b : Bool} {A S : Prop} {R : Hp → Prop} {H1 : Hp} (P : Hp → Prop) (cont : ∀ H, P H → R H) (hA : b = true → (∀ H, P H → R H) → A) (hB : P H1) : if b = true then A else (if false = true then S else R H1) := by
  cases b with
  | true => exact iteT (hA rfl cont)
  | false => exact iteF (iteF (cont _ hB))
/-- a drawn row at p -/
def RwAt (b : Sd) (so D : Addr) (H : Hp) (p : Addr) (r : List Str) : Prop := H p = some (.lst (sV r)) ∧ Row b r ∧ r.length ≤ 4 ∧ p ≠ so ∧ p ≠ D
end Pl
end L2
set_option Elab.async false
set_option linter.all false
set_option maxRecDepth 100000
set_option maxHeartbeats 2000000
/-! k31: whole days and single deeds -/
namespace L2
namespace Pl
open PySem PySem.Spec PyProof.Rows
theorem row_one {b : Sd} {d : Str} (h : d ∈ b.deeds) : Row b [d] := fun c hc => (List.mem_singleton.mp hc) ▸ h
theorem row_nil {b : Sd} : Row b [] := fun d hd => by cases hd
/-- a row that is played again deed by deed changes nothing -/
theorem again_rows {b : Sd} (h : ∀ d ∈ b.deeds, AllAgain b d) : AllSince b := fun u v x hu hv hx => by
  -- each prefix of v, played behind u, v, x
  have key : ∀ w, (∀ d ∈ w, d ∈ v) → Alike b (b.lead b.start (u ++ v ++ x)) (b.lead b.start (u ++ v ++ x ++ w)) := by
    intro w
    induction w with
    | nil =>
      intro _
      rw [List.append_nil]
      exact alike_refl _
    | cons d w ih =>
      intro hw
      have hd := hw d (List.mem_cons_self ..)
      have ih := ih fun c hc => hw c (List.mem_cons_of_mem _ hc)
      have hrw : Row b w := fun c hc => hv c (hw c (List.mem_cons_of_mem _ hc))
      obtain ⟨v1, v2, rfl⟩ := List.append_of_mem hd
      have h1 : Row b v1 := fun c hc => hv c (List.mem_append_left _ hc)
      have h2 : Row b v2 := fun c hc => hv c (List.mem_append_right _ (List.mem_cons_of_mem _ hc))
      have hdd := hv d hd
      have a := h d hdd (u ++ v1) (v2 ++ x) (row_app hu h1) (row_app h2 hx)
      unfold behind at a
      have e : b.lead (b.lead (b.lead b.start (u ++ v1)) [d]) (v2 ++ x) = b.lead b.start (u ++ (v1 ++ d :: v2) ++ x) := by
        rw [← lead_app, ← lead_app]
        congr 1
        simp
      rw [e] at a
      have a2 := Alike.led a hrw
      have e3 : b.lead (b.lead b.start (u ++ (v1 ++ d :: v2) ++ x)) w = b.lead b.start (u ++ (v1 ++ d :: v2) ++ x ++ w) := lead_app.symm
      have e4 : b.lead (b.lead (b.lead b.start (u ++ (v1 ++ d :: v2) ++ x)) [d]) w = b.lead b.start (u ++ (v1 ++ d :: v2) ++ x ++ d :: w) := by
        rw [← lead_app, ← lead_app]
        rfl
      rw [e3, e4] at a2
      exact ih.trans a2
  exact key v fun d hd => hd
theorem since_iff {b : Sd} : AllSince b ↔ ∀ d ∈ b.deeds, AllAgain b d := ⟨fun h d hd u v hu hv => by
  have := h u [d] v hu (row_one hd) hv
  have e : behind b d u v = b.lead b.start (u ++ [d] ++ v) := by
    unfold behind
    rw [← lead_app, ← lead_app]
    congr 1
    simp
  rw [e, ← lead_app]
  exact this, again_rows⟩
theorem since_day {b : Sd} (h : AllSince b) : AllDay b := fun u v hu hv => by
  have := h u v [] hu hv row_nil
  rw [List.append_nil] at this
  exact this
theorem day_twice {b : Sd} (h : AllDay b) : ∀ d ∈ b.deeds, AllAlike b [d] [d, d] := fun d hd u hu => by
  have := h u [d] hu (row_one hd)
  rw [← lead_app, ← lead_app]
  rw [List.append_assoc u [d] [d]] at this
  exact this
/-- where deeds change places and can be done twice, a deed of a row changes nothing behind it -/
theorem absorb {b : Sd} (hc : ∀ a ∈ b.deeds, ∀ c ∈ b.deeds, AllAlike b [a, c] [c, a]) (ht : ∀ d ∈ b.deeds, AllAlike b [d] [d, d]) {d : Str} : ∀ (n : Nat) (u w : List Str), w.length = n → Row b u → Row b w → d ∈ w → Alike b (b.lead b.start (u ++ w)) (b.lead b.start (u ++ w ++ [d])) := by
  intro n
  induction n with
  | zero =>
    intro u w e _ _ hd
    rw [List.length_eq_zero_iff.mp e] at hd
    cases hd
  | succ n ih =>
    intro u w e hu hw hd
    rcases List.eq_nil_or_concat w with rfl | ⟨q, a, h2⟩
    · cases hd
    · rw [List.concat_eq_append] at h2
      subst h2
      rw [List.length_append, List.length_singleton] at e
      have hq : Row b q := fun c hc => hw c (List.mem_append_left _ hc)
      have ha := hw a (List.mem_append_right _ (List.mem_singleton.mpr rfl))
      have huq := row_app hu hq
      have e1 : ∀ r, b.lead b.start (u ++ (q ++ [a]) ++ r) = b.lead (b.lead b.start (u ++ q)) (a :: r) := fun r => by
        rw [← lead_app]
        congr 1
        simp
      have e0 := e1 []
      rw [List.append_nil] at e0
      rw [e1, e0]
      by_cases c : d = a
      · subst c
        exact ht d ha (u ++ q) huq
      · have hdq : d ∈ q := (List.mem_append.mp hd).resolve_right fun z => c (List.mem_singleton.mp z)
        have hdd := hq d hdq
        have i := ih u q (by omega) hu hq hdq
        have i2 := Alike.led i (row_one ha)
        rw [← lead_app, ← lead_app] at i2
        have e2 : b.lead b.start (u ++ q ++ [d] ++ [a]) = b.lead (b.lead b.start (u ++ q)) [d, a] := by
          rw [← lead_app]
          congr 1
          simp
        rw [e2, lead_app (r2 := [a])] at i2
        exact i2.trans (hc d hdd a ha (u ++ q) huq)
theorem change_day {b : Sd} (hc : ∀ a ∈ b.deeds, ∀ c ∈ b.deeds, AllAlike b [a, c] [c, a]) (ht : ∀ d ∈ b.deeds, AllAlike b [d] [d, d]) : AllDay b := fun u v hu hv => by
  have key : ∀ w, (∀ d ∈ w, d ∈ v) → Alike b (b.lead b.start (u ++ v)) (b.lead b.start (u ++ v ++ w)) := by
    intro w
    induction w with
    | nil =>
      intro _
      rw [List.append_nil]
      exact alike_refl _
    | cons d w ih =>
      intro hw
      have hd := hw d (List.mem_cons_self ..)
      have ih := ih fun c hc => hw c (List.mem_cons_of_mem _ hc)
      have hrw : Row b w := fun c hc => hv c (hw c (List.mem_cons_of_mem _ hc))
      have a := Alike.led (absorb hc ht _ u v rfl hu hv hd) hrw
      rw [← lead_app, ← lead_app] at a
      have e2 : u ++ v ++ [d] ++ w = u ++ v ++ d :: w := by simp
      rw [e2] at a
      exact ih.trans a
  exact key v fun d hd => hd
end Pl
end L2
set_option Elab.async false
set_option linter.all false
set_option maxRecDepth 100000
set_option maxHeartbeats 2000000
/-! k30: what rows of deeds do, as tables -/
namespace L2
namespace Pl
open PySem PySem.Spec PyProof.Rows
def tabR (b : Sd) (r : List Str) : List Str := b.names.map fun s => b.lead s r
def tstep (b : Sd) (d : Str) (t : List Str) : List Str := t.map (b.lead1 d)
theorem tab_snoc {b : Sd} {r : List Str} {d : Str} : tabR b (r ++ [d]) = tstep b d (tabR b r) := by
  unfold tabR tstep
  rw [List.map_map]
  refine List.map_congr_left fun s _ => ?_
  rw [lead_app]
  rfl
def IsTab (b : Sd) (t : List Str) : Prop := ∃ r, r ≠ [] ∧ Row b r ∧ t = tabR b r
theorem IsTab.step {b : Sd} {t : List Str} (h : IsTab b t) {d : Str} (hd : d ∈ b.deeds) : IsTab b (tstep b d t) := by
  obtain ⟨r, h1, h2, rfl⟩ := h
  exact ⟨r ++ [d], (fun e => by simp at e), row_app h2 (row_one hd), tab_snoc.symm⟩
theorem IsTab.len {b : Sd} {t : List Str} (h : IsTab b t) : t.length = b.names.length := by
  obtain ⟨r, _, _, rfl⟩ := h
  exact List.length_map _
theorem IsTab.in_ {b : Sd} (ok : b.Ok) {t : List Str} (h : IsTab b t) : ∀ x ∈ t, x ∈ b.names := by
  obtain ⟨r, _, h2, rfl⟩ := h
  intro x hx
  obtain ⟨s, hs, rfl⟩ := List.mem_map.mp hx
  exact lead_in ok h2 hs
/-- all lists of a length -/
def allL (ns : List Str) : Nat → List (List Str)
  | 0 => [[]]
  | k + 1 => ns.flatMap fun a => (allL ns k).map fun t => a :: t
theorem allL_len (ns : List Str) : ∀ k, (allL ns k).length = ns.length ^ k
  | 0 => rfl
  | k + 1 => by
    show (ns.flatMap fun a => (allL ns k).map fun t => a :: t).length = _
    rw [List.length_flatMap, List.map_congr_left (g := fun _ => ns.length ^ k) fun x _ => by rw [List.length_map, allL_len ns k], List.map_const', List.sum_replicate_nat, Nat.pow_succ, Nat.mul_comm]
theorem allL_mem {ns : List Str} : ∀ {k : Nat} {t : List Str}, t.length = k → (∀ x ∈ t, x ∈ ns) → t ∈ allL ns k
  | 0, t, h, _ => by
    rw [List.length_eq_zero_iff.mp h]
    exact List.mem_singleton.mpr rfl
  | k + 1, [], h, _ => by cases h
  | k + 1, a :: t, h, hi => by
    refine List.mem_flatMap.mpr ⟨a, hi a (List.mem_cons_self ..), List.mem_map.mpr ⟨t, allL_mem (by simpa using h) fun x hx => hi x (List.mem_cons_of_mem _ hx), rfl⟩⟩
theorem nd_le' {α : Type} [DecidableEq α] {l m : List α} (nd : l.Nodup) (h : ∀ x ∈ l, x ∈ m) : l.length ≤ m.length := nd_le nd h
theorem tabs_few {b : Sd} (ok : b.Ok) {fd : List (List Str)} (nd : fd.Nodup) (h : ∀ t ∈ fd, IsTab b t) : fd.length ≤ 3125 := by
  have h1 := nd_le (m := allL b.names b.names.length) nd fun t ht => allL_mem (h t ht).len fun x hx => (h t ht).in_ ok x hx
  rw [allL_len] at h1
  have n5 := ok.n5
  have : ∀ n : Nat, n ≤ 5 → n ^ n ≤ 3125 := by decide
  exact Nat.le_trans h1 (this _ n5)
/-- shut under deeds, with each deed's own table: all of them -/
theorem tabs_all {b : Sd} {fd : List (List Str)} (h1 : ∀ d ∈ b.deeds, tabR b [d] ∈ fd) (h2 : ∀ t ∈ fd, ∀ d ∈ b.deeds, tstep b d t ∈ fd) : ∀ (n : Nat) (r : List Str), r.length = n → r ≠ [] → Row b r → tabR b r ∈ fd := by
  intro n
  induction n with
  | zero => exact fun r e n _ => absurd (List.length_eq_zero_iff.mp e) n
  | succ n ih =>
    intro r e _ hr
    rcases List.eq_nil_or_concat r with rfl | ⟨q, d, h⟩
    · cases e
    · rw [List.concat_eq_append] at h
      subst h
      rw [List.length_append, List.length_singleton] at e
      have hd := hr d (List.mem_append_right _ (List.mem_singleton.mpr rfl))
      have hq : Row b q := fun c hc => hr c (List.mem_append_left _ hc)
      by_cases c : q = []
      · subst c
        exact h1 d hd
      · rw [tab_snoc]
        exact h2 _ (ih q (by omega) c hq) d hd
/-- a deed's leads are its table -/
theorem leads_tab {b : Bd} (ok : b.Ok) {d : Str × List Str} (hd : d ∈ b.deeds) : tabR (sdOf b) [d.1] = d.2 := by
  apply List.ext_getElem?
  intro j
  show (List.map (fun s => (sdOf b).lead s [d.1]) b.names)[j]? = _
  rw [List.getElem?_map]
  have dl := ok.dl d hd
  cases hz : b.names[j]? with
  | none =>
    rw [List.getElem?_eq_none_iff] at hz
    rw [List.getElem?_eq_none_iff.mpr (by omega)]
    rfl
  | some z =>
    have lt := (List.getElem?_eq_some_iff.mp hz).1
    obtain ⟨u, hu⟩ : ∃ u, d.2[j]? = some u := ⟨_, List.getElem?_eq_getElem (by omega)⟩
    rw [hu]
    exact congrArg some (lead1_at ok hd hz hu)
theorem lookup_zip {ws us : List Str} (nd : ws.Nodup) {j : Nat} {z u : Str} (hz : ws[j]? = some z) (hu : us[j]? = some u) : (ws.zip us).lookup z = some u := by
  induction ws generalizing us j with
  | nil => cases hz
  | cons a ws ih =>
    obtain ⟨n1, n2⟩ := List.nodup_cons.mp nd
    cases us with
    | nil => cases hu
    | cons c us =>
      cases j with
      | zero =>
        obtain rfl := Option.some.inj hz
        obtain rfl := Option.some.inj hu
        show List.lookup a ((a, c) :: _) = _
        rw [List.lookup_cons, show (a == a) = true from beq_self_eq_true a]
      | succ j =>
        have hz' : ws[j]? = some z := hz
        have ne : z ≠ a := fun e => n1 (e ▸ List.mem_of_getElem? hz')
        show List.lookup z ((a, c) :: ws.zip us) = _
        rw [List.lookup_cons, show (z == a) = false from beq_eq_false_iff_ne.mpr ne]
        exact ih n2 hz' hu
/-- a table as a dict of its own -/
theorem valV_tab {ws us : List Str} (nd : ws.Nodup) {j : Nat} {z u : Str} (hz : ws[j]? = some z) (hu : us[j]? = some u) : valV (kvS (ws.zip us)) (Sum.inr z : Key) = some (.str u) := by
  rw [valV_kvS, lookup_zip nd hz hu]
  rfl
theorem valV_lead {b : Bd} (ok : b.Ok) {d : Str × List Str} (hd : d ∈ b.deeds) {z : Str} (hz : z ∈ b.names) : valV (kvS (b.names.zip d.2)) (Sum.inr z : Key) = some (.str ((sdOf b).lead1 d.1 z)) := by
  obtain ⟨j, hj⟩ := List.mem_iff_getElem?.mp hz
  have dl := ok.dl d hd
  have lt := (List.getElem?_eq_some_iff.mp hj).1
  obtain ⟨u, hu⟩ : ∃ u, d.2[j]? = some u := ⟨_, List.getElem?_eq_getElem (by omega)⟩
  rw [valV_tab ok.nd hj hu, lead1_at ok hd hj hu]
theorem valV_tabR {b : Sd} (nd : b.names.Nodup) {r : List Str} {z : Str} (hz : z ∈ b.names) : valV (kvS (b.names.zip (tabR b r))) (Sum.inr z : Key) = some (.str (b.lead z r)) := by
  obtain ⟨j, hj⟩ := List.mem_iff_getElem?.mp hz
  refine valV_tab nd hj ?_
  unfold tabR
  rw [List.getElem?_map, hj]
  rfl
end Pl
end L2
set_option Elab.async false
set_option linter.all false
set_option maxRecDepth 100000
set_option maxHeartbeats 2000000
/-! dict(xs) of a list of pairs whose keys are tuples -/
namespace L2
namespace Pl
open PySem PySem.Spec PyProof.Rows
abbrev Trip := List Key × Addr × Value
def layAll (acc more : List Trip) : List Trip := more.foldl (fun a q => storedH a q.1 q.2.1 q.2.2) acc
section
variable {prog : Program} {w : World} {A : Around} {E : Value → Shared → Prop}
theorem isK_keep {ks : List Key} {a : Addr} {h h' : Heap} (z : (tupleKind (mixKind prog w)).is h ks a) (k : ∀ o, h.get? a = some o → h'.get? a = some o) : (tupleKind (mixKind prog w)).is h' ks a := by
  obtain ⟨o, its, n, h1, h2⟩ := z
  exact ⟨o, its, n, k o h1, h2⟩
theorem isK_there {ks : List Key} {a : Addr} {h : Heap} (z : (tupleKind (mixKind prog w)).is h ks a) : ∃ o, h.get? a = some o := by
  obtain ⟨o, its, n, h1, h2⟩ := z
  exact ⟨o, h1⟩
theorem storedH_le (xs : List Trip) (k : List Key) (a : Addr) (v : Value) : (storedH xs k a v).length ≤ xs.length + 1 := by
  unfold storedH
  split
  · rw [List.length_map]
    omega
  · rw [List.length_append]
    exact Nat.le_refl _
theorem walkH {R : Result → Shared → Prop} {S I l : Addr} {items : Array Value} {res : Value} (hh : A.handled = none) (hu : (tupleKind (mixKind prog w)).room A.in1) (hlI : l ≠ I) (hSI : S ≠ I) (hSl : S ≠ l) :
    ∀ (rest : List Trip) (i : Nat) (acc : List Trip) (ix : Int) (t : Tok) (s : Shared), items.size = i + rest.length → acc.length + rest.length ≤ sizeLine →
      (∀ (j : Nat) (q : Trip), rest[j]? = some q → ∃ b : Addr, items[i + j]? = some (.ref b) ∧ (b ≠ S ∧ b ≠ I) ∧ (q.2.1 ≠ S ∧ q.2.1 ≠ I) ∧ IsTup s.heap b #[.ref q.2.1, q.2.2] ∧ (tupleKind (mixKind prog w)).is s.heap q.1 q.2.1) →
      s.heap.IsListIter I l i → s.heap.IsList l items → s.heap.DictOfH (tupleKind (mixKind prog w)) S acc →
      (∀ h' tk, h'.DictOfH (tupleKind (mixKind prog w)) S (layAll acc rest) → (∀ b o, b ≠ S → b ≠ I → s.heap.get? b = some o → h'.get? b = some o) → R (.ok (.ret res)) { s with heap := h', toks := tk }) →
      codeAny (model prog w) A (.builtin "dict.update.loop" ⟨[.ref S, .ref I, .int ix t, res], []⟩) R s := by
  intro rest
  induction rest with
  | nil =>
    intro i acc ix t s hsz _ _ hit hl hm hR
    refine codeAny_builtin ud_entry ?_
    rw [Around.under_plainId ud_plain _]
    show wpAny _ A.in1 (pyNext (.ref I) >>= _) _ _ s
    have past : items[i]? = none := Array.getElem?_eq_none (by rw [hsz]; exact Nat.le_refl _)
    refine wpAny_bind (wpAny_pyNext_list_end (A := A.in1) hh hit hl past fun h' he => ?_)
    show wpAny _ A.in1 (Builtin.Dict.addKeywords S [] >>= _) _ _ _
    refine wpAny_bind (wpAny_pure (wpAny_pure (hR h' s.toks ?_ fun b o _ hb e => he b o hb e)))
    obtain ⟨o, es, ep, h1, h2, h3, h4, h5, h6⟩ := hm
    exact ⟨o, es, ep, he S o hSI h1, h2, h3, h4, fun x hx => isK_keep (h5 x hx) fun o' e => by
      by_cases c : x.2.1 = I
      · obtain ⟨oi, hi1, hi2, hi3⟩ := hit
        obtain ⟨o1, _, _, g1, g2, _⟩ := h5 x hx
        rw [c, hi1] at g1
        cases g1
        have e9 := g2.symm.trans hi2
        injection e9 with e9
        exact absurd e9 (by decide +kernel)
      · exact he _ o' c e, h6⟩
  | cons q rest ih =>
    intro i acc ix t s hsz hln ht hit hl hm hR
    obtain ⟨b, hb, ⟨hbS, hbI⟩, ⟨hqS, hqI⟩, htup, hk⟩ := ht 0 q rfl
    rw [List.length_cons] at hsz hln
    refine codeAny_builtin ud_entry ?_
    rw [Around.under_plainId ud_plain _]
    show wpAny _ A.in1 (pyNext (.ref I) >>= _) _ _ s
    refine wpAny_bind (wpAny_pyNext_list_item (x := .ref b) hit hl (by simpa using hb) fun h1 hit1 hs1 => ?_)
    have key : ∀ {x : Addr}, x ≠ I → ∀ o, s.heap.get? x = some o → h1.get? x = some o := fun n o e => hs1.extBut _ _ n e
    obtain ⟨o, ho, hc, n, hd⟩ : IsTup h1 b #[.ref q.2.1, q.2.2] := htup.extBut hs1.extBut hbI
    have hm1 : h1.DictOfH (tupleKind (mixKind prog w)) S acc := by
      obtain ⟨o, es, ep, g1, g2, g3, g4, g5, g6⟩ := hm
      refine ⟨o, es, ep, key hSI o g1, g2, g3, g4, fun x hx => isK_keep (g5 x hx) fun o' e => ?_, g6⟩
      by_cases c : x.2.1 = I
      · obtain ⟨oi, hi1, hi2, hi3⟩ := hit
        obtain ⟨o1, _, _, e1, e2, _⟩ := g5 x hx
        rw [c, hi1] at e1
        cases e1
        have e9 := e2.symm.trans hi2
        injection e9 with e9
        exact absurd e9 (by decide +kernel)
      · exact key c o' e
    show wpAny _ A.in1 (holding [Value.ref b] _ >>= _) _ _ _
    refine wpAny_bind (wpAny_holding (wpAny_bind (wpAny_tryCatch ?_)))
    unfold Builtin.Dict.pairItems
    refine wpAny_bind (wpAny_typeOf (T := "tuple") ⟨o, ho, hc⟩ ?_)
    rw [if_pos (by first | decide | rfl | simp)]
    refine wpAny_bind (wpAny_seqItems ho hd (wpAny_pure ?_))
    show wpAny _ A.in1 (holding [.ref q.2.1, q.2.2] (dictSet S (.ref q.2.1) q.2.2)) _ _ _
    refine wpAny_holding (wpAny_dictSet_heap hu (isK_keep hk (key hqI)) hm1 (fun h2 hm2 hs2 => ?_) (by omega))
    have z := storedH_le acc q.1 q.2.1 q.2.2
    refine wpAny_pure ⟨plainId_quiet ud_plain _, ih (i + 1) (storedH acc q.1 q.2.1 q.2.2) (ix + 1) 0 _ (by omega) (by omega) (fun j q' e => ?_) (hit1.at fun o' e => hs2.extBut I o' (Ne.symm hSI) e) ?_ hm2 fun h' tk hd' kp => ?_⟩
    · obtain ⟨b', hb', n1, n2, htup', hk'⟩ := ht (j + 1) q' (by simpa using e)
      refine ⟨b', by rw [show i + 1 + j = i + (j + 1) by omega]; exact hb', n1, n2, (htup'.extBut hs1.extBut n1.2).extBut hs2.extBut n1.1, isK_keep (isK_keep hk' (key n2.2)) fun o e => hs2.extBut _ o n2.1 e⟩
    · exact (hl.extBut hs1.extBut hlI).extBut hs2.extBut (Ne.symm hSl)
    · exact hR h' tk hd' fun c oc h3 h4 e => kp c oc h3 h4 (hs2.extBut c oc h3 (hs1.extBut c oc h4 e))
theorem call_dictH {s : Shared} {l : Addr} {ol : Obj} {items : Array Value} {n : Nat} {prs : List Trip} {Q : Value → Shared → Prop} (hh : A.handled = none) (hu : A.in1.units + 1 < cLine) (hl : s.heap.get? l = some ol) (hc : ol.cls = .type "list") (hd : ol.dict = none)
    (hdat : ol.data = .seq items n) (hsz : items.size = prs.length) (hln : prs.length ≤ sizeLine)
    (ht : ∀ (j : Nat) (q : Trip), prs[j]? = some q → ∃ b : Addr, items[j]? = some (.ref b) ∧ IsTup s.heap b #[.ref q.2.1, q.2.2] ∧ (tupleKind (mixKind prog w)).is s.heap q.1 q.2.1)
    (h : ∀ h' tk, h'.DictOfH (tupleKind (mixKind prog w)) s.heap.objs.size (layAll [] prs) → (∀ b o, s.heap.get? b = some o → h'.get? b = some o) → Q (.ref s.heap.objs.size) { s with heap := h', toks := tk }) :
    wpAny (model prog w) A (call (.type "dict") [.ref l]) Q E s := by
  refine callType_codes (Q₁ := fun obj u => obj = .ref s.heap.objs.size ∧ u = { s with heap := s.heap.push { cls := .type "dict", data := .dict #[] } }) PySem.F.kt_called_dict (PySem.F.kt_typeCall_dict_1 _) PySem.F.entry_dict_init (kt_code_dict_new _ ⟨rfl, rfl⟩) ?_
  rintro _ _ ⟨rfl, rfl⟩
  have hnew : (s.heap.push { cls := .type "dict", data := .dict #[] }).DictOfH (tupleKind (mixKind prog w)) s.heap.objs.size [] := .new s.heap
  have k0 : ∀ b o, s.heap.get? b = some o → (s.heap.push { cls := .type "dict", data := .dict #[] }).get? b = some o := fun b o => Heap.get?_push_of_some _
  have ty : Shared.TypeIs { s with heap := s.heap.push { cls := .type "dict", data := .dict #[] } } (.ref s.heap.objs.size) "dict" := hnew.typeIs (s := { s with heap := s.heap.push { cls := .type "dict", data := .dict #[] } })
  refine ⟨ty, PySem.F.args_dict_init_2 _ _, ?_⟩
  unfold Builtin.«dict.__init__»
  refine wpAny_bind ?_
  unfold Builtin.Dict.selfAndRest
  refine wpAny_bind (wpAny_notOrdered_dict ty (wpAny_pure ?_))
  show wpAny _ _ (Builtin.Dict.updateFrom "dict.__init__" s.heap.objs.size (.ref l) [] .none) _ _ _
  unfold Builtin.Dict.updateFrom
  refine wpAny_bind (wpAny_typeOf (T := "list") ⟨ol, k0 _ _ hl, hc⟩ ?_)
  rw [if_pos (by first | decide | rfl | simp)]
  refine wpAny_bind (miss_list (k0 _ _ hl) hc hdat hd hh fun h1 tk1 hk1 => ?_)
  rw [if_pos (show (none : Option Value).isNone = true from rfl)]
  refine wpAny_bind (wpAny_rule ?_)
  have up : ∀ b o, s.heap.get? b = some o → (h1.push { cls := .type "list_iterator", data := .fields #[.ref l, .int 0 0] }).get? b = some o := fun b o e => Heap.get?_push_of_some _ (hk1 _ _ (k0 _ _ e))
  have hl1 : h1.IsList l items := ⟨ol, hk1 _ _ (k0 _ _ hl), hc, n, hdat⟩
  have dAt : (s.heap.push { cls := .type "dict", data := .dict #[] }).get? s.heap.objs.size = some { cls := .type "dict", data := .dict #[] } := Heap.get?_push_size _ rfl
  have low : ∀ {b}, b < s.heap.objs.size → b ≠ s.heap.objs.size ∧ b ≠ h1.objs.size := fun {b} lt => ⟨Nat.ne_of_lt lt, Nat.ne_of_lt (Nat.lt_trans lt (Heap.lt_size (hk1 _ _ dAt)))⟩
  refine wpAny_bind (wpAny_pyIter_list hl1 ?_)
  have walked := walkH (prog := prog) (w := w) (A := A.in1) (R := wants (fun r u => r = .none ∧ Q (.ref s.heap.objs.size) u) E) (S := s.heap.objs.size) (I := h1.objs.size) (l := l) (items := items) (res := Value.none) hh (tupleKind_room_in1 hu)
    (low (Heap.lt_size hl)).2 (Nat.ne_of_lt (Heap.lt_size (hk1 _ _ dAt))) (Ne.symm (low (Heap.lt_size hl)).1) prs 0 [] 0 0
    { s with heap := h1.push { cls := .type "list_iterator", data := .fields #[.ref l, .int 0 0] }, toks := tk1 } (by rw [hsz, Nat.zero_add]) (by rw [List.length_nil, Nat.zero_add]; exact hln)
    (fun j q e => by
      obtain ⟨b, e1, e2, e3⟩ := ht j q e
      obtain ⟨oq, g⟩ := isK_there e3
      exact ⟨b, by rw [Nat.zero_add]; exact e1, low e2.lt, low (Heap.lt_size g), e2.keeps fun c o z => up _ _ z, isK_keep e3 fun o z => up _ _ z⟩)
    ⟨_, Heap.get?_push_size _ rfl, rfl, rfl⟩ (hl1.at fun o e => Heap.get?_push_of_some _ e)
    ⟨_, #[], 0, Heap.get?_push_of_some _ (hk1 _ _ dAt), ⟨rfl, rfl, rfl⟩, rfl, rfl, fun _ z => by simp at z, List.nodup_nil⟩
    (fun h' tk hd' k => ⟨rfl, h h' tk hd' fun b o e => k b o (low (Heap.lt_size e)).1 (low (Heap.lt_size e)).2 (up _ _ e)⟩)
  first
    | exact wpAny_pure ⟨plainId_quiet ud_plain _, walked⟩
    | exact wpAny_bind (wpAny_pure (wpAny_pure ⟨plainId_quiet ud_plain _, walked⟩))
end
section
variable {X : Cx}
def layT (acc more : List (List Key × V)) : List (List Key × V) := more.foldl (fun a q => putK a q.1 q.2) acc
theorem KT.layAll {H : Hp} : ∀ {more : List (List Key × V)} {rest : List Trip} {kvs : List (List Key × V)} {xs : List Trip}, KT H more rest → KT H kvs xs → KT H (layT kvs more) (layAll xs rest)
  | _, _, _, _, .nil, q => q
  | _, _, _, _, .cons (a := p) (b := t) h r, q => by
    refine KT.layAll (kvs := putK _ p.1 p.2) (xs := storedH _ t.1 t.2.1 t.2.2) r ?_
    rw [← h.1]
    exact q.put p.1 h.2.1 h.2.2
theorem layT_le : ∀ (more acc : List (List Key × V)), (layT acc more).length ≤ acc.length + more.length
  | [], acc => Nat.le_refl _
  | q :: r, acc => by
    have h1 := layT_le r (putK acc q.1 q.2)
    have h2 := length_putK acc q.1 q.2
    show (layT (putK acc q.1 q.2) r).length ≤ _
    rw [List.length_cons]
    omega
theorem trips_of {pins : List (Addr × Obj)} {σ : L2.St} {H : Hp} {s : Shared} (I : Inv X pins σ H s) : ∀ {ps : List Addr} {kvs : List (List Key × V)}, Paired (fun p kv => ∃ l, SqT X.K H p [.ref l, kv.2] ∧ H l = some (.tup (kv.1.map kV))) ps kvs →
    ∃ prs : List Trip, KT H kvs prs ∧ prs.length = ps.length ∧ ∀ (j : Nat) (q : Trip), prs[j]? = some q → ∃ b : Addr, ps[j]? = some b ∧ IsTup s.heap b #[.ref q.2.1, q.2.2] ∧ (tupleKind (mixKind X.prog X.w)).is s.heap q.1 q.2.1
  | _, _, .nil => ⟨[], .nil, rfl, fun j q e => by simp at e⟩
  | _, _, .cons (a := p) (b := kv) h t => by
    obtain ⟨prs, r, hl, hp⟩ := trips_of I t
    obtain ⟨l, h1, h2⟩ := h
    obtain ⟨its, rv, ht, _⟩ := I.tuple h1
    obtain ⟨u, y, rfl, ru, ry⟩ := vals2 rv
    obtain rfl : u = Value.ref l := ru
    refine ⟨(kv.1, l, y) :: prs, .cons ⟨rfl, h2, ry⟩ r, by rw [List.length_cons, List.length_cons, hl], fun j q e => ?_⟩
    cases j with
    | zero =>
      obtain rfl := Option.some.inj e
      exact ⟨p, rfl, ht, key_of I.hok h2⟩
    | succ j =>
      obtain ⟨b, e1, e2⟩ := hp j q (by simpa using e)
      exact ⟨b, by simpa using e1, e2⟩
/-- dict(xs) of a list of pairs (tuple, value) -/
theorem call_dictPH (hc : X.calm = true) (hu : X.A.in1.units + 1 < cLine) : CallR X (.type "dict") (fun xs H Q => ∃ (a : Addr) (ps : List Addr) (kvs : List (List Key × V)), xs = [.ref a] ∧ SqL X.K H a (ps.map V.ref) ∧ Paired (fun p kv => ∃ l, SqT X.K H p [.ref l, kv.2] ∧ H l = some (.tup (kv.1.map kV))) ps kvs ∧
    ∀ p, H p = none → Q (.ref p) (upd H p (.dT (layT [] kvs)))) := by
  intro pins s σ H xs us Q I r q
  obtain ⟨a, ps, kvs, rfl, hq, hp, q⟩ := q
  obtain ⟨u, rfl, rx⟩ := vals1 r
  cases rx
  obtain ⟨its, rv, pl, hz⟩ := I.list hq
  obtain rfl := refs_at rv
  rw [List.length_map] at hz
  obtain ⟨prs, rel, hl, hpr⟩ := trips_of I hp
  obtain ⟨o, n, ho, c1, hd, hdat⟩ := pl
  have hn := I.hok.fresh (Nat.le_refl s.heap.objs.size)
  refine call_dictH (prs := prs) (I.ok.hd hc) hu ho c1 hd hdat (by simp [hl]) (by rw [hl]; exact hz) (fun j t e => ?_) fun h' tk hd' k => ⟨.ref s.heap.objs.size, upd H s.heap.objs.size (.dT (layT [] kvs)), I.laid (t' := tk) k (Nat.le_refl _) ?_, rfl, q _ hn⟩
  · obtain ⟨b, e1, e2⟩ := hpr j t e
    exact ⟨b, by simp [e1], e2⟩
  · obtain ⟨ob, es, ep, g1, g2, g3, g4, _, g6⟩ := hd'
    refine ⟨?_, beq_eq_false_iff_ne.mpr (Nat.ne_of_gt I.big), _, (KT.layAll (kvs := []) (xs := []) rel .nil).keeps fun b ys e => ?_, ob, es, ep, g1, g2, g3, g4, g6⟩
    · have h1 := layT_le kvs []
      have h2 := Paired.length rel
      rw [List.length_nil] at h1
      omega
    · exact (upd_ne (ne_of_none e hn)).trans e
end
end Pl
end L2
set_option Elab.async false
set_option linter.all false
set_option maxRecDepth 100000
set_option maxHeartbeats 4000000
/-! k30: _law_tables -/
namespace L2
namespace Pl
open PySem PySem.Spec PyProof.Rows
def rDictQ (K : PySem.W.Frag) : List V → Hp → VK → Prop := fun xs H Q => ∃ (a : Addr) (ps : List Addr) (kvs : List (Key × V)), xs = [.ref a] ∧ SqL K H a (ps.map V.ref) ∧ Paired (fun p kv => SqT K H p [kV kv.1, kv.2]) ps kvs ∧ ∀ p, H p = none → Q (.ref p) (upd H p (.dK (mergeK [] kvs)))
theorem call_dictQ {X : Cx} (hcalm : X.calm = true) : CallR X (.type "dict") (rDictQ X.K) := call_dictP hcalm
theorem mergeK_zip {ws us : List Str} (nd : ws.Nodup) (h : us.length = ws.length) : mergeK [] (kvS (ws.zip us)) = kvS (ws.zip us) := by
  refine mergeK_kvS (qs := []) ?_
  rw [List.nil_append, zip_keys h]
  exact nd
/-- the pairs that were laid, as a dict's entries -/
theorem pairs_fwd {K : PySem.W.Frag} {H : Hp} {ts : List Addr} {ws us : List Str} (h : Paired (fun t (q : V × V) => H t = some (.tup [q.1, q.2])) ts ((sV ws).zip (sV us))) : Paired (fun p (kv : Key × V) => SqT K H p [kV kv.1, kv.2]) ts (kvS (ws.zip us)) := by
  rw [zip_sV] at h
  have h2 : ∀ {ts : List Addr} {ps : List (Str × Str)}, Paired (fun t (q : V × V) => H t = some (.tup [q.1, q.2])) ts (ps.map fun p => (V.str p.1, V.str p.2)) → Paired (fun p (kv : Key × V) => SqT K H p [kV kv.1, kv.2]) ts (kvS ps) := by
    intro ts ps
    induction ps generalizing ts with
    | nil =>
      intro h
      cases h
      exact .nil
    | cons p r ih =>
      intro h
      cases h with
      | cons a t => exact .cons (SqT.up a) (ih t)
  exact h2 h
/-- the tables as keys -/
abbrev kvTab (fd : List (List Str)) : List (List Key × V) := fd.map fun t => (t.map (Sum.inr : Str → Key), V.bl true)
theorem keyT (t : List Str) : (t.map (Sum.inr : Str → Key)).map kV = sV t := by
  rw [List.map_map]
  rfl
theorem strs_inj : ∀ {t u : List Str}, sV t = sV u → t = u
  | [], [], _ => rfl
  | [], _ :: _, h => by cases h
  | _ :: _, [], h => by cases h
  | a :: t, c :: u, h => by
    obtain ⟨h1, h2⟩ := List.cons.inj h
    rw [V.str.inj h1, strs_inj h2]
theorem inrs_inj {t u : List Str} (h : t.map (Sum.inr : Str → Key) = u.map (Sum.inr : Str → Key)) : t = u := by
  have := congrArg (List.map kV) h
  rw [keyT, keyT] at this
  exact strs_inj this
theorem valV_tabK {fd : List (List Str)} {t : List Str} : (valV (kvTab fd) (t.map (Sum.inr : Str → Key))).isSome = decide (t ∈ fd) := by
  rw [← valV_any, Bool.eq_iff_iff, List.any_eq_true, decide_eq_true_iff]
  constructor
  · rintro ⟨q, hq, e⟩
    obtain ⟨u, hu, rfl⟩ := List.mem_map.mp hq
    rw [← inrs_inj (of_decide_eq_true e)]
    exact hu
  · intro h
    exact ⟨_, List.mem_map_of_mem h, decide_eq_true rfl⟩
theorem putK_tab {fd : List (List Str)} {t : List Str} (h : t ∉ fd) : putK (kvTab fd) (t.map (Sum.inr : Str → Key)) (.bl true) = kvTab (fd ++ [t]) := by
  have : valV (kvTab fd) (t.map (Sum.inr : Str → Key)) = none := by
    have := valV_tabK (fd := fd) (t := t)
    rw [decide_eq_false h] at this
    exact Option.isSome_eq_false_iff.mp this |> Option.isNone_iff_eq_none.mp
  rw [putK_new _ this]
  show _ = List.map _ (fd ++ [t])
  rw [List.map_append]
  rfl
theorem layT_tabs : ∀ {more acc : List (List Str)}, (acc ++ more).Nodup → layT (kvTab acc) (kvTab more) = kvTab (acc ++ more)
  | [], acc, _ => by rw [List.append_nil]; rfl
  | t :: more, acc, nd => by
    have nt : t ∉ acc := fun h => by
      rw [List.nodup_append] at nd
      exact nd.2.2 t h t (List.mem_cons_self ..) rfl
    show layT (putK (kvTab acc) (t.map Sum.inr) (.bl true)) (kvTab more) = _
    rw [putK_tab nt, layT_tabs (acc := acc ++ [t]) (by rw [List.append_assoc]; exact nd), List.append_assoc]
    rfl
def addT (acc : List (List Str)) (t : List Str) : List (List Str) := if t ∈ acc then acc else acc ++ [t]
theorem putK_add {fd : List (List Str)} {t : List Str} : putK (kvTab fd) (t.map (Sum.inr : Str → Key)) (.bl true) = kvTab (addT fd t) := by
  unfold addT
  by_cases h : t ∈ fd
  · rw [if_pos h]
    unfold putK
    rw [valV_any, valV_tabK, decide_eq_true h, if_pos rfl, List.map_map]
    refine List.map_congr_left fun u _ => ?_
    show (if u.map (Sum.inr : Str → Key) = t.map Sum.inr then (u.map (Sum.inr : Str → Key), V.bl true) else (u.map Sum.inr, V.bl true)) = _
    split <;> rfl
  · rw [if_neg h]
    exact putK_tab h
theorem layT_add : ∀ {more acc : List (List Str)}, layT (kvTab acc) (kvTab more) = kvTab (more.foldl addT acc)
  | [], acc => rfl
  | t :: more, acc => by
    show layT (putK (kvTab acc) (t.map Sum.inr) (.bl true)) (kvTab more) = _
    rw [putK_add, layT_add]
    rfl
theorem addT_mem {acc : List (List Str)} {t u : List Str} : u ∈ addT acc t ↔ u ∈ acc ∨ u = t := by
  unfold addT
  split
  · rename_i h
    exact ⟨.inl, fun z => z.elim id fun e => e ▸ h⟩
  · rw [List.mem_append, List.mem_singleton]
theorem foldT_mem : ∀ {more acc : List (List Str)} {u : List Str}, u ∈ more.foldl addT acc ↔ u ∈ acc ∨ u ∈ more
  | [], acc, u => by simp
  | t :: more, acc, u => by
    show u ∈ more.foldl addT (addT acc t) ↔ _
    rw [foldT_mem, addT_mem, List.mem_cons, or_assoc]
theorem foldT_nd : ∀ {more acc : List (List Str)}, acc.Nodup → (more.foldl addT acc).Nodup
  | [], acc, h => h
  | t :: more, acc, h => by
    refine foldT_nd (more := more) (acc := addT acc t) ?_
    unfold addT
    split
    · exact h
    · rename_i n
      rw [List.nodup_append]
      refine ⟨h, List.nodup_cons.mpr ⟨List.not_mem_nil, List.nodup_nil⟩, fun x hx y hy e => ?_⟩
      rw [List.mem_singleton.mp hy] at e
      exact n (e ▸ hx)
theorem keys_tabs {H : Hp} : ∀ {fd : List (List Str)} {bs : List Addr}, IsKeys H (kvTab fd) bs → Paired (fun q t => H q = some (.tup (sV t))) bs fd
  | [], _, h => by
    cases h
    exact .nil
  | t :: fd, _, h => by
    cases h with
    | cons a r =>
      refine .cons ?_ (keys_tabs r)
      have a : H _ = some (.tup ((t.map (Sum.inr : Str → Key)).map kV)) := a
      rw [keyT] at a
      exact a
def TAt (H : Hp) (q : Addr) (t : List Str) : Prop := H q = some (.tup (sV t))
def LdAt (b : Bd) (H : Hp) (v : V) (d : Str × List Str) : Prop := ∃ a, v = .ref a ∧ H a = some (.dK (kvS (b.names.zip d.2)))
def TInv (H1 : Hp) (a D F : Addr) (b : Bd) (m : Nat) (σ : L2.St) (H' : Hp) : Prop := ∃ (fd : List (List Str)) (nl : Addr) (bs : List Addr) (nw : List (List Str)) (c4 c5 c6 c7 : Option V), σ = [some (.ref a), some (.ref D), some (.ref F), some (.ref nl), c4, c5, c6, c7, none, none, none] ∧ Same H1 H' ∧ H' F = some (.dT (kvTab fd)) ∧ H' nl = some (.lst (bs.map V.ref)) ∧ Paired (TAt H') bs nw ∧ fd.Nodup ∧ (∀ t ∈ fd, IsTab (sdOf b) t) ∧ (∀ t ∈ nw, t ∈ fd) ∧ (∀ t ∈ fd, t ∈ nw ∨ ∀ d ∈ (sdOf b).deeds, tstep (sdOf b) d t ∈ fd) ∧ (∀ d ∈ (sdOf b).deeds, tabR (sdOf b) [d] ∈ fd) ∧ m = 2 * (3125 - fd.length) + (if nw = [] then 0 else 1)
/-- within a turn of the while: fur is what was found in it -/
def TIn (H1 H5 : Hp) (F U : Addr) (b : Bd) (fd fur : List (List Str)) (us : List Addr) (H' : Hp) : Prop := Same H1 H' ∧ Same (L2.del H5 F) (L2.del H' F) ∧ H' F = some (.dT (kvTab (fd ++ fur))) ∧ H' U = some (.lst (us.map V.ref)) ∧ Paired (TAt (L2.del (L2.del H' F) U)) us fur ∧ (fd ++ fur).Nodup ∧ ∀ t ∈ fur, IsTab (sdOf b) t
def spTables (K : PySem.W.Frag) : Sp := fun vs H Q _ => ∃ a b, vs = [.ref a] ∧ BdAtT K H a b ∧ b.Ok ∧
  ∀ H' p bs fd, Same H H' → H p = none → H' p = some (.lst (bs.map V.ref)) → Paired (TAt H') bs fd → (∀ t ∈ fd, IsTab (sdOf b) t) → (∀ r, r ≠ [] → Row (sdOf b) r → tabR (sdOf b) r ∈ fd) → Q (.ref p) H'
end Pl
end L2
namespace Bs
open PySem PySem.Spec PyProof.Rows L2 L2.Pl
section
variable {P : Program} {w : World} {K : PySem.W.Frag} {mg : Str → Option Value} {base : Heap} {f : Addr} {fd : FuncData}
abbrev NTb : List Str := ["base", "leads", "found", "newest", "further", "table", "lead", "later", "name", "row", "one"]
theorem scTables : FnScope NTb ["base"] (defScope sTables) := ⟨rfl, rfl, rfl, by decide +kernel, rfl, by decide +kernel, by decide +kernel⟩
theorem ok_tables (G : Gn mg) (F : FnP K "_law_tables" sTables f fd) : FnOk P w K mg base CX0 2 f fd ["base"] (spTables K) := by
  refine F.ok scTables (fun vs H Q E h => ?_) (fun cdv A outer s H vs Q E hr h => ?_)
  · obtain ⟨_, _, rfl, _⟩ := h
    rfl
  · obtain ⟨a, b, rfl, hb, ok, q⟩ := h
    have hu1 := hu_of (Room.in1 hr)
    have hu : (A.deeper (envOfC "_law_tables" (defScope sTables) s.heap.objs.size f cdv)).units < cLine := by
      have z := hr.un
      omega
    refine ⟨_, PSs.nox (pss_cons (ps_setLc (i := 1) (own := [("name", 8), ("row", 9)]) (g := gTup K 2 (gCons (gName 8) (gCons (gName 9) gNil))) (tt := tYes) (te := tCB (rDictQ K) (tCons (tListZip K (tCons (tOp (rIxT K) (tVar 0) (tC (.int 0))) (tCons (tVar 9) tNil))) tNil)) rfl scTables.nd rfl rfl (sw_true rfl rfl rfl (by decide +kernel)) (pi_tup (pe_ix ix_tup (pv 0) pe_int (fun _ _ => rfl))) (blkOk_by (N := NTb) (sc := defScope sTables) (by decide +kernel))
          (fun _ _ _ _ _ => pg_tup rfl (pgs_cons (pg_name (i := 8) scTables.nd rfl (.inl rfl)) (pgs_cons (pg_name (i := 9) scTables.nd rfl (.inl rfl)) pgs_nil))) (fun _ _ _ _ _ => pts_nil) (fun _ _ _ _ _ => pe_callTy (call_dictQ rfl) (by rfl) G.dict bDict (pa_cons (pe_listZip rfl (by rfl) G.list (by rfl) G.zip (pa_cons (pe_ix ix_tup (pv 0) pe_int (fun _ _ => rfl)) (pa_cons (pv 9) pa_nil))) pa_nil)))
      (pss_cons (ps_set (i := 2) scTables.nd rfl (.inl rfl) (pe_callTy (call_dictPH rfl hu1) (by rfl) G.dict bDict (pa_cons (pe_lc (own := [("name", 8), ("row", 9)]) (g := gTup K 2 (gCons (gName 8) (gCons (gName 9) gNil))) (tt := tYes) (te := tTup (tCons (tVar 9) (tCons (tC (.bl true)) tNil))) rfl scTables.nd (pi_tup (pe_ix ix_tup (pv 0) pe_int (fun _ _ => rfl))) (blkOk_by (N := NTb) (sc := defScope sTables) (by decide +kernel))
          (fun _ _ _ _ _ => pg_tup rfl (pgs_cons (pg_name (i := 8) scTables.nd rfl (.inl rfl)) (pgs_cons (pg_name (i := 9) scTables.nd rfl (.inl rfl)) pgs_nil))) (fun _ _ _ _ _ => pts_nil) (fun _ _ _ _ _ => pe_tup (pa_cons (pv 9) (pa_cons pe_bl pa_nil)))) pa_nil)))
      (pss_cons (ps_set (i := 3) scTables.nd rfl (.inl rfl) (pe_callTy (call_list_dT rfl) (by rfl) G.list bList (pa_cons (pv 2) pa_nil)))
      (pss_cons (ps_while PassesOwn.never (pt_cmpR (op_ne_nil hu) (pv 3) (pe_lst pa_nil) (nomark _))
        (pss_cons (ps_set (i := 4) scTables.nd rfl (.inl rfl) (pe_lst pa_nil))
        (pss_cons (ps_for PassesOwn.never rfl (pi_list (pv 3)) (pg_name (i := 5) scTables.nd rfl (.inl rfl))
          (pss_one (ps_for PassesOwn.never rfl (pi_list (pv 1)) (pg_name (i := 6) scTables.nd rfl (.inr rfl))
            (pss_cons (ps_set (i := 7) scTables.nd rfl (.inl rfl) (pe_callTy call_tuple_of (by rfl) G.tuple bTuple (pa_cons (pe_lc (own := [("one", 10)]) (g := gName 10) (tt := tYes) (te := tDGet (tVar 6) (tVar 10)) rfl scTables.nd (pi_tup (pv 5)) (blkOk_by (N := NTb) (sc := defScope sTables) (by decide +kernel)) (fun _ _ _ _ _ => pg_name (i := 10) scTables.nd rfl (.inl rfl)) (fun _ _ _ _ _ => pts_nil) (fun _ _ _ _ _ => pe_dget (hu_of hr) (pv 6) (pv 10) (fun _ _ => rfl))) pa_nil)))
            (pss_one (ps_if (pt_cmp (pc_dnotin (hu_of hr) (pv 7) (pv 2)))
              (pss_cons (ps_dput (hu_of hr) (pv 2) (pv 7) pe_bl rfl)
              (pss_one (ps_expr (pe_bm PySem.F.plainAttrs_list PySem.F.slot_list_append PySem.F.type_list_append mt_append (pv 4) (pa_cons (pv 7) pa_nil))))) pss_nil))))))
        (pss_one (ps_set (i := 3) scTables.nd rfl (.inl rfl) (pv 4))))))
      (pss_one (ps_ret (pe_callTy (call_list_dT rfl) (by rfl) G.list bList (pa_cons (pv 2) pa_nil)))))))), ?_⟩
    obtain ⟨an, ad, al, ps, h1, ⟨on, h2, hdn⟩, h3, h4, h5⟩ := id hb
    have nd := ok.nd
    have d4 := ok.d4
    have n1 := ok.n1
    have n5 := ok.n5
    have psl : ps.length = b.deeds.length := h4.length
    -- leads
    refine ⟨_, rfl, a, _, 1, .ref ad, rfl, rfl, h1, atI_nat (j := 1) rfl, ad, rfl, ⟨_, h3⟩, fun D hD => ?_⟩
    refine lc_tup (K := K) (a := ad) (xs := ps) (fun i H' => Same H H' ∧ ∃ vs, H' D = some (.lst vs) ∧ Paired (LdAt b (del H' D)) vs (b.deeds.take i)) ⟨same_new hD, [], upd_same, .nil⟩ (fun i H' _ ⟨m, _⟩ => seqT_same h3 m) (fun i y H1 hy ⟨m1, vs, hv, pr⟩ => ?_) (fun H1 ⟨m1, vs, hv, pr⟩ => ?_)
    · obtain ⟨d, hd, t, l, rfl, ht, hl⟩ := L2.paired_get h4 hy
      have din := List.mem_of_getElem? hd
      have dl := ok.dl d din
      refine ⟨t, _, rfl, seqT_same ht m1, rfl, _, [.ref l], rfl, _, [], rfl, rfl, rfl, iteT (B := Same H H1 ∧ ∃ vs, H1 D = some (.lst vs) ∧ Paired (LdAt b (del H1 D)) vs (b.deeds.take (i + 1))) ?_⟩
      refine ⟨_, rfl, a, _, 0, .ref an, rfl, rfl, seqT_same h1 m1, atI_nat (j := 0) rfl, _, rfl, an, l, sV b.names, sV d.2, rfl, .inl (.inr ⟨on, m1 _ _ h2⟩), SqT.up (m1 _ _ hl), by rw [List.length_map, List.length_map, dl], by rw [List.length_map]; omega, by rw [List.length_map]; omega, fun H2 p ts m2 p0 hp pp => ⟨p, ts, kvS (b.names.zip d.2), rfl, SqL.of hp, pairs_fwd pp, fun dd hdd => ?_⟩⟩
      rw [mergeK_zip nd dl]
      have m3 := m2.trans (same_new hdd (o := .dK (kvS (b.names.zip d.2))))
      have k2 := m3 _ _ hv
      have nDd : dd ≠ D := (ne_of_none (m2 _ _ hv) hdd).symm
      have vl : vs.length = (b.deeds.take i).length := pr.length
      rw [List.length_take] at vl
      refine ⟨vs, k2, small1000 (by omega), same_wr (m1.trans m3) hD, vs ++ [.ref dd], upd_same, ?_⟩
      have tk : b.deeds.take (i + 1) = b.deeds.take i ++ [d] := by
        rw [List.take_succ, hd]
        rfl
      rw [tk]
      have md : Same (del H1 D) (del (upd (upd H2 dd (.dK (kvS (b.names.zip d.2)))) D (.lst (vs ++ [.ref dd]))) D) := (del_mono m3).trans del_upd0
      refine (pr.mono fun v x ⟨a', e, z⟩ => ⟨a', e, md _ _ z⟩).snoc ⟨dd, rfl, del_of nDd ((upd_ne nDd).trans upd_same)⟩
    rw [show ps.length = b.deeds.length from psl, List.take_length] at pr
    -- found
    have h1' := seqT_same h1 m1
    have h3' := seqT_same h3 m1
    have h4' := h4.mono fun _ _ z => PairAtT.same z m1
    have prL : Paired (LdAt b H1) vs b.deeds := pr.mono fun v x ⟨a', e, z⟩ => ⟨a', e, (del_some z).2⟩
    refine ⟨_, rfl, a, _, 1, .ref ad, rfl, rfl, h1', atI_nat (j := 1) rfl, ad, rfl, ⟨_, h3'⟩, fun D2 hD2 => ?_⟩
    refine lc_tup (K := K) (a := ad) (xs := ps) (fun i H' => Same H1 H' ∧ ∃ qs : List Addr, H' D2 = some (.lst (qs.map V.ref)) ∧ Paired (fun p (kv : List Key × V) => ∃ l, SqT K (del H' D2) p [.ref l, kv.2] ∧ (del H' D2) l = some (.tup (kv.1.map kV))) qs (kvTab ((b.deeds.take i).map (·.2)))) ⟨same_new hD2, [], upd_same, .nil⟩ (fun i H' _ ⟨m, _⟩ => seqT_same h3' m) (fun i y H2 hy ⟨m2, qs, hq, pq⟩ => ?_) (fun H2 ⟨m2, qs, hq, pq⟩ => ?_)
    · obtain ⟨d, hd, t, l, rfl, ht, hl⟩ := L2.paired_get h4' hy
      refine ⟨t, _, rfl, seqT_same ht m2, rfl, _, [.ref l], rfl, _, [], rfl, rfl, rfl, iteT (B := Same H1 H2 ∧ ∃ qs : List Addr, H2 D2 = some (.lst (qs.map V.ref)) ∧ Paired (fun p (kv : List Key × V) => ∃ l, SqT K (del H2 D2) p [.ref l, kv.2] ∧ (del H2 D2) l = some (.tup (kv.1.map kV))) qs (kvTab ((b.deeds.take (i + 1)).map (·.2)))) ?_⟩
      refine ⟨_, rfl, by show 2 ≤ sizeLine; decide, fun T hT => ?_⟩
      have s3 := same_new hT (o := .tup [.ref l, .bl true])
      have nTD : T ≠ D2 := (ne_of_none hq hT).symm
      have hl2 := m2 _ _ hl
      have nlD : l ≠ D2 := fun z => by
        rw [z, hq] at hl2
        cases hl2
      have ql : qs.length = (kvTab ((b.deeds.take i).map (·.2))).length := pq.length
      rw [List.length_map, List.length_map, List.length_take] at ql
      refine ⟨qs.map V.ref, s3 _ _ hq, small1000 (by rw [List.length_map]; omega), same_wr (m2.trans s3) hD2, qs ++ [T], ?_, ?_⟩
      · rw [upd_same]
        show _ = some (HO.lst (List.map V.ref (qs ++ [T])))
        rw [List.map_append]
        rfl
      · have tk : kvTab ((b.deeds.take (i + 1)).map (·.2)) = kvTab ((b.deeds.take i).map (·.2)) ++ [(d.2.map (Sum.inr : Str → Key), V.bl true)] := by
          rw [List.take_succ, hd]
          show List.map _ (List.map _ (_ ++ [d])) = _
          rw [List.map_append, List.map_append]
          rfl
        rw [tk]
        have md : Same (del H2 D2) (del (upd (upd H2 T (.tup [.ref l, .bl true])) D2 (.lst (qs.map V.ref ++ [.ref T]))) D2) := (del_mono s3).trans del_upd0
        refine (pq.mono fun p kv ⟨l', z1, z2⟩ => ⟨l', seqT_same z1 md, md _ _ z2⟩).snoc ⟨l, SqT.up (del_of nTD ((upd_ne nTD).trans upd_same)), ?_⟩
        refine (del_of nlD ((upd_ne nlD).trans (s3 _ _ hl2))).trans ?_
        rw [keyT]
    rw [show ps.length = b.deeds.length from psl, List.take_length] at pq
    refine ⟨D2, qs, _, rfl, SqL.of hq, pq.mono fun p kv ⟨l', z1, z2⟩ => ⟨l', seqT_same z1 del_all, (del_some z2).2⟩, fun F hF => ?_⟩
    rw [show ([] : List (List Key × V)) = kvTab [] from rfl, layT_add]
    obtain ⟨fd0, ef⟩ : ∃ fd0, fd0 = (b.deeds.map (·.2)).foldl addT [] := ⟨_, rfl⟩
    rw [← ef]
    have nd0 : fd0.Nodup := by rw [ef]; exact foldT_nd List.nodup_nil
    have mem0 : ∀ t, t ∈ fd0 ↔ ∃ d ∈ b.deeds, d.2 = t := fun t => by
      rw [ef, foldT_mem, List.mem_map]
      exact ⟨fun z => z.elim (fun w => by cases w) id, .inr⟩
    have atF : (upd H2 F (.dT (kvTab fd0))) F = some (.dT (kvTab fd0)) := upd_same
    have s2F := m2.trans (same_new hF (o := .dT (kvTab fd0)))
    have F1 : H1 F = none := m2.free hF
    have m02 := m1.trans s2F
    generalize upd H2 F (.dT (kvTab fd0)) = H3 at *
    refine ⟨_, rfl, F, _, rfl, .inl atF, fun nl bs hnl ks => ?_⟩
    have s4 := same_new hnl (o := .lst (bs.map V.ref))
    have nlF : nl ≠ F := (ne_of_none atF hnl).symm
    have ks' := keys_tabs ks
    have tab0 : ∀ t ∈ fd0, IsTab (sdOf b) t := fun t ht => by
      obtain ⟨d, hd, rfl⟩ := (mem0 t).mp ht
      exact ⟨[d.1], (fun e => by cases e), row_one (by rw [deedsOf]; exact List.mem_map_of_mem hd), (leads_tab ok hd).symm⟩
    have all0 : ∀ d ∈ (sdOf b).deeds, tabR (sdOf b) [d] ∈ fd0 := fun d hd => by
      rw [deedsOf] at hd
      obtain ⟨e, he, rfl⟩ := List.mem_map.mp hd
      rw [leads_tab ok he]
      exact (mem0 _).mpr ⟨e, he, rfl⟩
    refine ⟨TInv H1 a D F b,
      ⟨_, fd0, nl, bs, fd0, none, none, none, none, rfl, s2F.trans s4, s4 _ _ atF, upd_same, ks'.mono fun _ _ z => s4 _ _ z, nd0, tab0, fun t ht => ht, fun t ht => .inl ht, all0, rfl⟩, ?_⟩
    clear atF s2F m02 ks ks' tab0 all0 nd0 mem0 s4 nlF hnl
    rintro m σ H4 ⟨fd, nl, bs, nw, c4, c5, c6, c7, rfl, m4, hF4, hn4, hb4, nd4, tb4, in4, cl4, al4, em⟩
    have few4 := tabs_few (sdOf_ok ok) nd4 tb4
    have lbs : bs.length = nw.length := hb4.length
    refine ⟨_, rfl, Nat.zero_le _, fun e he => ⟨nl, e, _, rfl, rfl, SqL.of ((upd_ne (ne_of_none hn4 he)).trans hn4), SqL.of upd_same, _, rfl, ?_⟩⟩
    have se := same_new he (o := .lst [])
    have m5 := m4.trans se
    have hF5 := se _ _ hF4
    have hn5 := se _ _ hn4
    have hb5 : Paired (TAt (upd H4 e (.lst []))) bs nw := hb4.mono fun _ _ z => se _ _ z
    generalize upd H4 e (.lst []) = H5 at *
    clear hb4 hn4 hF4 m4 se he
    cases nw with
    | nil =>
      cases bs with
      | cons _ _ => cases lbs
      | nil =>
        refine iteF ?_
        refine ⟨_, rfl, F, _, rfl, .inl hF5, fun p bs' hp ks => ?_⟩
        have s6 := same_new hp (o := .lst (bs'.map V.ref))
        exact q _ p bs' fd (m1.trans (m5.trans s6)) ((m1.trans m5).free hp) upd_same ((keys_tabs ks).mono fun _ _ z => s6 _ _ z) tb4 fun r hr hrow => tabs_all al4 (fun t ht => (cl4 t ht).resolve_left fun z => by cases z) _ r rfl hr hrow
    | cons t0 nw' =>
      cases bs with
      | nil => cases lbs
      | cons q0 bs' =>
      refine iteT ?_
      refine ⟨fun σ' H' => ∃ m', m' < m ∧ TInv H1 a D F b m' σ' H', fun σ' H' p => p, ?_⟩
      -- further = []
      refine ⟨Nat.zero_le _, fun U hU => ?_⟩
      have sU := same_new hU (o := .lst [])
      have nUF : U ≠ F := (ne_of_none hF5 hU).symm
      have m6 := m5.trans sU
      have U1 : H1 U = none := m5.free hU
      have hF6 := sU _ _ hF5
      have I6 : TIn H1 H5 F U b fd [] [] (upd H5 U (.lst [])) := ⟨m6, del_mono sU, by rw [List.append_nil]; exact hF6, upd_same, .nil, by rw [List.append_nil]; exact nd4, fun t ht => by cases ht⟩
      generalize upd H5 U (.lst []) = H6 at *
      generalize hL : q0 :: bs' = bs at *
      generalize hN : t0 :: nw' = nw at *
      have nlF : nl ≠ F := fun z => by
        rw [z, hF5] at hn5
        cases hn5
      have stay : ∀ {H'}, Same (del H5 F) (del H' F) → ∀ c o, c ≠ F → H5 c = some o → H' c = some o := fun m c o n e => (del_some (m c o (del_of n e))).2
      have nF : ∀ {q : Addr} {t : List Str}, TAt H5 q t → q ≠ F := fun h z => by
        unfold TAt at h
        rw [z, hF5] at h
        cases h
      refine ⟨_, rfl, nl, rfl, ⟨_, SqL.of (sU _ _ hn5)⟩, ?_⟩
      refine for_list (K := K) (a := nl) (xs := bs.map V.ref) (fun i σ H' => ∃ us fur c5 c6 c7, σ = [some (.ref a), some (.ref D), some (.ref F), some (.ref nl), some (.ref U), c5, c6, c7, none, none, none] ∧ TIn H1 H5 F U b fd fur us H' ∧ ∀ t ∈ nw.take i, ∀ d ∈ (sdOf b).deeds, tstep (sdOf b) d t ∈ fd ++ fur)
        ⟨[], [], _, _, _, rfl, I6, fun t ht => by
          rw [List.take_zero] at ht
          cases ht⟩ (fun i σ H' _ ⟨_, _, _, _, _, _, I, _⟩ => SqL.of (stay I.2.1 _ _ nlF hn5)) ?_ ?_
      · rintro i y σ H7 hi ⟨us, fur, c5, c6, c7, rfl, I7, pr7⟩
        obtain ⟨q, hq, rfl⟩ : ∃ q, bs[i]? = some q ∧ y = .ref q := by
          rw [List.getElem?_map] at hi
          cases c : bs[i]? with
          | none =>
            rw [c] at hi
            cases hi
          | some u =>
            rw [c] at hi
            exact ⟨u, rfl, (Option.some.inj hi).symm⟩
        obtain ⟨t, ht, qt⟩ := L2.paired_get hb5 hq
        have tin := in4 t (List.mem_of_getElem? ht)
        have ttab := tb4 t tin
        -- for lead in leads
        refine ⟨_, rfl, D, rfl, ⟨_, SqL.of (I7.1 _ _ hv)⟩, ?_⟩
        refine for_list (K := K) (a := D) (xs := vs) (fun j σ H' => ∃ us fur c6 c7, σ = [some (.ref a), some (.ref D), some (.ref F), some (.ref nl), some (.ref U), some (.ref q), c6, c7, none, none, none] ∧ TIn H1 H5 F U b fd fur us H' ∧ (∀ t ∈ nw.take i, ∀ d ∈ (sdOf b).deeds, tstep (sdOf b) d t ∈ fd ++ fur) ∧ ∀ d ∈ b.deeds.take j, tstep (sdOf b) d.1 t ∈ fd ++ fur)
          ⟨us, fur, _, _, rfl, I7, pr7, fun t ht => by
            rw [List.take_zero] at ht
            cases ht⟩ (fun j σ H' _ ⟨_, _, _, _, _, I, _⟩ => SqL.of (I.1 _ _ hv)) ?_ ?_
        · clear us fur c5 c6 c7 I7 pr7
          rintro j y σ H7 hj ⟨us, fur, c6, c7, rfl, I7, pr7, dn7⟩
          obtain ⟨d, hd, aD, rfl, hD⟩ := L2.paired_get prL hj
          have din := List.mem_of_getElem? hd
          have din' : d.1 ∈ (sdOf b).deeds := by rw [deedsOf]; exact List.mem_map_of_mem din
          obtain ⟨x1, x2, x3, x4, x5, x6, x7⟩ := I7
          have qt7 : H7 q = some (.tup (sV t)) := stay x2 _ _ (nF qt) qt
          have few7 := tabs_few (sdOf_ok ok) x6 fun t ht => (List.mem_append.mp ht).elim (tb4 t) (x7 t)
          have lt : t.length ≤ 5 := by
            rw [ttab.len]
            exact n5
          -- later = tuple([lead[one] for one in table])
          refine ⟨_, rfl, q, rfl, ⟨_, SqT.up qt7⟩, fun C hC => ?_⟩
          refine lc_tup (K := K) (a := q) (xs := sV t) (fun k H' => Same H7 H' ∧ H' C = some (.lst (sV ((tstep (sdOf b) d.1 t).take k)))) ⟨same_new hC, by rw [List.take_zero]; exact upd_same⟩ (fun k H' _ ⟨m, _⟩ => SqT.up (m _ _ qt7)) (fun k y H8 hy ⟨m8, hc8⟩ => ?_) (fun H8 ⟨m8, hc8⟩ => ?_)
          · obtain ⟨z, hz, rfl⟩ := str_at hy
            have zin := ttab.in_ (sdOf_ok ok) z (List.mem_of_getElem? hz)
            refine ⟨rfl, iteT (B := Same H7 H8 ∧ H8 C = some (.lst (sV ((tstep (sdOf b) d.1 t).take (k + 1))))) ?_⟩
            refine ⟨_, rfl, _, rfl, aD, _, rfl, (valV_lead ok din zin) ▸ DGet.k (k := Sum.inr z) (m8 _ _ (x1 _ _ hD)), _, hc8, small1000 (by have e : (tstep (sdOf b) d.1 t).length = t.length := List.length_map _; rw [List.length_map, List.length_take, e]; omega), same_wr m8 hC, ?_⟩
            rw [upd_same]
            have tk : (tstep (sdOf b) d.1 t).take (k + 1) = (tstep (sdOf b) d.1 t).take k ++ [(sdOf b).lead1 d.1 z] := by
              rw [List.take_succ]
              unfold tstep
              rw [List.getElem?_map, hz]
              rfl
            rw [tk]
            show _ = some (HO.lst (List.map V.str (_ ++ [_])))
            rw [List.map_append]
            rfl
          · rw [List.length_map, show t.length = (tstep (sdOf b) d.1 t).length from (List.length_map _).symm, List.take_length] at hc8
            refine ⟨C, _, rfl, .inl ⟨SqL.of hc8, fun l hl => ?_⟩⟩
            have s9 := m8.trans (same_new hl (o := .tup (sV (tstep (sdOf b) d.1 t))))
            have el : (upd H8 l (.tup (sV (tstep (sdOf b) d.1 t)))) l = some (.tup (((tstep (sdOf b) d.1 t).map (Sum.inr : Str → Key)).map kV)) := by
              rw [upd_same, keyT]
            have hF9 := s9 _ _ x3
            have hU9 := s9 _ _ x4
            have l7 : H7 l = none := m8.free hl
            have nlF' : l ≠ F := (ne_of_none x3 l7).symm
            have nlU : l ≠ U := (ne_of_none x4 l7).symm
            have tk : b.deeds.take (j + 1) = b.deeds.take j ++ [d] := by
              rw [List.take_succ, hd]
              rfl
            have p9 : Paired (TAt (del (del (upd H8 l (.tup (sV (tstep (sdOf b) d.1 t)))) F) U)) us fur := x5.mono fun _ _ z => (del_mono (del_mono s9)) _ _ z
            generalize upd H8 l (.tup (sV (tstep (sdOf b) d.1 t))) = H9 at *
            refine ⟨_, rfl, _, rfl, F, _, rfl, DGet.t hF9 el, _, rfl, ?_⟩
            rw [valV_tabK]
            by_cases c : tstep (sdOf b) d.1 t ∈ fd ++ fur
            · rw [decide_eq_true c]
              refine iteF ⟨us, fur, _, _, rfl, ⟨x1.trans s9, x2.trans (del_mono s9), hF9, hU9, p9, x6, x7⟩, pr7, fun e he => ?_⟩
              rw [tk] at he
              rcases List.mem_append.mp he with h | h
              · exact dn7 e h
              · rw [List.mem_singleton.mp h]
                exact c
            · rw [decide_eq_false c]
              refine iteT ⟨_, rfl, _, rfl, F, _, rfl, DPut.t hF9 el (by rw [List.length_map, sizeLine_eq]; omega), ?_⟩
              rw [putK_tab c]
              have u10 : (upd H9 F (.dT (kvTab (fd ++ fur ++ [tstep (sdOf b) d.1 t])))) U = some (.lst (us.map V.ref)) := (upd_ne (Ne.symm nUF |>.symm)).trans hU9
              have lus : us.length = fur.length := p9.length
              refine ⟨_, rfl, .inl ⟨rfl, _, SqL.of u10⟩, _, rfl, U, _, _, rfl, rfl, u10, by rw [List.length_map, sizeLine_eq]; rw [List.length_append] at few7; omega, ?_⟩
              have e12 : ∀ c o, c ≠ F → c ≠ U → H9 c = some o → (upd (upd H9 F (.dT (kvTab (fd ++ fur ++ [tstep (sdOf b) d.1 t])))) U (.lst (us.map V.ref ++ [.ref l]))) c = some o := fun c o h1 h2 e => (upd_ne h2).trans ((upd_ne h1).trans e)
              refine ⟨us ++ [l], fur ++ [tstep (sdOf b) d.1 t], _, _, rfl, ⟨same_wr (same_wr (x1.trans s9) F1) U1, fun c o z => ?_, ?_, ?_, ?_, ?_, fun u hu => ?_⟩, fun u hu e he => ?_, fun e he => ?_⟩
              · obtain ⟨n1, z⟩ := del_some z
                have n2 : c ≠ U := ne_of_none z hU
                exact del_of n1 (e12 c o n1 n2 (stay (x2.trans (del_mono s9)) c o n1 z))
              · rw [← List.append_assoc]
                exact (upd_ne (Ne.symm nUF)).trans upd_same
              · rw [upd_same]
                show _ = some (HO.lst (List.map V.ref (us ++ [l])))
                rw [List.map_append]
                rfl
              · refine (p9.mono fun q u z => ?_).snoc (del_of nlU (del_of nlF' (e12 l _ nlF' nlU (by rw [el, keyT]))))
                obtain ⟨z1, z⟩ := del_some z
                obtain ⟨z2, z⟩ := del_some z
                exact del_of z1 (del_of z2 (e12 q _ z2 z1 z))
              · rw [← List.append_assoc, List.nodup_append]
                exact ⟨x6, List.nodup_cons.mpr ⟨List.not_mem_nil, List.nodup_nil⟩, fun x hx y hy e => c (by rw [← List.mem_singleton.mp hy, ← e]; exact hx)⟩
              · rcases List.mem_append.mp hu with h | h
                · exact x7 u h
                · rw [List.mem_singleton.mp h]
                  exact ttab.step din'
              · rw [← List.append_assoc]
                exact List.mem_append_left _ (pr7 u hu e he)
              · rw [← List.append_assoc]
                rw [tk] at he
                rcases List.mem_append.mp he with h | h
                · exact List.mem_append_left _ (dn7 e h)
                · rw [List.mem_singleton.mp h]
                  exact List.mem_append_right _ (List.mem_singleton.mpr rfl)
        · clear us fur c5 c6 c7 I7 pr7
          rintro σ H7 ⟨us, fur, c6, c7, rfl, I7, pr7, dn7⟩
          rw [show vs.length = b.deeds.length from prL.length, List.take_length] at dn7
          refine ⟨us, fur, _, _, _, rfl, I7, fun u hu e he => ?_⟩
          rw [List.take_succ, ht] at hu
          rcases List.mem_append.mp hu with h | h
          · exact pr7 u h e he
          · rw [List.mem_singleton.mp h]
            rw [deedsOf] at he
            obtain ⟨d, hd, rfl⟩ := List.mem_map.mp he
            exact dn7 d hd
      · rintro σ H7 ⟨us, fur, c5, c6, c7, rfl, ⟨x1, x2, x3, x4, x5, x6, x7⟩, pr7⟩
        rw [List.length_map, lbs, List.take_length] at pr7
        have few7 := tabs_few (sdOf_ok ok) x6 fun t ht => (List.mem_append.mp ht).elim (tb4 t) (x7 t)
        rw [List.length_append] at few7
        refine ⟨_, rfl, ⟨_, ?_, fd ++ fur, U, us, fur, _, _, _, _, rfl, x1, x3, x4, x5.mono fun _ _ z => (del_some (del_some z).2).2, x6, fun t ht => (List.mem_append.mp ht).elim (tb4 t) (x7 t), fun t ht => List.mem_append_right _ ht, fun t ht => ?_, fun d hd => List.mem_append_left _ (al4 d hd), rfl⟩⟩
        · have e1 : (if nw = [] then 0 else 1) = 1 := by rw [← hN]; exact if_neg (by intro z; cases z)
          rw [em, List.length_append, e1]
          cases fur with
          | nil =>
            rw [if_pos rfl, List.length_nil]
            omega
          | cons x r =>
            rw [if_neg (by intro z; cases z)]
            rw [List.length_cons] at few7 ⊢
            omega
        · rcases List.mem_append.mp ht with h | h
          · rcases cl4 t h with z | z
            · exact .inr (pr7 t z)
            · exact .inr fun d hd => List.mem_append_left _ (z d hd)
          · exact .inl h
end
end Bs
set_option Elab.async false
set_option linter.all false
set_option maxRecDepth 100000
set_option maxHeartbeats 2000000
namespace L2
namespace Pl
section
variable {α δ : Type}
/-- the walk by levels: old is settled, new was met by rows of n -/
structure Lv (step : δ → α → α) (bad : α → Prop) (D : List δ) (s0 : α) (old new : List α) (n : Nat) : Prop where
  way : ∀ p ∈ new, ∃ r : List δ, (∀ d ∈ r, d ∈ D) ∧ r.length = n ∧ run step s0 r = p
  done : ∀ p ∈ old, ¬ bad p ∧ ∀ d ∈ D, step d p ∈ old ++ new
  all : ∀ r : List δ, (∀ d ∈ r, d ∈ D) → r.length ≤ n → run step s0 r ∈ old ++ new
  less : ∀ r : List δ, (∀ d ∈ r, d ∈ D) → r.length < n → run step s0 r ∈ old
  nodup : (old ++ new).Nodup
  owns : ∀ p ∈ old, ∃ r : List δ, (∀ d ∈ r, d ∈ D) ∧ run step s0 r = p
/-- amid a level: the first k of new are settled, but for the deeds behind ds of the k-th -/
structure Lv1 (step : δ → α → α) (bad : α → Prop) (D : List δ) (s0 : α) (old new fur : List α) (n k : Nat) : Prop where
  b : Lv step bad D s0 old new n
  way : ∀ p ∈ fur, ∃ r : List δ, (∀ d ∈ r, d ∈ D) ∧ r.length = n + 1 ∧ run step s0 r = p
  done : ∀ (i : Nat) p, i < k → new[i]? = some p → ¬ bad p ∧ ∀ d ∈ D, step d p ∈ old ++ new ++ fur
  nodup : (old ++ new ++ fur).Nodup
structure Lv2 (step : δ → α → α) (bad : α → Prop) (D : List δ) (s0 : α) (old new fur : List α) (n k : Nat) (p : α) (ds : List δ) : Prop where
  b : Lv1 step bad D s0 old new fur n k
  at_ : new[k]? = some p
  ok : ¬ bad p
  met : ∀ d ∈ ds, step d p ∈ old ++ new ++ fur
variable {step : δ → α → α} {bad : α → Prop} {D : List δ} {s0 : α} {old new fur : List α} {n k : Nat}
theorem Lv.begin : Lv step bad D s0 [] [s0] 0 where
  way := fun p hp => ⟨[], fun d h => (by cases h), rfl, (List.mem_singleton.mp hp).symm⟩
  done := fun p hp => by cases hp
  all := fun r _ hr => by
    rw [List.length_eq_zero_iff.mp (Nat.le_zero.mp hr)]
    exact List.mem_singleton.mpr rfl
  less := fun r _ hr => absurd hr (Nat.not_lt_zero _)
  nodup := List.nodup_cons.mpr ⟨fun z => (by cases z), .nil⟩
  owns := fun p hp => by cases hp
theorem Lv.least (L : Lv step bad D s0 old new n) {r : List δ} (hr : ∀ d ∈ r, d ∈ D) (hb : bad (run step s0 r)) : n ≤ r.length := by
  by_cases h : r.length < n
  · exact absurd hb (L.done _ (L.less r hr h)).1
  · omega
theorem Lv.none (L : Lv step bad D s0 old [] n) : ∀ (m : Nat) (r : List δ), r.length = m → (∀ d ∈ r, d ∈ D) → run step s0 r ∈ old := by
  intro m
  induction m with
  | zero =>
    intro r e hr
    have := L.all r hr (by omega)
    rwa [List.append_nil] at this
  | succ m ih =>
    intro r e hr
    obtain ⟨q, d, rfl⟩ : ∃ q d, r = q ++ [d] := ⟨_, _, (List.dropLast_concat_getLast (by intro h; rw [h] at e; cases e)).symm⟩
    rw [List.length_append, List.length_singleton] at e
    have := (L.done _ (ih q (by omega) fun d h => hr d (List.mem_append_left _ h))).2 d (hr d (List.mem_append_right _ (List.mem_singleton.mpr rfl)))
    rw [List.append_nil] at this
    rw [run_snoc]
    exact this
theorem Lv1.first (L : Lv step bad D s0 old new n) : Lv1 step bad D s0 old new [] n 0 := ⟨L, fun p hp => (by cases hp), fun i p h => absurd h (Nat.not_lt_zero _), by rw [List.append_nil]; exact L.nodup⟩
theorem Lv1.next (L : Lv1 step bad D s0 old new fur n new.length) : Lv step bad D s0 (old ++ new) fur (n + 1) where
  way := L.way
  done := fun p hp => by
    rcases List.mem_append.mp hp with hp | hp
    · obtain ⟨a1, a2⟩ := L.b.done p hp
      exact ⟨a1, fun d hd => List.mem_append_left _ (a2 d hd)⟩
    · obtain ⟨i, hi⟩ := List.mem_iff_getElem?.mp hp
      exact L.done i p (List.getElem?_eq_some_iff.mp hi).1 hi
  all := fun r hr hl => by
    by_cases h : r.length ≤ n
    · exact List.mem_append_left _ (L.b.all r hr h)
    · obtain ⟨q, d, rfl⟩ : ∃ q d, r = q ++ [d] := ⟨_, _, (List.dropLast_concat_getLast (by intro z; rw [z] at h; exact h (Nat.zero_le _))).symm⟩
      rw [List.length_append, List.length_singleton] at hl h
      have hd := hr d (List.mem_append_right _ (List.mem_singleton.mpr rfl))
      have hq := L.b.all q (fun d h => hr d (List.mem_append_left _ h)) (by omega)
      rw [run_snoc]
      rcases List.mem_append.mp hq with hq | hq
      · exact List.mem_append_left _ ((L.b.done _ hq).2 d hd)
      · obtain ⟨i, hi⟩ := List.mem_iff_getElem?.mp hq
        exact (L.done i _ (List.getElem?_eq_some_iff.mp hi).1 hi).2 d hd
  less := fun r hr hl => L.b.all r hr (by omega)
  nodup := L.nodup
  owns := fun p hp => by
    rcases List.mem_append.mp hp with hp | hp
    · exact L.b.owns p hp
    · obtain ⟨r, r1, _, r3⟩ := L.b.way p hp
      exact ⟨r, r1, r3⟩
theorem Lv2.first (L : Lv1 step bad D s0 old new fur n k) {p : α} (hp : new[k]? = some p) (ok : ¬ bad p) : Lv2 step bad D s0 old new fur n k p [] := ⟨L, hp, ok, fun d h => (by cases h)⟩
theorem Lv2.next {p : α} (L : Lv2 step bad D s0 old new fur n k p D) : Lv1 step bad D s0 old new fur n (k + 1) := ⟨L.b.b, L.b.way, fun i q hi hq => by
  by_cases h : i < k
  · exact L.b.done i q h hq
  · obtain rfl : i = k := by omega
    obtain rfl := Option.some.inj (L.at_.symm.trans hq)
    exact ⟨L.ok, L.met⟩, L.b.nodup⟩
theorem Lv2.seen {p : α} {ds : List δ} {d : δ} (L : Lv2 step bad D s0 old new fur n k p ds) (h : step d p ∈ old ++ new ++ fur) : Lv2 step bad D s0 old new fur n k p (ds ++ [d]) := ⟨L.b, L.at_, L.ok, fun c hc => by
  rcases List.mem_append.mp hc with hc | hc
  · exact L.met c hc
  · rw [List.mem_singleton.mp hc]
    exact h⟩
theorem Lv2.fresh {p : α} {ds : List δ} {d : δ} (L : Lv2 step bad D s0 old new fur n k p ds) (hd : d ∈ D) (h : step d p ∉ old ++ new ++ fur) : Lv2 step bad D s0 old new (fur ++ [step d p]) n k p (ds ++ [d]) := by
  have up : ∀ {q : α}, q ∈ old ++ new ++ fur → q ∈ old ++ new ++ (fur ++ [step d p]) := fun {q} hq => by
    rw [← List.append_assoc]
    exact List.mem_append_left _ hq
  refine ⟨⟨L.b.b, fun q hq => ?_, fun i q hi hq => ?_, ?_⟩, L.at_, L.ok, fun c hc => ?_⟩
  · rcases List.mem_append.mp hq with hq | hq
    · exact L.b.way q hq
    · obtain ⟨r, r1, r2, r3⟩ := L.b.b.way p (List.mem_of_getElem? L.at_)
      refine ⟨r ++ [d], fun c hc => ?_, by rw [List.length_append, r2]; rfl, by rw [run_snoc, r3, List.mem_singleton.mp hq]⟩
      rcases List.mem_append.mp hc with hc | hc
      · exact r1 c hc
      · rw [List.mem_singleton.mp hc]
        exact hd
  · obtain ⟨a1, a2⟩ := L.b.done i q hi hq
    exact ⟨a1, fun c hc => up (a2 c hc)⟩
  · rw [← List.append_assoc, List.nodup_append]
    refine ⟨L.b.nodup, List.nodup_cons.mpr ⟨fun z => (by cases z), .nil⟩, fun a ha b hb e => h ?_⟩
    rw [← List.mem_singleton.mp hb, ← e]
    exact ha
  · rcases List.mem_append.mp hc with hc | hc
    · exact up (L.met c hc)
    · rw [List.mem_singleton.mp hc, ← List.append_assoc]
      exact List.mem_append_right _ (List.mem_singleton.mpr rfl)
end
end Pl
end L2
namespace L2
namespace Pl
open PySem PySem.Spec PyProof.Rows
abbrev kvB (ps : List Pr) : List (List Key × V) := ps.map fun p => (keyP p, V.bl true)
theorem kvB_some {ps : List Pr} {p : Pr} (h : p ∈ ps) : (valV (kvB ps) (keyP p)).isSome = true := by
  unfold valV
  rw [Option.isSome_map, List.find?_isSome]
  exact ⟨(keyP p, V.bl true), List.mem_map.mpr ⟨p, h, rfl⟩, decide_eq_true rfl⟩
theorem kvB_none {ps : List Pr} {p : Pr} (h : p ∉ ps) : valV (kvB ps) (keyP p) = none := val_none fun q hq e => by
  obtain ⟨u, hu, rfl⟩ := List.mem_map.mp hq
  exact h (keyP_inj e ▸ hu)
def spFar (K : PySem.W.Frag) : Sp := fun vs H Q _ => ∃ a b x y, vs = [.ref a, .str x, .str y] ∧ BdAt K H a b ∧ b.Ok ∧ x ∈ b.names ∧ y ∈ b.names ∧
  (∀ (n : Nat) row H', Same H H' → Parts (sdOf b) x y row → row.length = n → (∀ r, Parts (sdOf b) x y r → n ≤ r.length) → Q (.int (n : Int)) H') ∧ (Alike (sdOf b) x y → ∀ H', Same H H' → Q .non H')
theorem deeds_sd (b : Bd) : (sdOf b).deeds = b.deeds.map (·.1) := by
  show (b.deeds.map fun d => (d.1, (b.names.zip d.2).reverse)).map (·.1) = _
  rw [List.map_map]
  rfl
def FInv (H0 : Hp) (a M : Addr) (b : Sd) (p0 : Pr) (m : Nat) (σ : St) (H : Hp) : Prop := ∃ (old new : List Pr) (n : Nat) (N : Addr) (ws : List Addr) (c6 c7 c8 c9 c10 : Option V),
  σ = [some (.ref a), some (.str p0.1), some (.str p0.2), some (.ref N), some (.ref M), some (.int (n : Int)), c6, c7, c8, c9, c10] ∧ Same H0 H ∧ H M = some (.dT (kvB (old ++ new))) ∧ H N = some (.lst (ws.map V.ref)) ∧ Paired (PairT (del H M)) ws new ∧ Lv (stepP b) (badP b) b.deeds p0 old new n ∧ m + old.length = 26
theorem lv_in {b : Sd} (ok : b.Ok) {p0 : Pr} (h1 : p0.1 ∈ b.names) (h2 : p0.2 ∈ b.names) {old new fur : List Pr} {n k : Nat} (L : Lv1 (stepP b) (badP b) b.deeds p0 old new fur n k) : ∀ p ∈ old ++ new ++ fur, p.1 ∈ b.names ∧ p.2 ∈ b.names := fun p hp => by
  obtain ⟨r, r1, r2⟩ : ∃ r : List Str, (∀ d ∈ r, d ∈ b.deeds) ∧ run (stepP b) p0 r = p := by
    rcases List.mem_append.mp hp with hp | hp
    · rcases List.mem_append.mp hp with hp | hp
      · exact L.b.owns p hp
      · obtain ⟨r, r1, _, r3⟩ := L.b.way p hp
        exact ⟨r, r1, r3⟩
    · obtain ⟨r, r1, _, r3⟩ := L.way p hp
      exact ⟨r, r1, r3⟩
  rw [run_lead] at r2
  rw [← r2]
  exact ⟨lead_in ok r1 h1, lead_in ok r1 h2⟩
theorem lv_few {b : Sd} (ok : b.Ok) {p0 : Pr} (h1 : p0.1 ∈ b.names) (h2 : p0.2 ∈ b.names) {old new fur : List Pr} {n k : Nat} (L : Lv1 (stepP b) (badP b) b.deeds p0 old new fur n k) : (old ++ new ++ fur).length ≤ 25 := by
  have h := nd_le (m := b.names.flatMap fun a => b.names.map fun c => (a, c)) L.nodup fun z hz => by
    obtain ⟨a1, a2⟩ := lv_in ok h1 h2 L z hz
    exact List.mem_flatMap.mpr ⟨_, a1, List.mem_map.mpr ⟨_, a2, rfl⟩⟩
  rw [pairs_len] at h
  have := Nat.mul_le_mul ok.n5 ok.n5
  omega
end Pl
end L2
namespace Bs
open PySem PySem.Spec PyProof.Rows L2 L2.Pl
section
variable {P : Program} {w : World} {K : PySem.W.Frag} {mg : Str → Option Value} {base : Heap} {f : Addr} {fd : FuncData}
abbrev NFa : List Str := ["base", "one", "other", "newest", "met", "many", "further", "first", "second", "deed", "pair"]
theorem scFar : FnScope NFa ["base", "one", "other"] (defScope sFar) := ⟨rfl, rfl, rfl, by decide +kernel, rfl, by decide +kernel, by decide +kernel⟩
theorem ok_far (F : FnP K "_law_far" sFar f fd) (hS : Has P w K mg base CX0 "_law_seen" 1 ["base", "standing"] (spSeen K)) (hD : Has P w K mg base CX0 "_law_deeds" 1 ["base"] (spDeeds K)) (hL : Has P w K mg base CX0 "_law_led" 1 ["base", "standing", "row"] (spLed K)) : FnOk P w K mg base CX0 2 f fd ["base", "one", "other"] (spFar K) := by
  obtain ⟨fS, dS, oS, bS, gS, kS⟩ := hS.ex
  obtain ⟨fD, dD, oD, bD, gD, kD⟩ := hD.ex
  obtain ⟨fL, dL, oL, bL, gL, kL⟩ := hL.ex
  refine F.ok scFar (fun vs H Q E h => ?_) (fun cdv A outer s H vs Q E hr h => ?_)
  · obtain ⟨_, _, _, _, rfl, _⟩ := h
    rfl
  · obtain ⟨a, b, x, y, rfl, hB, ok, hx, hy, q1, q2⟩ := h
    have hu : (A.deeper (envOfC "_law_far" (defScope sFar) s.heap.objs.size f cdv)).units < cLine := by
      have z := hr.un
      omega
    refine ⟨_, PSs.nox (pss_cons (ps_par3 (i := 3) (j := 4) (l := 5) rfl scFar.nd rfl rfl rfl (by decide) (by decide) (by decide) rfl rfl rfl (pa_cons (pe_lst (pa_cons (pe_tup (pa_cons (pv 1) (pa_cons (pv 2) pa_nil))) pa_nil)) (pa_cons (pe_dispT (hu_of hr) (pe_tup (pa_cons (pv 1) (pa_cons (pv 2) pa_nil))) pe_bl) (pa_cons pe_int pa_nil))) rfl)
      (pss_cons (ps_while PassesOwn.never (pt_cmpR (op_ne_nil hu) (pv 3) (pe_lst pa_nil) (nomark _))
        (pss_cons (ps_set (i := 6) scFar.nd rfl (.inl rfl) (pe_lst pa_nil))
        (pss_cons (ps_for PassesOwn.never rfl (pi_list (pv 3)) (pg_tup rfl (pgs_cons (pg_name (i := 7) scFar.nd rfl (.inl rfl)) (pgs_cons (pg_name (i := 8) scFar.nd rfl (.inl rfl)) pgs_nil)))
          (pss_cons (ps_if (pt_cmpR op_ne (pe_call oS hr (by rfl) gS kS bS .nil pass0 (pa_cons (pv 0) (pa_cons (pv 7) pa_nil))) (pe_call oS hr (by rfl) gS kS bS .nil pass0 (pa_cons (pv 0) (pa_cons (pv 8) pa_nil))) (nomark _)) (pss_one (ps_ret (pv 5))) pss_nil)
          (pss_one (ps_for PassesOwn.never rfl (pi_list (pe_call oD hr (by rfl) gD kD bD .nil pass0 (pa_cons (pv 0) pa_nil))) (pg_name (i := 9) scFar.nd rfl (.inl rfl))
            (pss_cons (ps_set (i := 10) scFar.nd rfl (.inl rfl) (pe_tup (pa_cons (pe_call oL hr (by rfl) gL kL bL .nil pass0 (pa_cons (pv 0) (pa_cons (pv 7) (pa_cons (pe_lst (pa_cons (pv 9) pa_nil)) pa_nil)))) (pa_cons (pe_call oL hr (by rfl) gL kL bL .nil pass0 (pa_cons (pv 0) (pa_cons (pv 8) (pa_cons (pe_lst (pa_cons (pv 9) pa_nil)) pa_nil)))) pa_nil))))
            (pss_one (ps_if (pt_cmp (pc_dnotin (hu_of hr) (pv 10) (pv 4)))
              (pss_cons (ps_dput (hu_of hr) (pv 4) (pv 10) pe_bl rfl)
              (pss_one (ps_expr (pe_bm PySem.F.plainAttrs_list PySem.F.slot_list_append PySem.F.type_list_append mt_append (pv 6) (pa_cons (pv 10) pa_nil))))) pss_nil)))))))
        (pss_one (ps_par (i := 3) (j := 5) rfl scFar.nd rfl rfl (by decide) rfl rfl (pa_cons (pv 6) (pa_cons (pe_op op_add (pv 5) pe_int) pa_nil)) rfl)))))
      (pss_one (ps_ret pe_non)))), ?_⟩
    have ok2 := sdOf_ok ok
    have hdd := deeds_sd b
    refine ⟨_, rfl, _, rfl, by show 2 ≤ sizeLine; decide, fun T0 hT0 => ⟨by show 1 ≤ sizeLine; decide, fun N hN M hM => ?_⟩⟩
    refine ⟨_, rfl, _, rfl, by show 2 ≤ sizeLine; decide, fun T1 hT1 => ?_⟩
    have a0 : Same H (upd H T0 (.tup [.str x, .str y])) := same_new hT0
    have a1 := a0.trans (same_new (o := .lst [.ref T0]) hN)
    have a2 := a1.trans (same_new (o := .dT []) hM)
    have a3 := a2.trans (same_new (o := .tup [.str x, .str y]) hT1)
    have M0 : H M = none := a1.free hM
    have nMT1 : M ≠ T1 := ne_of_none upd_same hT1
    have nNM : N ≠ M := ne_of_none upd_same hM
    have nT0N : T0 ≠ N := ne_of_none upd_same hN
    have atT0 := (same_new (o := .tup [.str x, .str y]) hT1) _ _ ((same_new (o := .dT []) hM) _ _ ((same_new (o := .lst [.ref T0]) hN) _ _ (upd_same : (upd H T0 (.tup [.str x, .str y])) T0 = _)))
    have atN := (same_new (o := .tup [.str x, .str y]) hT1) _ _ ((same_new (o := .dT []) hM) _ _ (upd_same : (upd (upd H T0 (.tup [.str x, .str y])) N (.lst [.ref T0])) N = _))
    have nT0M : T0 ≠ M := ne_of_none ((same_new (o := .lst [.ref T0]) hN) _ _ (upd_same : (upd H T0 (.tup [.str x, .str y])) T0 = _)) hM
    refine ⟨(upd_ne nMT1).trans upd_same, T1, keyP (x, y), rfl, upd_same, .ref N, .ref M, .int 0, rfl, ?_⟩
    have a4 : Same H (upd (upd (upd (upd (upd H T0 (.tup [.str x, .str y])) N (.lst [.ref T0])) M (.dT [])) T1 (.tup [.str x, .str y])) M (.dT [(keyP (x, y), .bl true)])) := same_wr a3 M0
    refine ⟨FInv H a M (sdOf b) (x, y), ⟨26, [], [(x, y)], 0, N, [T0], none, none, none, none, none, rfl, a4, upd_same, (upd_ne nNM).trans atN, .cons (del_of nT0M ((upd_ne nT0M).trans atT0)) .nil, Lv.begin, rfl⟩, ?_⟩
    rintro m σ H2 ⟨old, new, n, N, ws, c6, c7, c8, c9, c10, rfl, m2, hMm, hNn, hws, L, hm⟩
    have lw := hws.length
    refine ⟨_, rfl, Nat.zero_le _, fun eb heb => ⟨N, eb, ws.map V.ref, rfl, rfl, SqL.of ((upd_ne (ne_of_none hNn heb)).trans hNn), SqL.of upd_same, _, rfl, ?_⟩⟩
    have s3 : Same H2 (upd H2 eb (.lst [])) := same_new heb
    cases ws with
    | nil =>
      obtain rfl : new = [] := List.length_eq_zero_iff.mp (by rw [← lw]; rfl)
      refine iteF (q2 (fun r hr => ?_) _ (m2.trans s3))
      have h9 := L.none r.length r rfl hr.1
      refine (L.done _ h9).1 ?_
      rw [run_lead]
      exact hr.2
    | cons t0 wr =>
      have L1 := Lv1.first L
      have fw1 := lv_few ok2 hx hy L1
      rw [List.length_append, List.length_append] at fw1
      have wpos : 0 < new.length := by rw [← lw]; exact Nat.succ_pos _
      refine iteT ⟨fun σ' H' => ∃ m', m' < m ∧ FInv H a M (sdOf b) (x, y) m' σ' H', fun σ' H' p => p, Nat.zero_le _, fun F hF => ?_⟩
      generalize hws' : t0 :: wr = ws at *
      clear hws' t0 wr
      have m3 := m2.trans s3
      have M3 := s3 _ _ hMm
      have N3 := s3 _ _ hNn
      have hws3 := hws.mono fun _ _ q => del_mono s3 _ _ q
      generalize upd H2 eb (.lst []) = H3 at *
      have F0 : H F = none := m3.free hF
      have nFM : M ≠ F := ne_of_none M3 hF
      have nFN : N ≠ F := ne_of_none N3 hF
      have nNM' : N ≠ M := fun z => by
        rw [z, M3] at N3
        cases N3
      have s4 : Same H3 (upd H3 F (.lst [])) := same_new hF
      refine ⟨_, rfl, N, rfl, ⟨_, SqL.of (s4 _ _ N3)⟩, ?_⟩
      refine for_list (K := K) (a := N) (xs := ws.map V.ref) (fun k σ H' => ∃ (fur : List Pr) (fs : List Addr) (c7 c8 c9 c10 : Option V), σ = [some (.ref a), some (.str x), some (.str y), some (.ref N), some (.ref M), some (.int (n : Int)), some (.ref F), c7, c8, c9, c10] ∧ Same H H' ∧ H' M = some (.dT (kvB (old ++ new ++ fur))) ∧ H' N = some (.lst (ws.map V.ref)) ∧ H' F = some (.lst (fs.map V.ref)) ∧
          Paired (PairT (vw M F H')) ws new ∧ Paired (PairT (vw M F H')) fs fur ∧ Lv1 (stepP (sdOf b)) (badP (sdOf b)) (sdOf b).deeds (x, y) old new fur n k)
        ⟨[], [], c7, c8, c9, c10, rfl, m3.trans s4, by rw [List.append_nil]; exact s4 _ _ M3, s4 _ _ N3, upd_same, hws3.mono fun t p q => ?_, .nil, L1⟩ (fun k σ H' _ ⟨_, _, _, _, _, _, _, _, _, e, _⟩ => SqL.of e) ?_ ?_
      · obtain ⟨z1, z2⟩ := del_some q
        exact vw_of z1 (ne_of_none z2 hF) (s4 _ _ z2)
      · rintro k y1 σ H5 hk ⟨fur, fs, c7, c8, c9, c10, rfl, m5, M5, N5, F5, hws5, hfs5, L5⟩
        obtain ⟨t, htk, rfl⟩ : ∃ t, ws[k]? = some t ∧ y1 = .ref t := by
          rw [List.getElem?_map] at hk
          cases e : ws[k]? with
          | none =>
            rw [e] at hk
            cases hk
          | some u =>
            rw [e] at hk
            exact ⟨u, rfl, (Option.some.inj hk).symm⟩
        obtain ⟨p, hpk, hpt⟩ := L2.paired_get hws5 htk
        obtain ⟨_, _, hpt5⟩ := vw_get hpt
        obtain ⟨in1, in2⟩ := lv_in ok2 hx hy L5 p (List.mem_append_left _ (List.mem_append_right _ (List.mem_of_getElem? hpk)))
        refine ⟨t, _, rfl, .inl (.inl hpt5), rfl, _, [.str p.2], rfl, _, [], rfl, rfl, ?_⟩
        refine ⟨_, rfl, _, rfl, a, b, p.1, rfl, hB.same m5, ok, in1, _, rfl, _, rfl, a, b, p.2, rfl, hB.same m5, ok, in2, rfl, _, rfl, ?_⟩
        by_cases hb : (sdOf b).look p.1 = (sdOf b).look p.2
        · refine iteNS (congrArg V.str hb) ⟨_, rfl, a, b, rfl, hB.same m5, ok, fun H6 Dd m6 hDd0 hDd => ⟨Dd, rfl, ⟨_, SqL.of hDd⟩, ?_⟩⟩
          have ld : (sV (b.deeds.map (·.1))).length = (sdOf b).deeds.length := by rw [hdd, List.length_map]
          have nDM : Dd ≠ M := fun z => by rw [z, M5] at hDd0; cases hDd0
          have nDF : Dd ≠ F := fun z => by rw [z, F5] at hDd0; cases hDd0
          refine for_list (K := K) (a := Dd) (xs := sV (b.deeds.map (·.1))) (fun i σ H' => ∃ (fur : List Pr) (fs : List Addr) (c9 c10 : Option V), σ = [some (.ref a), some (.str x), some (.str y), some (.ref N), some (.ref M), some (.int (n : Int)), some (.ref F), some (.str p.1), some (.str p.2), c9, c10] ∧ Same H H' ∧ H' M = some (.dT (kvB (old ++ new ++ fur))) ∧ H' N = some (.lst (ws.map V.ref)) ∧ H' F = some (.lst (fs.map V.ref)) ∧ H' Dd = some (.lst (sV (b.deeds.map (·.1)))) ∧
              Paired (PairT (vw M F H')) ws new ∧ Paired (PairT (vw M F H')) fs fur ∧ Lv2 (stepP (sdOf b)) (badP (sdOf b)) (sdOf b).deeds (x, y) old new fur n k p ((sdOf b).deeds.take i))
            ⟨fur, fs, c9, c10, rfl, m5.trans m6, m6 _ _ M5, m6 _ _ N5, m6 _ _ F5, hDd, hws5.mono fun _ _ q => vw_same m6 _ _ q, hfs5.mono fun _ _ q => vw_same m6 _ _ q, Lv2.first L5 hpk fun h => h hb⟩ (fun i σ H' _ ⟨_, _, _, _, _, _, _, _, _, e, _⟩ => SqL.of e) ?_ ?_
          · rintro i y2 σ H7 hi ⟨fur, fs, c9, c10, rfl, m7, M7, N7, F7, D7, hws7, hfs7, L7⟩
            obtain ⟨d, hd, rfl⟩ : ∃ d, (b.deeds.map (·.1))[i]? = some d ∧ y2 = .str d := by
              rw [List.getElem?_map] at hi
              cases e : (b.deeds.map (·.1))[i]? with
              | none =>
                rw [e] at hi
                cases hi
              | some u =>
                rw [e] at hi
                exact ⟨u, rfl, (Option.some.inj hi).symm⟩
            have hdin := List.mem_of_getElem? hd
            refine ⟨_, rfl, _, rfl, _, rfl, by show 1 ≤ sizeLine; decide, fun l1 hl1 => ?_⟩
            have s8 : Same H7 (upd H7 l1 (.lst [.str d])) := same_new hl1
            refine ⟨a, b, p.1, l1, [d], rfl, hB.same (m7.trans s8), ok, in1, SqL.of upd_same, fun c hc => List.mem_singleton.mp hc ▸ hdin, fun H8 m8 => ?_⟩
            have s78 := s8.trans m8
            refine ⟨_, rfl, _, rfl, _, rfl, by show 1 ≤ sizeLine; decide, fun l2 hl2 => ?_⟩
            have s9 : Same H8 (upd H8 l2 (.lst [.str d])) := same_new hl2
            refine ⟨a, b, p.2, l2, [d], rfl, hB.same (m7.trans (s78.trans s9)), ok, in2, SqL.of upd_same, fun c hc => List.mem_singleton.mp hc ▸ hdin, fun H9 m9 => ⟨by show 2 ≤ sizeLine; decide, fun T3 hT3 => ?_⟩⟩
            have s79 := s78.trans (s9.trans m9)
            have sT : Same H9 (upd H9 T3 (.tup [.str ((sdOf b).lead p.1 [d]), .str ((sdOf b).lead p.2 [d])])) := same_new hT3
            have T3at : (upd H9 T3 (.tup [.str ((sdOf b).lead p.1 [d]), .str ((sdOf b).lead p.2 [d])])) T3 = some (.tup [.str ((sdOf b).lead p.1 [d]), .str ((sdOf b).lead p.2 [d])]) := upd_same
            have nTM : T3 ≠ M := (ne_of_none (s79 _ _ M7) hT3).symm
            have nTF : T3 ≠ F := (ne_of_none (s79 _ _ F7) hT3).symm
            have s7T := s79.trans sT
            generalize upd H9 T3 (.tup [.str ((sdOf b).lead p.1 [d]), .str ((sdOf b).lead p.2 [d])]) = H10 at *
            have m10 := m7.trans s7T
            have few := lv_few ok2 hx hy L7.b
            have lfs := hfs7.length
            refine ⟨_, rfl, _, rfl, M, _, rfl, DGet.t (k := keyP (stepP (sdOf b) d p)) (s7T _ _ M7) T3at, _, rfl, ?_⟩
            have hd2 : (sdOf b).deeds[i]? = some d := by rw [hdd]; exact hd
            have tk : (sdOf b).deeds.take (i + 1) = (sdOf b).deeds.take i ++ [d] := by
              rw [List.take_succ, hd2]
              rfl
            by_cases hin : stepP (sdOf b) d p ∈ old ++ new ++ fur
            · rw [kvB_some hin]
              refine iteF ⟨fur, fs, some (.str d), some (.ref T3), rfl, m10, s7T _ _ M7, s7T _ _ N7, s7T _ _ F7, s7T _ _ D7, hws7.mono fun _ _ q => vw_same s7T _ _ q, hfs7.mono fun _ _ q => vw_same s7T _ _ q, ?_⟩
              rw [tk]
              exact L7.seen hin
            · have v3 := kvB_none hin
              rw [v3]
              refine iteT ⟨_, rfl, _, rfl, M, _, rfl, DPut.t (k := keyP (stepP (sdOf b) d p)) (s7T _ _ M7) T3at (small1000 (by rw [List.length_map]; omega)), ?_⟩
              rw [putK_new _ v3]
              have F11 : (upd H10 M (.dT (kvB (old ++ new ++ fur) ++ [(keyP (stepP (sdOf b) d p), .bl true)]))) F = some (.lst (fs.map V.ref)) := (upd_ne nFM.symm).trans (s7T _ _ F7)
              refine ⟨_, rfl, .inl ⟨rfl, _, SqL.of F11⟩, _, rfl, F, _, .ref T3, rfl, rfl, F11, small1000 (by rw [List.length_map, lfs]; rw [List.length_append] at few; omega), ?_⟩
              have v12 : Same (vw M F H10) (vw M F (upd (upd H10 M (.dT (kvB (old ++ new ++ fur) ++ [(keyP (stepP (sdOf b) d p), .bl true)]))) F (.lst (fs.map V.ref ++ [.ref T3])))) := vw_R.trans vw_W
              have v8 := (vw_same (R := M) (W := F) s7T).trans v12
              have M0' : H M = none := M0
              refine ⟨fur ++ [stepP (sdOf b) d p], fs ++ [T3], some (.str d), some (.ref T3), rfl, same_wr (same_wr m10 M0') F0, ?_, ?_, ?_, ?_, hws7.mono fun _ _ q => v8 _ _ q, ?_, ?_⟩
              · rw [upd_ne nFM, upd_same, ← List.append_assoc]
                show some (HO.dT (kvB (old ++ new ++ fur) ++ [(keyP (stepP (sdOf b) d p), V.bl true)])) = some (HO.dT (List.map _ (old ++ new ++ fur ++ [stepP (sdOf b) d p])))
                rw [List.map_append]
                rfl
              · exact (upd_ne nFN).trans ((upd_ne nNM').trans (s7T _ _ N7))
              · rw [upd_same, List.map_append]
                rfl
              · exact (upd_ne nDF).trans ((upd_ne nDM).trans (s7T _ _ D7))
              · exact (hfs7.mono fun _ _ q => v8 _ _ q).snoc (v12 _ _ (vw_of nTM nTF T3at))
              · rw [tk]
                exact L7.fresh (by rw [hdd]; exact hdin) hin
          · rintro σ H7 ⟨fur, fs, c9, c10, rfl, m7, M7, N7, F7, D7, hws7, hfs7, L7⟩
            rw [ld, List.take_length] at L7
            exact ⟨fur, fs, _, _, c9, c10, rfl, m7, M7, N7, F7, hws7, hfs7, L7.next⟩
        · rw [show decide (V.str ((sdOf b).look p.1) = V.str ((sdOf b).look p.2)) = false from decide_eq_false fun e => hb (V.str.inj e)]
          obtain ⟨r, r1, r2, r3⟩ := L.way p (List.mem_of_getElem? hpk)
          rw [run_lead] at r3
          refine iteT ⟨_, rfl, q1 n r H5 m5 ⟨r1, ?_⟩ r2 fun r' hr' => ?_⟩
          · have e3 := congrArg Prod.fst r3
            have e4 := congrArg Prod.snd r3
            dsimp only at e3 e4
            rw [e3, e4]
            exact hb
          · refine L.least hr'.1 ?_
            rw [run_lead]
            exact hr'.2
      · rintro σ H5 ⟨fur, fs, c7, c8, c9, c10, rfl, m5, M5, N5, F5, hws5, hfs5, L5⟩
        rw [List.length_map, lw] at L5
        refine ⟨_, rfl, _, rfl, n, 1, rfl, rfl, _, _, rfl, 26 - (old ++ new).length, by rw [List.length_append]; omega, old ++ new, fur, n + 1, F, fs, some (.ref F), c7, c8, c9, c10, rfl, m5, M5, F5, hfs5.mono fun _ _ q => ?_, L5.next, by rw [List.length_append]; omega⟩
        obtain ⟨z1, z2, z3⟩ := vw_get q
        exact del_of z1 z3
end
end Bs
set_option Elab.async false
set_option linter.all false
set_option maxRecDepth 100000
set_option maxHeartbeats 4000000
namespace L2
namespace Pl
open PySem PySem.Spec PyProof.Rows
/-- what the law's own walk tells of a couple -/
def DueAt (b : Sd) (y z : Str) (v : V) : Prop := (∃ (n : Nat) (row : List Str), v = .int (n : Int) ∧ Parts b y z row ∧ row.length = n ∧ ∀ r, Parts b y z r → n ≤ r.length) ∨ (v = .non ∧ Alike b y z)
theorem far_use {K : PySem.W.Frag} {H : Hp} {a : Addr} {b : Bd} {x y : Str} {Q : VK} {E : XK} (hb : BdAt K H a b) (ok : b.Ok) (hx : x ∈ b.names) (hy : y ∈ b.names) (q : ∀ v H', Same H H' → DueAt (sdOf b) x y v → Q v H') : spFar K [.ref a, .str x, .str y] H Q E :=
  ⟨a, b, x, y, rfl, hb, ok, hx, hy, fun n row H' m hp hl hm => q _ H' m (.inl ⟨n, row, rfl, hp, hl, hm⟩), fun al H' m => q _ H' m (.inr ⟨rfl, al⟩)⟩
end Pl
end L2
set_option Elab.async false
set_option linter.all false
set_option maxRecDepth 100000
set_option maxHeartbeats 4000000
namespace L2
namespace Pl
open PySem PySem.Spec PyProof.Rows
def CanF (b : Sd) (z y : Str) : Prop := ∃ r, Pl.Row b r ∧ b.lead z r = y
theorem CanF.refl {b : Sd} (z : Str) : CanF b z z := ⟨[], (fun d hd => by cases hd), rfl⟩
theorem CanF.step {b : Sd} {z y d : Str} (h : CanF b z y) (hd : d ∈ b.deeds) : CanF b z (b.lead1 d y) := by
  obtain ⟨r, hr, rfl⟩ := h
  exact ⟨r ++ [d], row_app hr (fun c hc => List.mem_singleton.mp hc ▸ hd), by rw [lead_app]; rfl⟩
theorem CanF.in_ {b : Sd} (ok : b.Ok) {z y : Str} (hz : z ∈ b.names) (h : CanF b z y) : y ∈ b.names := by
  obtain ⟨r, hr, rfl⟩ := h
  exact lead_in ok hr hz
theorem canF_shut {b : Sd} {F : List Str} {z : Str} (h0 : z ∈ F) (hs : ∀ y ∈ F, ∀ d ∈ b.deeds, b.lead1 d y ∈ F) {y : Str} (h : CanF b z y) : y ∈ F := by
  obtain ⟨r, hr, rfl⟩ := h
  have : ∀ (r : List Str) (y : Str), y ∈ F → Pl.Row b r → b.lead y r ∈ F := by
    intro r
    induction r with
    | nil => exact fun y hy _ => hy
    | cons d r ih => exact fun y hy hr => ih (b.lead1 d y) (hs y hy d (hr d (List.mem_cons_self ..))) fun c hc => hr c (List.mem_cons_of_mem _ hc)
  exact this r _ h0 hr
def spFrom (K : PySem.W.Frag) : Sp := fun vs H Q _ => ∃ a b z, vs = [.ref a, .str z] ∧ BdAt K H a b ∧ b.Ok ∧ z ∈ b.names ∧ ∀ H' p F, Same H H' → H p = none → H' p = some (.lst (sV F)) → F.length ≤ 5 → (∀ y, y ∈ F ↔ CanF (sdOf b) z y) → Q (.ref p) H'
/-- the walk with a list: the first n are settled -/
structure Frm (b : Sd) (z : Str) (fo : List Str) (n : Nat) : Prop where
  nd : fo.Nodup
  can : ∀ y ∈ fo, CanF b z y
  start : z ∈ fo
  shut : ∀ (i : Nat) (y : Str), i < n → fo[i]? = some y → ∀ d ∈ b.deeds, b.lead1 d y ∈ fo
theorem Frm.few {b : Sd} (ok : b.Ok) {z : Str} (hz : z ∈ b.names) {fo : List Str} {n : Nat} (F : Frm b z fo n) : fo.length ≤ 5 := by
  have h := nd_le (m := b.names) F.nd fun y hy => (F.can y hy).in_ ok hz
  have := ok.n5
  omega
end Pl
end L2
namespace Bs
open PySem PySem.Spec PyProof.Rows L2 L2.Pl
section
variable {P : Program} {w : World} {K : PySem.W.Frag} {mg : Str → Option Value} {base : Heap} {f : Addr} {fd : FuncData}
abbrev NFm : List Str := ["base", "standing", "found", "at", "deed", "later"]
theorem scFrom : FnScope NFm ["base", "standing"] (defScope sFrom) := ⟨rfl, rfl, rfl, by decide +kernel, rfl, by decide +kernel, by decide +kernel⟩
theorem ok_from (G : Gn mg) (F : FnP K "_law_from" sFrom f fd) (hD : Has P w K mg base CX0 "_law_deeds" 1 ["base"] (spDeeds K)) (hL : Has P w K mg base CX0 "_law_led" 1 ["base", "standing", "row"] (spLed K)) : FnOk P w K mg base CX0 2 f fd ["base", "standing"] (spFrom K) := by
  obtain ⟨fD, dD, oD, bD, gD, kD⟩ := hD.ex
  obtain ⟨fL, dL, oL, bL, gL, kL⟩ := hL.ex
  refine F.ok scFrom (fun vs H Q E h => ?_) (fun cdv A outer s H vs Q E hr h => ?_)
  · obtain ⟨_, _, _, rfl, _⟩ := h
    rfl
  · obtain ⟨a, b, z, rfl, hb, ok, hz, q⟩ := h
    have okS := sdOf_ok ok
    have dd : (sdOf b).deeds = b.deeds.map (·.1) := deedsOf b
    refine ⟨_, PSs.nox (pss_cons (ps_par (i := 2) (j := 3) rfl scFrom.nd rfl rfl (by decide) rfl rfl (pa_cons (pe_lst (pa_cons (pv 1) pa_nil)) (pa_cons pe_int pa_nil)) rfl)
      (pss_cons (ps_while PassesOwn.never (pt_cmpR op_lt (pv 3) (pe_callB call_len_seq (by rfl) G.len bLen (pa_cons (pv 2) pa_nil)) (nomark _))
        (pss_cons (ps_for PassesOwn.never rfl (pi_list (pe_call oD hr (by rfl) gD kD bD .nil pass0 (pa_cons (pv 0) pa_nil))) (pg_name (i := 4) scFrom.nd rfl (.inl rfl))
          (pss_cons (ps_set (i := 5) scFrom.nd rfl (.inl rfl) (pe_call oL hr (by rfl) gL kL bL .nil pass0 (pa_cons (pv 0) (pa_cons (pe_ix ix_list (pv 2) (pv 3) (fun _ _ => rfl)) (pa_cons (pe_lst (pa_cons (pv 4) pa_nil)) pa_nil)))))
          (pss_one (ps_if (pt_cmpR op_notIn_seq (pv 5) (pv 2) (by with_unfolding_all rfl)) (pss_one (ps_expr (pe_bm PySem.F.plainAttrs_list PySem.F.slot_list_append PySem.F.type_list_append mt_append (pv 2) (pa_cons (pv 5) pa_nil)))) pss_nil))))
        (pss_one (ps_set (i := 3) scFrom.nd rfl (.inl rfl) (pe_op op_add (pv 3) pe_int)))))
      (pss_one (ps_ret (pv 2))))), ?_⟩
    refine ⟨_, rfl, by show 1 ≤ sizeLine; decide, fun FD hFD => ⟨_, _, rfl, ?_⟩⟩
    have m0 := same_new hFD (o := .lst [.str z])
    refine ⟨fun m σ H' => ∃ (fo : List Str) (n : Nat) (c4 c5 : Option V), σ = [some (.ref a), some (.str z), some (.ref FD), some (.int (n : Int)), c4, c5] ∧ Same H H' ∧ H' FD = some (.lst (sV fo)) ∧ Frm (sdOf b) z fo n ∧ n ≤ fo.length ∧ m + n = 6, ⟨6, [z], 0, none, none, rfl, m0, upd_same, ⟨List.nodup_cons.mpr ⟨List.not_mem_nil, List.nodup_nil⟩, fun y hy => by rw [List.mem_singleton.mp hy]; exact CanF.refl z, List.mem_singleton.mpr rfl, fun i y hi => absurd hi (Nat.not_lt_zero _)⟩, Nat.zero_le _, rfl⟩, ?_⟩
    rintro m σ H2 ⟨fo, n, c4, c5, rfl, m2, hF, Fr, hn, hm⟩
    have few := Fr.few okS hz
    refine ⟨_, rfl, _, rfl, FD, _, rfl, .inl (SqL.of hF), _, _, rfl, rfl, _, rfl, ?_⟩
    rw [List.length_map]
    by_cases c : n < fo.length
    · rw [decide_eq_true (show ((n : Nat) : Int) < ((fo.length : Nat) : Int) by omega)]
      obtain ⟨y, hy⟩ : ∃ y, fo[n]? = some y := ⟨_, List.getElem?_eq_getElem c⟩
      have yin : y ∈ b.names := (Fr.can y (List.mem_of_getElem? hy)).in_ okS hz
      refine iteT ⟨fun σ' H' => ∃ (fo : List Str) (k : Nat) (c4 c5 : Option V), σ' = [some (.ref a), some (.str z), some (.ref FD), some (.int (k : Int)), c4, c5] ∧ Same H H' ∧ H' FD = some (.lst (sV fo)) ∧ Frm (sdOf b) z fo k ∧ k ≤ fo.length ∧ (m - 1) + k = 6, fun σ' H' p => ⟨m - 1, by omega, p⟩, ?_⟩
      refine ⟨_, rfl, a, b, rfl, hb.same m2, ok, fun H3 e m3 he0 he => ⟨e, rfl, ⟨_, SqL.of he⟩, ?_⟩⟩
      have neF : e ≠ FD := fun z => by
        rw [z, hF] at he0
        cases he0
      have M3 := m2.trans m3
      refine for_list (K := K) (a := e) (xs := sV (b.deeds.map (·.1))) (fun i σ H' => ∃ (fo : List Str) (c4 c5 : Option V), σ = [some (.ref a), some (.str z), some (.ref FD), some (.int (n : Int)), c4, c5] ∧ Same H H' ∧ Same (del H3 FD) (del H' FD) ∧ H' FD = some (.lst (sV fo)) ∧ Frm (sdOf b) z fo n ∧ fo[n]? = some y ∧ ∀ d ∈ (b.deeds.map (·.1)).take i, (sdOf b).lead1 d y ∈ fo)
        ⟨fo, c4, c5, rfl, M3, Same.refl _, m3 _ _ hF, Fr, hy, fun d hd => (by rw [List.take_zero] at hd; cases hd)⟩ (fun i σ H' _ ⟨_, _, _, _, _, m', _⟩ => SqL.of (del_some (m' _ _ (del_of neF he))).2) ?_ ?_
      · rintro i v σ H4 hi ⟨fo, c4, c5, rfl, M4, mF, hF4, Fr4, hy4, met⟩
        obtain ⟨d, hd, rfl⟩ := str_at hi
        have din := List.mem_of_getElem? hd
        have few4 := Fr4.few okS hz
        refine ⟨_, rfl, _, rfl, _, rfl, FD, _, n, .str y, rfl, rfl, SqL.of hF4, atI_nat (j := n) (by rw [List.getElem?_map, hy4]; rfl), _, rfl, by show 1 ≤ sizeLine; decide, fun l hl => ?_⟩
        have ml := same_new hl (o := .lst [.str d])
        refine ⟨a, b, y, l, [d], rfl, hb.same (M4.trans ml), ok, yin, SqL.of upd_same, fun c hc => List.mem_singleton.mp hc ▸ din, fun H5 m5 => ?_⟩
        have m45 := ml.trans m5
        have hF5 := m45 _ _ hF4
        have mF5 := mF.trans (del_mono m45)
        refine ⟨_, rfl, _, rfl, FD, sV fo, rfl, .inl (SqL.of hF5), rfl, flatS _, _, rfl, ?_⟩
        rw [if_pos rfl, inV_strs]
        have tk : (b.deeds.map (·.1)).take (i + 1) = (b.deeds.map (·.1)).take i ++ [d] := by
          rw [List.take_succ, hd]
          rfl
        by_cases cin : (sdOf b).lead y [d] ∈ fo
        · rw [decide_eq_true cin]
          refine iteF ⟨fo, _, _, rfl, M4.trans m45, mF5, hF5, Fr4, hy4, fun c hc => ?_⟩
          rw [tk] at hc
          rcases List.mem_append.mp hc with h | h
          · exact met c h
          · rw [List.mem_singleton.mp h]
            exact cin
        · rw [decide_eq_false cin]
          refine iteT ⟨_, rfl, .inl ⟨rfl, _, SqL.of hF5⟩, _, rfl, FD, _, .str ((sdOf b).lead y [d]), rfl, rfl, hF5, small1000 (by rw [List.length_map]; omega), fo ++ [(sdOf b).lead y [d]], _, _, rfl, same_wr (M4.trans m45) hFD, mF5.trans (fun p o ep => by
            obtain ⟨n1, ep⟩ := del_some ep
            exact del_of n1 ((upd_ne n1).trans ep)), ?_, ?_, ?_, fun c hc => ?_⟩
          · rw [upd_same]
            show _ = some (HO.lst (List.map V.str (fo ++ [(sdOf b).lead y [d]])))
            rw [List.map_append]
            rfl
          · refine ⟨?_, fun c hc => ?_, List.mem_append_left _ Fr4.start, fun i2 y2 hi2 hy2 d2 hd2 => List.mem_append_left _ (Fr4.shut i2 y2 hi2 ?_ d2 hd2)⟩
            · rw [List.nodup_append]
              exact ⟨Fr4.nd, List.nodup_cons.mpr ⟨List.not_mem_nil, List.nodup_nil⟩, fun p hp r hr2 e2 => cin (by rw [← List.mem_singleton.mp hr2, ← e2]; exact hp)⟩
            · rcases List.mem_append.mp hc with h | h
              · exact Fr4.can c h
              · rw [List.mem_singleton.mp h]
                exact (Fr4.can y (List.mem_of_getElem? hy4)).step (by rw [dd]; exact din)
            · have lt : i2 < fo.length := by
                have := (List.getElem?_eq_some_iff.mp hy4).1
                omega
              rw [List.getElem?_append_left lt] at hy2
              exact hy2
          · rw [List.getElem?_append_left (List.getElem?_eq_some_iff.mp hy4).1]
            exact hy4
          · rw [tk] at hc
            rcases List.mem_append.mp hc with h | h
            · exact List.mem_append_left _ (met c h)
            · rw [List.mem_singleton.mp h]
              exact List.mem_append_right _ (List.mem_singleton.mpr rfl)
      · rintro σ H4 ⟨fo, c4, c5, rfl, M4, mF, hF4, Fr4, hy4, met⟩
        rw [List.length_map, List.take_length] at met
        have lt := (List.getElem?_eq_some_iff.mp hy4).1
        refine ⟨_, rfl, _, _, rfl, rfl, fo, n + 1, _, _, rfl, M4, hF4, ⟨Fr4.nd, Fr4.can, Fr4.start, fun i2 y2 hi2 hy2 d2 hd2 => ?_⟩, lt, by omega⟩
        by_cases c2 : i2 = n
        · subst c2
          rw [hy4] at hy2
          obtain rfl := Option.some.inj hy2
          exact met d2 (by rw [← dd]; exact hd2)
        · exact Fr4.shut i2 y2 (by omega) hy2 d2 hd2
    · rw [decide_eq_false (show ¬ ((n : Nat) : Int) < ((fo.length : Nat) : Int) by omega)]
      refine iteF ⟨_, rfl, q H2 FD fo m2 hFD hF few fun y => ⟨Fr.can y, fun h => canF_shut Fr.start (fun y2 hy2 d hd => ?_) h⟩⟩
      obtain ⟨i, hi⟩ := List.mem_iff_getElem?.mp hy2
      exact Fr.shut i y2 (by have := (List.getElem?_eq_some_iff.mp hi).1; omega) hi d hd
end
end Bs
set_option Elab.async false
set_option linter.all false
set_option maxRecDepth 100000
set_option maxHeartbeats 8000000
/-! k31: the law -/
namespace L2
namespace Pl
open PySem PySem.Spec PyProof.Rows LamP NdefX LamX DcTwo
theorem or_share {b : Bool} {A B S : Prop} (hA : b = true → B → A) (h : B) : if b = true then A else (if false = true then S else B) := by
  cases b with
  | true => exact iteT (hA rfl h)
  | false => exact iteF (iteF h)
noncomputable def keepN (A : Str → Prop) : V → Bool
  | .str d => @decide (¬ A d) (Classical.propDecidable _)
  | _ => false
theorem keepN_t {A : Str → Prop} {d : Str} (h : ¬ A d) : keepN A (.str d) = true := @decide_eq_true _ (Classical.propDecidable _) h
theorem keepN_f {A : Str → Prop} {d : Str} (h : A d) : keepN A (.str d) = false := @decide_eq_false _ (Classical.propDecidable _) fun n => n h
/-- nothing was kept: A holds of all -/
theorem keepN_nil {A : Str → Prop} {ds : List Str} : ((sV ds).filter (keepN A)).isEmpty = true ↔ ∀ d ∈ ds, A d := by
  rw [List.isEmpty_iff, List.filter_eq_nil_iff]
  constructor
  · intro h d hd
    exact Classical.byContradiction fun n => h (.str d) (List.mem_map_of_mem hd) (keepN_t n)
  · intro h v hv
    obtain ⟨d, hd, rfl⟩ := List.mem_map.mp hv
    rw [keepN_f (h d hd)]
    decide
theorem StAt.off {C : Addr} {H : Hp} {x s : Addr} {b : Sd} (h : StAt C H x b) (hs : Src H s) : StAt C (L2.del H s) x b := by
  obtain ⟨o1, o2, hs⟩ := hs
  obtain ⟨dx, ts, td, dl, dk, es, h1, h2, h3, h4, h5, h6⟩ := h
  have n : ∀ {p : Addr} {o : HO}, H p = some o → o ≠ .lst [.int o1, .int o2] → p ≠ s := fun e ne z => by
    rw [z, hs] at e
    exact ne (Option.some.inj e).symm
  refine ⟨dx, ts, td, dl, dk, es, del_of (n h1 (fun z => by cases z)) h1, del_of (n h2 (fun z => by cases z)) h2, del_of (n h3 (fun z => by cases z)) h3, del_of (n h4 (fun z => by cases z)) h4, h5.mono fun e p q => ⟨q.1, del_of (n q.2 (fun z => by cases z)) q.2⟩, del_of (n h6 (fun z => by cases z)) h6⟩
end Pl
end L2
set_option Elab.async false
set_option linter.all false
set_option maxRecDepth 100000
set_option maxHeartbeats 2000000
/-! k30: what every row bears -/
namespace L2
namespace Pl
open PySem PySem.Spec PyProof.Rows LamP NdefX LamX DcTwo
/-- what may lie between a row's two plays -/
def Late (s : Bool) (b : Sd) (z l : Str) : Prop := if s = true then CanF b z l else l = z
def AllOf (s : Bool) (b : Sd) : Prop := ∀ y, CanF b b.start y → ∀ r, r ≠ [] → Row b r → ∀ l, Late s b (b.lead y r) l → Alike b l (b.lead l r)
def Bears (s : Bool) (b : Sd) : Prop := if s = true then AllSince b else AllDay b
theorem allOf_iff {s : Bool} {b : Sd} : AllOf s b ↔ Bears s b := by
  cases s with
  | true =>
    refine ⟨fun h u v x hu hv hx => ?_, fun h y hy r _ hr l hl => ?_⟩
    · by_cases c : v = []
      · subst c
        rw [List.append_nil, List.append_nil]
        exact alike_refl _
      · have := h (b.lead b.start u) ⟨u, hu, rfl⟩ v c hv (b.lead b.start (u ++ v ++ x)) (show CanF b _ _ from ⟨x, hx, by rw [← lead_app, ← lead_app, List.append_assoc]⟩)
        rw [← lead_app] at this
        exact this
    · obtain ⟨u, hu, rfl⟩ := hy
      obtain ⟨x, hx, rfl⟩ := (show CanF b _ _ from hl)
      have := h u r x hu hr hx
      rw [lead_app (r1 := u ++ r ++ x), lead_app (r1 := u ++ r), lead_app (r1 := u)] at this
      exact this
  | false =>
    refine ⟨fun h u v hu hv => ?_, fun h y hy r _ hr l hl => ?_⟩
    · by_cases c : v = []
      · subst c
        rw [List.append_nil, List.append_nil]
        exact alike_refl _
      · have := h (b.lead b.start u) ⟨u, hu, rfl⟩ v c hv (b.lead b.start (u ++ v)) (show _ = _ from lead_app)
        rw [← lead_app] at this
        exact this
    · obtain ⟨u, hu, rfl⟩ := hy
      obtain rfl := (show l = _ from hl)
      have := h u r hu hr
      rw [lead_app (r1 := u ++ r), lead_app (r1 := u)] at this
      exact this
/-- the pair's entry -/
noncomputable def pv_ (b : Sd) (y z : Str) : V := .bl (@decide (¬ Alike b y z) (Classical.propDecidable _))
theorem pv_due {b : Sd} {y z : Str} {v : V} (h : DueAt b y z v) : V.bl (!decide (v = .non)) = pv_ b y z := by
  unfold pv_
  rcases h with ⟨n, row, rfl, hp, _, _⟩ | ⟨rfl, al⟩
  · exact congrArg V.bl (by
      rw [@decide_eq_true _ (Classical.propDecidable _) (show ¬ Alike b y z from fun al => al row hp)]
      rfl)
  · exact congrArg V.bl (by
      rw [@decide_eq_false _ (Classical.propDecidable _) (show ¬ ¬ Alike b y z from fun n => n al)]
      rfl)
def k2 (y z : Str) : List Key := [Sum.inr y, Sum.inr z]
theorem k2_inj {y z y' z' : Str} (h : k2 y z = k2 y' z') : y = y' ∧ z = z' := by
  unfold k2 at h
  injection h with h1 h2
  injection h2 with h2 _
  exact ⟨Sum.inr.inj h1, Sum.inr.inj h2⟩
/-- putting the right value keeps what is right -/
theorem right_put {b : Sd} {kvs : List (List Key × V)} {y0 z0 y z : Str} (h : (y = y0 ∧ z = z0) ∨ valV kvs (k2 y z) = some (pv_ b y z)) : valV (putK kvs (k2 y0 z0) (pv_ b y0 z0)) (k2 y z) = some (pv_ b y z) := by
  rw [valV_put]
  by_cases c : k2 y z = k2 y0 z0
  · rw [if_pos c]
    obtain ⟨rfl, rfl⟩ := k2_inj c
    rfl
  · rw [if_neg c]
    rcases h with ⟨rfl, rfl⟩ | h
    · exact (c rfl).elim
    · exact h
/-- the list of a standing's later ones -/
def LtAt (s : Bool) (b : Sd) (H : Hp) (y : Str) (v : V) : Prop := ∃ p F, v = .ref p ∧ H p = some (.lst (sV F)) ∧ F.length ≤ 5 ∧ ∀ l, l ∈ F ↔ Late s b y l
theorem LtAt.same {s : Bool} {b : Sd} {H H' : Hp} {y : Str} {v : V} (h : LtAt s b H y v) (m : Same H H') : LtAt s b H' y v :=
  let ⟨p, F, e, z, r⟩ := h
  ⟨p, F, e, m _ _ z, r⟩
def spBears (K : PySem.W.Frag) : Sp := fun vs H Q _ => ∃ a b s, vs = [.ref a, .bl s] ∧ BdAtT K H a b ∧ b.Ok ∧ ∀ H' k, Same H H' → (k = true ↔ Bears s (sdOf b)) → Q (.bl k) H'
theorem tabs_use {K : PySem.W.Frag} {H : Hp} {a : Addr} {b : Bd} {Q : VK} {E : XK} (hb : BdAtT K H a b) (ok : b.Ok) (q : ∀ H' p bs fd, Same H H' → H p = none → H' p = some (.lst (bs.map V.ref)) → Paired (TAt H') bs fd → (∀ t ∈ fd, IsTab (sdOf b) t) → (∀ r, r ≠ [] → Row (sdOf b) r → tabR (sdOf b) r ∈ fd) → Q (.ref p) H') : spTables K [.ref a] H Q E := ⟨a, b, rfl, hb, ok, q⟩
theorem from_use {K : PySem.W.Frag} {H : Hp} {a : Addr} {b : Bd} {z : Str} {Q : VK} {E : XK} (hb : BdAt K H a b) (ok : b.Ok) (hz : z ∈ b.names) (q : ∀ H' p F, Same H H' → H p = none → H' p = some (.lst (sV F)) → F.length ≤ 5 → (∀ y, y ∈ F ↔ CanF (sdOf b) z y) → Q (.ref p) H') : spFrom K [.ref a, .str z] H Q E := ⟨a, b, z, rfl, hb, ok, hz, q⟩
end Pl
end L2
set_option Elab.async false
set_option linter.all false
set_option maxRecDepth 100000
set_option maxHeartbeats 4000000
/-! k30: what was told -/
namespace L2
namespace Pl
open PySem PySem.Spec PyProof.Rows LamP NdefX LamX DcTwo
theorem te_split {ta tb : TE} {σ : L2.St} {H : Hp} {Q : VK} {c : Bool} (G : V → Hp → Prop) (ha : c = true → ∀ Q' : VK, (∀ v H', G v H' → Q' v H') → ta σ H Q') (hb : c = false → ∀ Q' : VK, (∀ v H', G v H' → Q' v H') → tb σ H Q') (hq : ∀ v H', G v H' → Q v H') : if c = true then ta σ H Q else tb σ H Q := by
  cases c with
  | true => exact iteT (ha rfl Q hq)
  | false => exact iteF (hb rfl Q hq)
theorem catS {H : Hp} {p l : Addr} {r1 r2 : List Str} {Q : VK} (h1 : H p = some (.lst (sV r1))) (h2 : H l = some (.lst (sV r2))) (n : r1.length + r2.length ≤ 1000) (q : ∀ u H', Same H H' → H u = none → H' u = some (.lst (sV (r1 ++ r2))) → Q (.ref u) H') : rCat (.ref p) (.ref l) H Q :=
  ⟨p, l, sV r1, sV r2, rfl, rfl, h1, h2, by rw [List.length_map, List.length_map]; exact Nat.le_of_lt (small1000 n), fun u hu => q u _ (same_new hu) hu (by
    rw [upd_same]
    show _ = some (HO.lst (List.map V.str (r1 ++ r2)))
    rw [List.map_append])⟩
/-- the lists in a told tuple -/
structure TdAt (s : Bool) (b : Sd) (H : Hp) (T : Addr) (ps : List Addr) (rs : List (List Str)) (u v x w : List Str) : Prop where
  at_ : H T = some (.tup (ps.map V.ref))
  rows : Paired (fun p r => H p = some (.lst (sV r)) ∧ Row b r ∧ r.length ≤ 25) ps rs
  eq_ : rs = if s = true then [u, v, x, w] else [u, v, w]
  nil_ : s = false → x = []
  shows : ShowsS b u v x w
/-- its places -/
structure TdPl (s : Bool) (H : Hp) (ps : List Addr) (u v x w : List Str) : Prop where
  len : ps.length = if s = true then 4 else 3
  p0 : ∃ p, atI (ps.map V.ref) ((0 : Nat) : Int) = some (.ref p) ∧ H p = some (.lst (sV u))
  p1 : ∃ p, atI (ps.map V.ref) ((1 : Nat) : Int) = some (.ref p) ∧ H p = some (.lst (sV v))
  p2 : s = true → ∃ p, atI (ps.map V.ref) ((2 : Nat) : Int) = some (.ref p) ∧ H p = some (.lst (sV x))
  pw : ∃ p, atI (ps.map V.ref) (-1) = some (.ref p) ∧ H p = some (.lst (sV w))
  few : u.length ≤ 25 ∧ v.length ≤ 25 ∧ x.length ≤ 25 ∧ w.length ≤ 25
theorem TdAt.pl {s : Bool} {b : Sd} {H : Hp} {T : Addr} {ps : List Addr} {rs : List (List Str)} {u v x w : List Str} (h : TdAt s b H T ps rs u v x w) : TdPl s H ps u v x w := by
  obtain ⟨h1, h2, h3, h4, h5⟩ := h
  cases s with
  | true =>
    have h3 : rs = [u, v, x, w] := h3
    subst h3
    match ps, h2 with
    | [a, b, c, d], .cons ⟨ea, _, la⟩ (.cons ⟨eb, _, lb⟩ (.cons ⟨ec, _, lc⟩ (.cons ⟨ed, _, ld⟩ .nil))) =>
      exact ⟨rfl, ⟨a, atI_nat rfl, ea⟩, ⟨b, atI_nat rfl, eb⟩, fun _ => ⟨c, atI_nat rfl, ec⟩, ⟨d, atI_last [V.ref a, V.ref b, V.ref c] (V.ref d), ed⟩, la, lb, lc, ld⟩
  | false =>
    have h3 : rs = [u, v, w] := h3
    subst h3
    match ps, h2 with
    | [a, b, d], .cons ⟨ea, _, la⟩ (.cons ⟨eb, _, lb⟩ (.cons ⟨ed, _, ld⟩ .nil)) =>
      exact ⟨rfl, ⟨a, atI_nat rfl, ea⟩, ⟨b, atI_nat rfl, eb⟩, fun z => (by cases z), ⟨d, atI_last [V.ref a, V.ref b] (V.ref d), ed⟩, la, lb, by rw [h4 rfl]; exact Nat.zero_le _, ld⟩
theorem TdPl.same {s : Bool} {H H' : Hp} {ps : List Addr} {u v x w : List Str} (h : TdPl s H ps u v x w) (m : Same H H') : TdPl s H' ps u v x w :=
  let ⟨h1, ⟨a, a1, a2⟩, ⟨b, b1, b2⟩, h4, ⟨d, d1, d2⟩, h6⟩ := h
  ⟨h1, ⟨a, a1, m _ _ a2⟩, ⟨b, b1, m _ _ b2⟩, fun z => let ⟨c, c1, c2⟩ := h4 z; ⟨c, c1, m _ _ c2⟩, ⟨d, d1, m _ _ d2⟩, h6⟩
def spRightD (K : PySem.W.Frag) : Sp := fun vs H Q _ => ∃ ba T s b ps rs u v x w, vs = [.ref ba, .ref T, .bl s] ∧ BdAt K H ba b ∧ b.Ok ∧ TdAt s (sdOf b) H T ps rs u v x w ∧ ∀ H', Same H H' → Q (.bl true) H'
theorem rightD_use {K : PySem.W.Frag} {H : Hp} {ba T : Addr} {s : Bool} {b : Bd} {ps : List Addr} {rs : List (List Str)} {u v x w : List Str} {Q : VK} {E : XK} (h1 : BdAt K H ba b) (h2 : b.Ok) (h3 : TdAt s (sdOf b) H T ps rs u v x w) (q : ∀ H', Same H H' → Q (.bl true) H') : spRightD K [.ref ba, .ref T, .bl s] H Q E := ⟨ba, T, s, b, ps, rs, u, v, x, w, rfl, h1, h2, h3, q⟩
end Pl
end L2
namespace Bs
open PySem PySem.Spec PyProof.Rows L2 L2.Pl LamP NdefX LamX
section
variable {P : Program} {w : World} {K : PySem.W.Frag} {mg : Str → Option Value} {base : Heap} {f : Addr} {fd : FuncData}
theorem kitTT3 : PySem.W.kitOne K (.type "tuple") (.type "tuple") = some true := kit_ty (by decide +kernel)
theorem kitLL3 : PySem.W.kitOne K (.type "list") (.type "list") = some true := kit_ty (by decide +kernel)
abbrev NRd : List Str := ["base", "told", "is_since", "row", "between", "ahead", "deed"]
theorem scRightD : FnScope NRd ["base", "told", "is_since"] (defScope sRight) := ⟨rfl, rfl, rfl, by decide +kernel, rfl, by decide +kernel, by decide +kernel⟩
theorem ok_rightD (G : Gn mg) (F : FnP K "_law_right" sRight f fd) (hD : Has P w K mg base CX0 "_law_deeds" 1 ["base"] (spDeeds K)) (hP : Has P w K mg base CX0 "_law_parts" 2 ["base", "one", "other"] (spParts K)) :
    FnOk P w K mg base CX0 3 f fd ["base", "told", "is_since"] (spRightD K) := by
  obtain ⟨fD, dD, oD, bD, gD, kD⟩ := hD.ex
  obtain ⟨fP, dP, oP, bP, gP, kP⟩ := hP.ex
  refine F.ok scRightD (fun vs H Q E h => ?_) (fun cdv A outer s H vs Q E hr h => ?_)
  · obtain ⟨_, _, _, _, _, _, _, _, _, _, rfl, _⟩ := h
    rfl
  · obtain ⟨ba, T, sn, b, ps, rs, u, v, x, w', rfl, hb, ok, td, q⟩ := h
    have hr1 := hr.mono (j := 1) (by decide)
    have okS := sdOf_ok ok
    have hu : (A.deeper (envOfC "_law_right" (defScope sRight) s.heap.objs.size f cdv)).units < cLine := by
      have z := hr.un
      omega
    refine ⟨_, PSs.nox (pss_cons (ps_if (PW.pt (pw_or (pt_not (pt_val (pe_callB call_isi (by rfl) G.isi bIsi (pa_cons (pv 1) (pa_cons (pe_bltn (v := .ty "tuple") (by rfl) G.tuple bTuple rfl) pa_nil))))) (pw_or1 (pt_cmpR op_ne (pe_callB call_len_seq (by rfl) G.len bLen (pa_cons (pv 1) pa_nil)) (pe_ifExp (pt_val (pv 2)) pe_int pe_int) (nomark _))))) (pss_one (ps_ret pe_bl)) pss_nil)
      (pss_cons (ps_for PassesOwn.never rfl (pi_tup (pv 1)) (pg_name (i := 3) scRightD.nd rfl (.inl rfl))
        (pss_one (ps_if (PW.pt (pw_or (pt_not (pt_val (pe_callB call_isi (by rfl) G.isi bIsi (pa_cons (pv 3) (pa_cons (pe_bltn (v := .ty "list") (by rfl) G.list bList rfl) pa_nil))))) (pw_or1 (pt_cmpR (op_ne_nil hu) (pe_lc (own := [("deed", 6)]) (g := gName 6) (tt := tTest (tOp (rIn K true) (tVar 6) (tCall (spDeeds K) [] E0 (tCons (tVar 0) tNil)))) (te := tVar 6) rfl scRightD.nd (pi_list (pv 3)) (blkOk_by (N := NRd) (sc := defScope sRight) (by decide +kernel))
            (fun _ _ _ _ _ => pg_name (i := 6) scRightD.nd rfl (.inl rfl)) (fun _ _ _ _ _ => pts_one (pt_cmpR op_notIn_seq (pv 6) (pe_call oD hr1 (by rfl) gD kD bD .nil pass0 (pa_cons (pv 0) pa_nil)) (by rfl))) (fun _ _ _ _ _ => pv 6)) (pe_lst pa_nil) (nomark _))))) (pss_one (ps_ret pe_bl)) pss_nil)))
      (pss_cons (ps_if (pt_cmpR (op_eq_nil hu) (pe_ix ix_tup (pv 1) pe_int (fun _ _ => rfl)) (pe_lst pa_nil) (nomark _)) (pss_one (ps_ret pe_bl)) pss_nil)
      (pss_cons (ps_set (i := 4) scRightD.nd rfl (.inl rfl) (pe_ifExp (pt_val (pv 2)) (pe_ix ix_tup (pv 1) pe_int (fun _ _ => rfl)) (pe_lst pa_nil)))
      (pss_cons (ps_set (i := 5) scRightD.nd rfl (.inl rfl) (pe_op op_cat (pe_op op_cat (pe_ix ix_tup (pv 1) pe_int (fun _ _ => rfl)) (pe_ix ix_tup (pv 1) pe_int (fun _ _ => rfl))) (pv 4)))
      (pss_one (ps_ret (pe_call oP hr (by rfl) gP kP bP .nil pass0 (pa_cons (pv 0) (pa_cons (pe_op op_cat (pv 5) (pe_ix ix_tup (pv 1) (pe_un un_neg pe_int) (fun _ _ => rfl))) (pa_cons (pe_op op_cat (pe_op op_cat (pv 5) (pe_ix ix_tup (pv 1) pe_int (fun _ _ => rfl))) (pe_ix ix_tup (pv 1) (pe_un un_neg pe_int) (fun _ _ => rfl))) pa_nil)))))))))))
      , ?_⟩
    have dd : (sdOf b).deeds = b.deeds.map (·.1) := deedsOf b
    have hT := td.at_
    have rows := td.rows
    obtain ⟨gu, gv, gx, vne, hp⟩ := td.shows
    have pl := td.pl
    refine ⟨_, rfl, .ref T, .ty "tuple", .type "tuple", .type "tuple", true, rfl, .ty _, .base (.tup hT), kitTT3, true, rfl, iteF ⟨_, rfl, T, _, rfl, .inr (SqT.up hT), _, rfl, sn, rfl, ?_⟩⟩
    have len2 : ∀ {A B : Prop}, (ps.length = 4 → A) → (ps.length = 3 → B) → if sn = true then A else B := fun {A B} f g => by
      have := pl.len
      cases sn with
      | true => exact iteT (f this)
      | false => exact iteF (g this)
    refine len2 (fun l => ⟨rfl, _, rfl, ?_⟩) (fun l => ⟨rfl, _, rfl, ?_⟩)
    all_goals
      rw [List.length_map, l]
      refine iteF ⟨_, rfl, T, rfl, ⟨_, SqT.up hT⟩, ?_⟩
      refine for_tup (K := K) (a := T) (xs := ps.map V.ref) (fun i σ H' => ∃ c3, σ = [some (.ref ba), some (.ref T), some (.bl sn), c3, none, none, none] ∧ Same H H') ⟨_, rfl, Same.refl _⟩ (fun i σ H' _ ⟨_, _, m⟩ => SqT.up (m _ _ hT)) ?_ ?_
      · rintro i y σ H3 hi ⟨c3, rfl, m3⟩
        obtain ⟨p, hp, rfl⟩ : ∃ p, ps[i]? = some p ∧ y = .ref p := by
          rw [List.getElem?_map] at hi
          cases e : ps[i]? with
          | none =>
            rw [e] at hi
            cases hi
          | some u =>
            rw [e] at hi
            exact ⟨u, rfl, (Option.some.inj hi).symm⟩
        obtain ⟨r, hr0, hp2, hrow, hfew⟩ := L2.paired_get rows hp
        have hp3 := m3 _ _ hp2
        refine ⟨_, rfl, .ref p, .ty "list", .type "list", _, true, rfl, .ty _, .base (.lst hp3), kitLL3, true, rfl, iteF ⟨_, rfl, p, rfl, ⟨_, SqL.of hp3⟩, fun D hD => ?_⟩⟩
        refine lc_sm (walk_list (K := K) (a := p) (xs := sV r)) (fun _ => false) (fun x y => y = x) hD (fun H5 mm => SqL.of (mm _ _ hp3)) (by rw [List.length_map]; omega) (fun y1 H5 N Y hy1 mm iD kn ky => ?_) (fun H5 ys mm hyD py => ?_)
        · obtain ⟨o, ho, rfl⟩ := List.mem_map.mp hy1
          obtain ⟨oD, hoD⟩ := iD
          refine ⟨rfl, _, rfl, _, rfl, ba, b, rfl, (hb.same m3).same mm, ok, fun H6 e m6 he0 he => ⟨e, _, rfl, .inl (SqL.of he), rfl, flatS _, _, rfl, ?_⟩⟩
          rw [if_pos rfl, inV_strs, decide_eq_true (by rw [← dd]; exact hrow o ho)]
          exact iteF (kn rfl H6 (mm.trans m6) ((m6 _ _ hoD).trans hoD.symm))
        · have ey : ys = [] := by
            have : (sV r).filter (fun _ => false) = [] := List.filter_eq_nil_iff.mpr fun _ _ => by decide
            rw [this] at py
            cases py
            rfl
          subst ey
          refine ⟨Nat.zero_le _, fun e he => ⟨D, e, [], rfl, rfl, SqL.of ((upd_ne (ne_of_none hyD he)).trans hyD), SqL.of upd_same, _, rfl, iteF ?_⟩⟩
          exact ⟨_, rfl, (m3.trans mm).trans (same_new he)⟩
      rintro σ H3 ⟨c3, rfl, m3⟩
      obtain ⟨p1, a1, e1⟩ := pl.p1
      have hT3 := m3 _ _ hT
      refine ⟨_, rfl, T, _, 1, .ref p1, rfl, rfl, SqT.up hT3, a1, Nat.zero_le _, fun e he => ⟨p1, e, sV v, rfl, rfl, SqL.of ((upd_ne (ne_of_none (m3 _ _ e1) he)).trans (m3 _ _ e1)), SqL.of upd_same, _, rfl, ?_⟩⟩
      have em : (sV v).isEmpty = false := by
        cases v with
        | nil => exact (vne rfl).elim
        | cons => rfl
      rw [em]
      refine iteF ?_
      have m4 := m3.trans (same_new he (o := .lst []))
      generalize upd H3 e (.lst []) = H4 at *
      -- between
      refine ⟨_, rfl, sn, rfl, te_split (fun y H' => ∃ r, y = .ref r ∧ Same H4 H' ∧ H' r = some (.lst (sV x))) (fun e Q' hq => ?_) (fun e Q' hq => ?_) ?_⟩
      · obtain ⟨p2, a2, e2⟩ := pl.p2 e
        exact ⟨_, rfl, T, _, 2, .ref p2, rfl, rfl, SqT.up (m4 _ _ hT), a2, hq _ _ ⟨p2, rfl, Same.refl _, m4 _ _ e2⟩⟩
      · refine ⟨Nat.zero_le _, fun e2 he2 => hq _ _ ⟨e2, rfl, same_new he2, ?_⟩⟩
        rw [upd_same, td.nil_ e]
        rfl
      rintro _ H5 ⟨r, rfl, m5, er⟩
      have m05 := m4.trans m5
      obtain ⟨_, ⟨p0, a0, f0⟩, _, _, ⟨pw, aw, fw⟩, lu, lv, lx, lw⟩ := pl.same m05
      have f1 := m05 _ _ e1
      have hT5 := m05 _ _ hT
      refine ⟨_, rfl, T, _, 0, .ref p0, rfl, rfl, SqT.up hT5, a0, _, rfl, T, _, 1, .ref p1, rfl, rfl, SqT.up hT5, a1, catS f0 f1 (by omega) fun c6 H6 m6 _ e6 => ⟨_, rfl, catS e6 (m6 _ _ er) (by rw [List.length_append]; omega) fun c7 H7 m7 _ e7 => ?_⟩⟩
      have m57 := m6.trans m7
      have hT7 := m57 _ _ hT5
      have fw7 := m57 _ _ fw
      have f17 := m57 _ _ f1
      -- _law_parts(base, ahead + told[-1], ahead + told[1] + told[-1])
      refine ⟨_, rfl, _, rfl, _, rfl, 1, rfl, T, _, -1, .ref pw, rfl, rfl, SqT.up hT7, aw, catS e7 fw7 (by rw [List.length_append, List.length_append]; omega) fun c8 H8 m8 _ e8 => ?_⟩
      refine ⟨_, rfl, _, rfl, T, _, 1, .ref p1, rfl, rfl, SqT.up (m8 _ _ hT7), a1, catS (m8 _ _ e7) (m8 _ _ f17) (by rw [List.length_append, List.length_append]; omega) fun c9 H9 m9 _ e9 => ?_⟩
      have m79 := m8.trans m9
      refine ⟨_, rfl, 1, rfl, T, _, -1, .ref pw, rfl, rfl, SqT.up (m79 _ _ hT7), aw, catS e9 (m79 _ _ fw7) (by rw [List.length_append, List.length_append, List.length_append]; omega) fun c10 H10 m10 _ e10 => ?_⟩
      have m0 := m05.trans (m57.trans (m79.trans m10))
      have gw : Row (sdOf b) w' := hp.1
      refine ⟨ba, b, c8, c10, _, _, rfl, hb.same m0, ok, SqL.of ((m9.trans m10) _ _ e8), SqL.of e10, row_app (row_app (row_app gu gv) gx) gw, row_app (row_app (row_app (row_app gu gv) gx) gv) gw, fun H11 m11 => ?_⟩
      have ne := hp.2
      rw [← lead_app, ← lead_app] at ne
      rw [decide_eq_false (fun e => ne (V.str.inj e))]
      exact q H11 (m0.trans m11)
end
end Bs
set_option Elab.async false
set_option linter.all false
set_option maxRecDepth 100000
set_option maxHeartbeats 4000000
/-! k30: _law_bears -/
namespace L2
namespace Pl
open PySem PySem.Spec PyProof.Rows LamP NdefX LamX DcTwo
def Good (s : Bool) (b : Sd) (t : List Str) : Prop := ∃ r, Row b r ∧ t = tabR b r ∧ ∀ y, CanF b b.start y → ∀ l, Late s b (b.lead y r) l → Alike b l (b.lead l r)
theorem tabR_eq {b : Sd} {r r' : List Str} (h : tabR b r = tabR b r') {y : Str} (hy : y ∈ b.names) : b.lead y r = b.lead y r' := (List.map_inj_left.mp h) y hy
theorem good_all {s : Bool} {b : Sd} (ok : b.Ok) {fd : List (List Str)} (h : ∀ t ∈ fd, Good s b t) (all : ∀ r, r ≠ [] → Row b r → tabR b r ∈ fd) : AllOf s b := fun y hy r rn rr l hl => by
  obtain ⟨r', rr', e, g⟩ := h _ (all r rn rr)
  have yin := hy.in_ ok ok.start_in
  rw [tabR_eq e yin] at hl
  have lin : l ∈ b.names := by
    have z := lead_in ok rr' yin
    cases s with
    | true => exact (show CanF b _ _ from hl).in_ ok z
    | false => exact (show l = _ from hl) ▸ z
  rw [tabR_eq e lin]
  exact g y hy l hl
/-- the two dicts while they are filled: i standings done, of the next its pairs up to j -/
structure Fill (s : Bool) (b : Sd) (H H' : Hp) (PA LT : Addr) (kp : List (List Key × V)) (kl : List (Key × V)) (i : Nat) : Prop where
  same : Same H H'
  atP : H' PA = some (.dT kp)
  atL : H' LT = some (.dK kl)
  lts : ∀ y ∈ b.names.take i, ∃ v, valV kl (Sum.inr y) = some v ∧ LtAt s b (L2.del (L2.del H' PA) LT) y v
  prs : ∀ y ∈ b.names.take i, ∀ z ∈ b.names, valV kp (k2 y z) = some (pv_ b y z)
end Pl
end L2
namespace Bs
open PySem PySem.Spec PyProof.Rows L2 L2.Pl LamP NdefX LamX DcTwo
section
variable {P : Program} {w : World} {K : PySem.W.Frag} {mg : Str → Option Value} {base : Heap} {f : Addr} {fd : FuncData}
abbrev NBr : List Str := ["base", "is_since", "parted", "later", "one", "two", "table", "lead", "late"]
theorem scBears : FnScope NBr ["base", "is_since"] (defScope sBears) := ⟨rfl, rfl, rfl, by decide +kernel, rfl, by decide +kernel, by decide +kernel⟩
theorem ok_bears (G : Gn mg) (F : FnP K "_law_bears" sBears f fd) (hFr : Has P w K mg base CX0 "_law_from" 2 ["base", "standing"] (spFrom K)) (hFa : Has P w K mg base CX0 "_law_far" 2 ["base", "one", "other"] (spFar K)) (hT : Has P w K mg base CX0 "_law_tables" 2 ["base"] (spTables K)) : FnOk P w K mg base CX0 3 f fd ["base", "is_since"] (spBears K) := by
  have fa_use : ∀ {H : Hp} {a : Addr} {b : Bd} {x y : Str} {Q : VK} {E : XK}, BdAt K H a b → b.Ok → x ∈ b.names → y ∈ b.names → (∀ v H', Same H H' → DueAt (sdOf b) x y v → Q v H') → spFar K [.ref a, .str x, .str y] H Q E := fun h1 h2 h3 h4 q => far_use h1 h2 h3 h4 q
  generalize spFar K = pFa at hFa fa_use
  have fr_use : ∀ {H : Hp} {a : Addr} {b : Bd} {z : Str} {Q : VK} {E : XK}, BdAt K H a b → b.Ok → z ∈ b.names → (∀ H' p F, Same H H' → H p = none → H' p = some (.lst (sV F)) → F.length ≤ 5 → (∀ y, y ∈ F ↔ CanF (sdOf b) z y) → Q (.ref p) H') → spFrom K [.ref a, .str z] H Q E := fun h1 h2 h3 q => from_use h1 h2 h3 q
  generalize spFrom K = pFr at hFr fr_use
  have ta_use : ∀ {H : Hp} {a : Addr} {b : Bd} {Q : VK} {E : XK}, BdAtT K H a b → b.Ok → (∀ H' p bs fd, Same H H' → H p = none → H' p = some (.lst (bs.map V.ref)) → Paired (TAt H') bs fd → (∀ t ∈ fd, IsTab (sdOf b) t) → (∀ r, r ≠ [] → Row (sdOf b) r → tabR (sdOf b) r ∈ fd) → Q (.ref p) H') → spTables K [.ref a] H Q E := fun h1 h2 q => tabs_use h1 h2 q
  generalize spTables K = pTa at hT ta_use
  obtain ⟨fF, dF, oF, bF, gF, kF⟩ := hFr.ex
  obtain ⟨fA, dA, oA, bA, gA, kA⟩ := hFa.ex
  obtain ⟨fT, dT, oT, bT, gT, kT⟩ := hT.ex
  refine F.ok scBears (fun vs H Q E h => ?_) (fun cdv A outer s H vs Q E hr h => ?_)
  · obtain ⟨_, _, _, rfl, _⟩ := h
    rfl
  · obtain ⟨a, b, sn, rfl, hb, ok, q⟩ := h
    have hu1 := hu_of hr
    have hu : (A.deeper (envOfC "_law_bears" (defScope sBears) s.heap.objs.size f cdv)).units < cLine := by
      have z := hr.un
      omega
    refine ⟨_, PSs.nox (pss_cons (ps_asg (pe_tup (pa_cons pe_dnewT (pa_cons pe_dnewK pa_nil))) (pg_tup rfl (pgs_cons (pg_name (i := 2) scBears.nd rfl (.inr rfl)) (pgs_cons (pg_name (i := 3) scBears.nd rfl (.inl rfl)) pgs_nil))))
      (pss_cons (ps_for PassesOwn.never rfl (pi_tup (pe_ix ix_tup (pv 0) pe_int (fun _ _ => rfl))) (pg_name (i := 4) scBears.nd rfl (.inl rfl))
        (pss_cons (ps_dput hu1 (pv 3) (pv 4) (pe_ifExp (pt_val (pv 1)) (pe_call oF hr (by rfl) gF kF bF .nil pass0 (pa_cons (pv 0) (pa_cons (pv 4) pa_nil))) (pe_lst (pa_cons (pv 4) pa_nil))) rfl)
        (pss_one (ps_for PassesOwn.never rfl (pi_tup (pe_ix ix_tup (pv 0) pe_int (fun _ _ => rfl))) (pg_name (i := 5) scBears.nd rfl (.inl rfl))
          (pss_one (ps_dput hu1 (pv 2) (pe_tup (pa_cons (pv 4) (pa_cons (pv 5) pa_nil))) (pe_cmpR op_notN (pe_call oA hr (by rfl) gA kA bA .nil pass0 (pa_cons (pv 0) (pa_cons (pv 4) (pa_cons (pv 5) pa_nil)))) pe_non (nomark _)) rfl))))))
      (pss_cons (ps_for PassesOwn.never rfl (pi_list (pe_call oT hr (by rfl) gT kT bT .nil pass0 (pa_cons (pv 0) pa_nil))) (pg_name (i := 6) scBears.nd rfl (.inl rfl))
        (pss_cons (ps_set (i := 7) scBears.nd rfl (.inr rfl) (pe_callTy (call_dictQ rfl) (by rfl) G.dict bDict (pa_cons (pe_listZip rfl (by rfl) G.list (by rfl) G.zip (pa_cons (pe_ix ix_tup (pv 0) pe_int (fun _ _ => rfl)) (pa_cons (pv 6) pa_nil))) pa_nil)))
        (pss_one (ps_for PassesOwn.never rfl (pi_list (pe_call oF hr (by rfl) gF kF bF .nil pass0 (pa_cons (pv 0) (pa_cons (pe_ix ix_tup (pe_ix ix_tup (pv 0) pe_int (fun _ _ => rfl)) pe_int (fun _ _ => rfl)) pa_nil)))) (pg_name (i := 4) scBears.nd rfl (.inl rfl))
          (pss_one (ps_if (pt_cmpR (op_ne_nil hu) (pe_lc (own := [("late", 8)]) (g := gName 8) (tt := tB (tDGet (tVar 2) (tTup (tCons (tVar 8) (tCons (tDGet (tVar 7) (tVar 8)) tNil))))) (te := tVar 8) rfl scBears.nd (pi_list (pe_dget hu1 (pv 3) (pe_dget hu1 (pv 7) (pv 4) (fun _ _ => rfl)) (fun _ _ => rfl))) (blkOk_by (N := NBr) (sc := defScope sBears) (by decide +kernel)) (fun _ _ _ _ _ => pg_name (i := 8) scBears.nd rfl (.inl rfl))
              (fun _ _ _ _ _ => pts_one (pt_val (pe_dget hu1 (pv 2) (pe_tup (pa_cons (pv 8) (pa_cons (pe_dget hu1 (pv 7) (pv 8) (fun _ _ => rfl)) pa_nil))) (fun _ _ => rfl)))) (fun _ _ _ _ _ => pv 8)) (pe_lst pa_nil) (nomark _)) (pss_one (ps_ret pe_bl)) pss_nil))))))
      (pss_one (ps_ret pe_bl))))), ?_⟩
    obtain ⟨an, ad, al, ps, h1, ⟨on, h2, hdn⟩, h3, h4, h5⟩ := id hb
    have okS := sdOf_ok ok
    have nd := ok.nd
    have n1 := ok.n1
    have n5 := ok.n5
    refine fun PA hPA LT hLT => ⟨by show 2 ≤ sizeLine; decide, fun t ht => ?_⟩
    refine ⟨t, _, rfl, .inl (.inl upd_same), rfl, _, [.ref LT], rfl, _, [], rfl, rfl, ?_⟩
    have nPL : PA ≠ LT := ne_of_none upd_same hLT
    have mt := same_new (H := upd (upd H PA (.dT [])) LT (.dK [])) ht (o := .tup [.ref PA, .ref LT])
    have m1 := (same_new hPA (o := .dT [])).trans ((same_new hLT (o := .dK [])).trans mt)
    have p1 := mt PA (.dT []) ((upd_ne nPL).trans upd_same)
    have l1 := mt LT (.dK []) upd_same
    have L0 : H LT = none := (same_new hPA).free hLT
    generalize upd (upd (upd H PA (.dT [])) LT (.dK [])) t (.tup [.ref PA, .ref LT]) = H1 at *
    clear mt ht hLT
    refine ⟨_, rfl, a, _, 0, .ref an, rfl, rfl, seqT_same h1 m1, atI_nat (j := 0) rfl, an, rfl, ⟨_, .inl (.inr ⟨on, m1 _ _ h2⟩)⟩, ?_⟩
    refine for_tup (K := K) (a := an) (xs := sV b.names) (fun i σ H' => ∃ c4 c5 kp kl, σ = [some (.ref a), some (.bl sn), some (.ref PA), some (.ref LT), c4, c5, none, none, none] ∧ Fill sn (sdOf b) H H' PA LT kp kl i ∧ kp.length ≤ 5 * i ∧ kl.length ≤ i)
      ⟨none, none, [], [], rfl, ⟨m1, p1, l1, fun y hy => (by rw [List.take_zero] at hy; cases hy), fun y hy => (by rw [List.take_zero] at hy; cases hy)⟩, Nat.zero_le _, Nat.zero_le _⟩ (fun i σ H' _ ⟨_, _, _, _, _, fl, _⟩ => .inl (.inr ⟨on, fl.same _ _ h2⟩)) ?_ ?_
    · rintro i v σ H2 hi ⟨c4, c5, kp, kl, rfl, ⟨m2, hP, hL, lts, prs⟩, lp, ll⟩
      obtain ⟨y, hy, rfl⟩ := str_at hi
      have yin : y ∈ b.names := List.mem_of_getElem? hy
      have i5 : i < b.names.length := (List.getElem?_eq_some_iff.mp hy).1
      -- later[one] = ..
      refine ⟨_, rfl, sn, rfl, te_split (fun v H' => ∃ p F, v = .ref p ∧ Same H2 H' ∧ H2 p = none ∧ H' p = some (.lst (sV F)) ∧ F.length ≤ 5 ∧ ∀ l, l ∈ F ↔ Late sn (sdOf b) y l) (fun e Q' hq => ?_) (fun e Q' hq => ?_) ?_⟩
      · refine ⟨_, rfl, _, rfl, fr_use (hb.same m2).plain ok yin fun H3 p F m3 np hp lF inF => hq _ _ ⟨p, F, rfl, m3, np, hp, lF, fun l => ?_⟩⟩
        rw [inF l, e]
        exact Iff.rfl
      · refine ⟨_, rfl, by show 1 ≤ sizeLine; decide, fun p np => hq _ _ ⟨p, [y], rfl, same_new np, np, upd_same, by show 1 ≤ 5; decide, fun l => ?_⟩⟩
        rw [e, List.mem_singleton]
        exact Iff.rfl
      rintro _ H3 ⟨p, F, rfl, m3, np, hp, lF, inF⟩
      have hL3 := m3 _ _ hL
      have hP3 := m3 _ _ hP
      have npL : p ≠ LT := (ne_of_none hL np).symm
      have npP : p ≠ PA := (ne_of_none hP np).symm
      refine ⟨_, rfl, _, rfl, LT, _, rfl, DPut.k (k := Sum.inr y) hL3 (by rw [sizeLine_eq]; omega), ?_⟩
      have mM := m2.trans m3
      have m4 := same_wr (o := .dK (putK kl (Sum.inr y : Key) (.ref p))) mM L0
      have hL4 : (upd H3 LT (.dK (putK kl (Sum.inr y : Key) (.ref p)))) LT = _ := upd_same
      have hP4 : (upd H3 LT (.dK (putK kl (Sum.inr y : Key) (.ref p)))) PA = _ := (upd_ne nPL).trans hP3
      have md : Same (L2.del (L2.del H2 PA) LT) (L2.del (L2.del (upd H3 LT (.dK (putK kl (Sum.inr y : Key) (.ref p)))) PA) LT) := fun c o z => by
        obtain ⟨z1, z⟩ := del_some z
        obtain ⟨z2, z⟩ := del_some z
        exact del_of z1 (del_of z2 ((upd_ne z1).trans (m3 _ _ z)))
      have hp4 : (L2.del (L2.del (upd H3 LT (.dK (putK kl (Sum.inr y : Key) (.ref p)))) PA) LT) p = some (.lst (sV F)) := del_of npL (del_of npP ((upd_ne npL).trans hp))
      have ll4 : (putK kl (Sum.inr y : Key) (.ref p)).length ≤ i + 1 := Nat.le_trans (length_putK _ _ _) (by omega)
      have tk : b.names.take (i + 1) = b.names.take i ++ [y] := by
        rw [List.take_succ, hy]
        rfl
      have lt4 : ∀ y' ∈ b.names.take (i + 1), ∃ v, valV (putK kl (Sum.inr y : Key) (.ref p)) (Sum.inr y') = some v ∧ LtAt sn (sdOf b) (L2.del (L2.del (upd H3 LT (.dK (putK kl (Sum.inr y : Key) (.ref p)))) PA) LT) y' v := fun y' hy' => by
        rw [valV_put]
        by_cases c : (Sum.inr y' : Key) = Sum.inr y
        · rw [if_pos c]
          obtain rfl := Sum.inr.inj c
          exact ⟨_, rfl, p, F, rfl, hp4, lF, inF⟩
        · rw [if_neg c]
          rw [tk] at hy'
          rcases List.mem_append.mp hy' with h | h
          · obtain ⟨v, e, z⟩ := lts y' h
            exact ⟨v, e, z.same md⟩
          · exact (c (congrArg Sum.inr (List.mem_singleton.mp h))).elim
      generalize putK kl (Sum.inr y : Key) (.ref p) = kl4 at *
      generalize upd H3 LT (.dK kl4) = H4 at *
      clear m3 np hp hL3 hP3 npL npP mM md hp4 lts hL hP m2 inF lF ll
      refine ⟨_, rfl, a, _, 0, .ref an, rfl, rfl, seqT_same h1 m4, atI_nat (j := 0) rfl, an, rfl, ⟨_, .inl (.inr ⟨on, m4 _ _ h2⟩)⟩, ?_⟩
      refine for_tup (K := K) (a := an) (xs := sV b.names) (fun j σ H' => ∃ c5 kp', σ = [some (.ref a), some (.bl sn), some (.ref PA), some (.ref LT), some (.str y), c5, none, none, none] ∧ Same H H' ∧ H' PA = some (.dT kp') ∧ H' LT = some (.dK kl4) ∧ Same (L2.del (L2.del H4 PA) LT) (L2.del (L2.del H' PA) LT) ∧ kp'.length ≤ 5 * i + j ∧ (∀ y ∈ b.names.take i, ∀ z ∈ b.names, valV kp' (k2 y z) = some (pv_ (sdOf b) y z)) ∧ ∀ z ∈ b.names.take j, valV kp' (k2 y z) = some (pv_ (sdOf b) y z))
        ⟨c5, kp, rfl, m4, hP4, hL4, Same.refl _, lp, prs, fun z hz => (by rw [List.take_zero] at hz; cases hz)⟩ (fun j σ H' _ ⟨_, _, _, m, _⟩ => .inl (.inr ⟨on, m _ _ h2⟩)) ?_ ?_
      · clear kp hP4 lp prs c5
        rintro j v σ H5 hj ⟨c5, kp, rfl, m5, hP5, hL5, md5, lp, prs, pr2⟩
        obtain ⟨z, hz, rfl⟩ := str_at hj
        have zin : z ∈ b.names := List.mem_of_getElem? hz
        have j5 : j < b.names.length := (List.getElem?_eq_some_iff.mp hz).1
        refine ⟨_, rfl, _, rfl, _, rfl, fa_use (hb.same m5).plain ok yin zin fun v H6 m6 hv => ⟨rfl, _, rfl, _, rfl, _, rfl, by show 2 ≤ sizeLine; decide, fun T hT => ?_⟩⟩
        have m7 := m6.trans (same_new hT (o := .tup [.str y, .str z]))
        have eT : (upd H6 T (.tup [.str y, .str z])) T = some (.tup ((k2 y z).map kV)) := upd_same
        generalize upd H6 T (.tup [.str y, .str z]) = H7 at *
        rw [pv_due hv]
        have hP7 := m7 _ _ hP5
        have P0 : H PA = none := hPA
        refine ⟨PA, _, rfl, DPut.t hP7 eT (by rw [sizeLine_eq]; omega), ?_⟩
        refine ⟨_, _, rfl, same_wr (m5.trans m7) P0, upd_same, (upd_ne (Ne.symm nPL)).trans (m7 _ _ hL5), md5.trans (fun c o q => ?_), Nat.le_trans (length_putK _ _ _) (by omega), fun y' hy' z' hz' => right_put (.inr (prs y' hy' z' hz')), fun z' hz' => ?_⟩
        · obtain ⟨q1, q⟩ := del_some q
          obtain ⟨q2, q⟩ := del_some q
          exact del_of q1 (del_of q2 ((upd_ne q2).trans (m7 _ _ q)))
        · rw [List.take_succ, hz] at hz'
          rcases List.mem_append.mp hz' with h | h
          · exact right_put (.inr (pr2 z' h))
          · exact right_put (.inl ⟨rfl, List.mem_singleton.mp h⟩)
      · clear kp hP4 lp prs c5
        rintro σ H5 ⟨c5, kp, rfl, m5, hP5, hL5, md5, lp, prs, pr2⟩
        rw [List.length_map, List.take_length] at pr2
        rw [List.length_map] at lp
        refine ⟨_, _, kp, kl4, rfl, ⟨m5, hP5, hL5, fun y' hy' => ?_, fun y' hy' z' hz' => ?_⟩, by omega, ll4⟩
        · obtain ⟨v, e, z⟩ := lt4 y' hy'
          exact ⟨v, e, z.same md5⟩
        · have hy' : y' ∈ b.names.take (i + 1) := hy'
          rw [tk] at hy'
          rcases List.mem_append.mp hy' with h | h
          · exact prs y' h z' hz'
          · rw [List.mem_singleton.mp h]
            exact pr2 z' hz'
    · rintro σ H2 ⟨c4, c5, kp, kl, rfl, ⟨m2, hP, hL, lts, prs⟩, lp, ll⟩
      rw [List.length_map] at lts prs
      rw [show (sdOf b).names.take b.names.length = b.names from List.take_length] at lts prs
      have lts : ∀ y ∈ b.names, ∃ v, valV kl (Sum.inr y) = some v ∧ LtAt sn (sdOf b) H2 y v := fun y hy => by
        obtain ⟨v, e, p, F, e2, hp, r⟩ := lts y hy
        exact ⟨v, e, p, F, e2, (del_some (del_some hp).2).2, r⟩
      have Z : BdAtT K H2 a b := hb.same m2
      refine ⟨_, rfl, ta_use Z ok fun H5 p bs fd m5 np hp tb isT al => ⟨p, rfl, ⟨_, SqL.of hp⟩, ?_⟩⟩
      have hP5 := m5 _ _ hP
      have hL5 := m5 _ _ hL
      have M5 := m2.trans m5
      have lts5 : ∀ y ∈ b.names, ∃ v, valV kl (Sum.inr y) = some v ∧ LtAt sn (sdOf b) H5 y v := fun y hy => by
        obtain ⟨v, e, z⟩ := lts y hy
        exact ⟨v, e, z.same m5⟩
      clear lts hP hL m5 np lp ll Z
      refine for_list (K := K) (a := p) (xs := bs.map V.ref) (fun i σ H' => ∃ c4 c5 c6 c7, σ = [some (.ref a), some (.bl sn), some (.ref PA), some (.ref LT), c4, c5, c6, c7, none] ∧ Same H5 H' ∧ ∀ t ∈ fd.take i, Good sn (sdOf b) t)
        ⟨_, _, _, _, rfl, Same.refl _, fun t ht => (by rw [List.take_zero] at ht; cases ht)⟩ (fun i σ H' _ ⟨_, _, _, _, _, m, _⟩ => SqL.of (m _ _ hp)) ?_ ?_
      · rintro i v σ H6 hi ⟨c4, c5, c6, c7, rfl, m6, gd⟩
        obtain ⟨t0, hq, rfl⟩ : ∃ q, bs[i]? = some q ∧ v = .ref q := by
          rw [List.getElem?_map] at hi
          cases c : bs[i]? with
          | none =>
            rw [c] at hi
            cases hi
          | some u =>
            rw [c] at hi
            exact ⟨u, rfl, (Option.some.inj hi).symm⟩
        obtain ⟨t, ht, qt⟩ := L2.paired_get tb hq
        obtain ⟨r, rne, rr, rfl⟩ := isT t (List.mem_of_getElem? ht)
        have qt6 := m6 _ _ qt
        have M6 := M5.trans m6
        have ltab : (tabR (sdOf b) r).length = b.names.length := List.length_map _
        -- lead = dict(list(zip(base[0], table)))
        refine ⟨_, rfl, a, _, 0, .ref an, rfl, rfl, seqT_same h1 M6, atI_nat (j := 0) rfl, _, rfl, an, t0, sV b.names, sV (tabR (sdOf b) r), rfl, .inl (.inr ⟨on, M6 _ _ h2⟩), SqT.up qt6, by rw [List.length_map, List.length_map, ltab], by rw [List.length_map]; omega, by rw [List.length_map]; omega, fun H7 p2 ts m7 p0 hp2 pp => ⟨p2, ts, kvS (b.names.zip (tabR (sdOf b) r)), rfl, SqL.of hp2, pairs_fwd pp, fun LD hLD => ?_⟩⟩
        rw [mergeK_zip nd ltab]
        have s8 := m7.trans (same_new hLD (o := .dK (kvS (b.names.zip (tabR (sdOf b) r)))))
        have hD8 : (upd H7 LD (.dK (kvS (b.names.zip (tabR (sdOf b) r))))) LD = some (.dK (kvS (b.names.zip (tabR (sdOf b) r)))) := upd_same
        generalize upd H7 LD (.dK (kvS (b.names.zip (tabR (sdOf b) r)))) = H8 at *
        clear pp hp2 p0 m7 hLD
        have M8 := M6.trans s8
        have m58 := m6.trans s8
        have ld : ∀ {H : Hp} {z : Str}, Same H8 H → z ∈ b.names → DGet H LD (.str z) (some (.str ((sdOf b).lead z r))) := fun {H z} m hz => (valV_tabR (b := sdOf b) nd hz) ▸ DGet.k (k := Sum.inr z) (m _ _ hD8)
        refine ⟨_, rfl, _, rfl, a, _, 0, .ref an, rfl, rfl, seqT_same h1 M8, atI_nat (j := 0) rfl, an, _, 0, .str (sdOf b).start, rfl, rfl, .inl (.inr ⟨on, M8 _ _ h2⟩), atI_nat (j := 0) okS.at0, fr_use (hb.same M8).plain ok okS.start_in fun H9 p3 F2 m9 np3 hp3 lF2 inF2 => ⟨p3, rfl, ⟨_, SqL.of hp3⟩, ?_⟩⟩
        refine for_list (K := K) (a := p3) (xs := sV F2) (fun j σ H' => ∃ c4, σ = [some (.ref a), some (.bl sn), some (.ref PA), some (.ref LT), c4, c5, some (.ref t0), some (.ref LD), none] ∧ Same H9 H' ∧ ∀ y ∈ F2.take j, ∀ l, Late sn (sdOf b) ((sdOf b).lead y r) l → Alike (sdOf b) l ((sdOf b).lead l r))
          ⟨_, rfl, Same.refl _, fun y hy => (by rw [List.take_zero] at hy; cases hy)⟩ (fun j σ H' _ ⟨_, _, m, _⟩ => SqL.of (m _ _ hp3)) ?_ ?_
        · rintro j v σ H10 hj ⟨c4', rfl, m10, al10⟩
          obtain ⟨y, hy, rfl⟩ := str_at hj
          have yc := (inF2 y).mp (List.mem_of_getElem? hy)
          have yin : y ∈ b.names := yc.in_ okS okS.start_in
          have zin : (sdOf b).lead y r ∈ b.names := lead_in okS rr yin
          obtain ⟨v, ev, p4, F4, rfl, hp4, lF4, inF4⟩ := lts5 _ zin
          have m810 := m9.trans m10
          have m510 := m58.trans m810
          have hp10 := m510 _ _ hp4
          have g2 : DGet H10 LT (.str ((sdOf b).lead y r)) (some (.ref p4)) := ev ▸ DGet.k (k := Sum.inr ((sdOf b).lead y r)) (m510 _ _ hL5)
          refine ⟨_, rfl, _, rfl, _, rfl, LD, _, rfl, ld m810 yin, LT, _, rfl, g2, p4, rfl, ⟨_, SqL.of hp10⟩, fun D hD => ?_⟩
          refine lc_sm (walk_list (K := K) (a := p4) (xs := sV F4)) (keepN fun l => Alike (sdOf b) l ((sdOf b).lead l r)) (fun x y => y = x) hD (fun H' mm => SqL.of (mm _ _ hp10)) (by rw [List.length_map]; omega) (fun y1 H11 N Y hy1 mm iD kn ky => ?_) (fun H11 ys mm hy2 py => ?_)
          · obtain ⟨l, hl, rfl⟩ := List.mem_map.mp hy1
            obtain ⟨oD, hoD⟩ := iD
            have lin : l ∈ b.names := by
              have z := (inF4 l).mp hl
              cases sn with
              | true => exact (show CanF _ _ _ from z).in_ okS zin
              | false => exact (show l = _ from z) ▸ zin
            have l2in : (sdOf b).lead l r ∈ b.names := lead_in okS rr lin
            refine ⟨rfl, _, rfl, _, rfl, _, rfl, _, rfl, LD, _, rfl, ld (m810.trans mm) lin, by show 2 ≤ sizeLine; decide, fun T hT => ?_⟩
            have s12 := same_new hT (o := .tup [.str l, .str ((sdOf b).lead l r)])
            have nTD : D ≠ T := ne_of_none hoD hT
            have e12 : (upd H11 T (.tup [.str l, .str ((sdOf b).lead l r)])) D = H11 D := upd_ne nTD
            have eT : (upd H11 T (.tup [.str l, .str ((sdOf b).lead l r)])) T = some (.tup ((k2 l ((sdOf b).lead l r)).map kV)) := upd_same
            generalize upd H11 T (.tup [.str l, .str ((sdOf b).lead l r)]) = H12 at *
            have g3 : DGet H12 PA (.ref T) (some (pv_ (sdOf b) l ((sdOf b).lead l r))) := (prs l lin _ l2in) ▸ DGet.t ((m510.trans (mm.trans s12)) _ _ hP5) eT
            refine ⟨PA, _, rfl, g3, keepN (fun l => Alike (sdOf b) l ((sdOf b).lead l r)) (.str l), rfl, ?_⟩
            cases c : keepN (fun l => Alike (sdOf b) l ((sdOf b).lead l r)) (.str l) with
            | true => exact iteT (B := N H12) ⟨_, rfl, ky c _ H12 (mm.trans s12) e12 rfl⟩
            | false => exact iteF (kn c H12 (mm.trans s12) e12)
          have ey : ys = (sV F4).filter (keepN fun l => Alike (sdOf b) l ((sdOf b).lead l r)) := (paired_eq (f := fun z : V => z) py).trans (List.map_id _)
          have iA : ys.isEmpty = true ↔ ∀ l ∈ F4, Alike (sdOf b) l ((sdOf b).lead l r) := by
            rw [ey, keepN_nil]
          refine ⟨Nat.zero_le _, fun e0 he0 => ⟨D, e0, ys, rfl, rfl, SqL.of ((upd_ne (ne_of_none hy2 he0)).trans hy2), SqL.of upd_same, _, rfl, ?_⟩⟩
          have m13 := m10.trans (mm.trans (same_new he0 (o := .lst [])))
          generalize upd H11 e0 (.lst []) = H13 at *
          cases c : ys.isEmpty with
          | false =>
            refine iteT (q H13 false (M8.trans (m9.trans m13)) ⟨fun z => (by cases z), fun br => ?_⟩)
            have : ys.isEmpty = true := iA.mpr fun l hl => allOf_iff.mpr br y yc r rne rr l ((inF4 l).mp hl)
            rw [c] at this
            exact this
          | true =>
            refine iteF ⟨_, rfl, m13, fun y' hy' => ?_⟩
            rw [List.take_succ, hy] at hy'
            rcases List.mem_append.mp hy' with h | h
            · exact al10 y' h
            · rw [List.mem_singleton.mp h]
              exact fun l hl => iA.mp c l ((inF4 l).mpr hl)
        · rintro σ H10 ⟨c4', rfl, m10, al10⟩
          rw [List.length_map, List.take_length] at al10
          refine ⟨_, _, _, _, rfl, m58.trans (m9.trans m10), fun t' ht' => ?_⟩
          rw [List.take_succ, ht] at ht'
          rcases List.mem_append.mp ht' with h | h
          · exact gd t' h
          · rw [List.mem_singleton.mp h]
            exact ⟨r, rr, rfl, fun y hy => al10 y ((inF2 y).mpr hy)⟩
      · rintro σ H6 ⟨c4, c5, c6, c7, rfl, m6, gd⟩
        rw [List.length_map, show bs.length = fd.length from tb.length, List.take_length] at gd
        exact q H6 true (M5.trans m6) ⟨fun _ => allOf_iff.mp (good_all okS gd al), fun _ => rfl⟩
end
end Bs
set_option Elab.async false
set_option linter.all false
set_option maxRecDepth 100000
set_option maxHeartbeats 2000000
/-! k30: stores that are written down; what they bear -/
namespace L2
namespace Pl
open PySem PySem.Spec PyProof.Rows LamP NdefX LamX DcTwo
theorem cut_take {xs : List V} (m : Nat) : cutV xs none (some (m : Int)) = xs.take m := by
  by_cases h : m ≤ xs.length
  · exact cut_to m h
  · unfold cutV
    rw [HT.sIx_none, HT.sIx_nat, Nat.min_eq_right (by omega), Nat.sub_zero, List.drop_zero, List.take_length, List.take_of_length_le (by omega)]
theorem cut_wholeA {xs : List V} {lo hi : Option Int} (h : HT.sIx xs.length 0 lo = 0 ∧ HT.sIx xs.length xs.length hi = xs.length) : cutV xs lo hi = xs := by
  unfold cutV
  rw [h.1, h.2, Nat.sub_zero, List.drop_zero, List.take_length]
theorem slA_use {K : PySem.W.Frag} {H : Hp} {a : Addr} {xs : List V} {lo hi : Option Int} {Q : VK} (h : SqT K H a xs) (q : ∀ H' p, Same H H' → SqT K H' p (cutV xs lo hi) → Q (.ref p) H') : rSlA K (.ref a) lo hi H Q :=
  ⟨a, xs, rfl, h, fun e => q H a (Same.refl H) (by rw [cut_wholeA e]; exact h), fun _ p hp => q _ p (same_new hp) (SqT.up upd_same)⟩
def Bd.cut (b : Bd) (k : Nat) : Bd := ⟨b.names, b.deeds.take k, b.looks⟩
theorem Bd.cut_ok {b : Bd} (ok : b.Ok) {k : Nat} (hk : 1 ≤ k) : (b.cut k).Ok where
  n1 := ok.n1
  n5 := ok.n5
  nd := ok.nd
  nn := ok.nn
  d1 := by
    show 1 ≤ (b.deeds.take k).length
    rw [List.length_take]
    have := ok.d1
    omega
  d4 := by
    show (b.deeds.take k).length ≤ 4
    rw [List.length_take]
    have := ok.d4
    omega
  dd := by
    show ((b.deeds.take k).map (·.1)).Nodup
    rw [List.map_take]
    exact ok.dd.sublist (List.take_sublist _ _)
  dn := fun x hx => ok.dn x (List.mem_of_mem_take hx)
  dl := fun x hx => ok.dl x (List.mem_of_mem_take hx)
  di := fun x hx => ok.di x (List.mem_of_mem_take hx)
  ll := ok.ll
  ln := ok.ln
theorem mergeK_nd : ∀ {more acc : List (Key × V)}, (∀ q ∈ more, ∀ p ∈ acc, p.1 ≠ q.1) → (more.map (·.1)).Nodup → mergeK acc more = acc ++ more
  | [], acc, _, _ => (List.append_nil acc).symm
  | q :: r, acc, h, nd => by
    obtain ⟨n1, n2⟩ := List.nodup_cons.mp nd
    show mergeK (putK acc q.1 q.2) r = _
    rw [putK_end fun p hp => h q (List.mem_cons_self ..) p hp, mergeK_nd (fun q' hq' p hp => ?_) n2, List.append_assoc]
    · rfl
    · rcases List.mem_append.mp hp with z | z
      · exact h q' (List.mem_cons_of_mem _ hq') p z
      · rw [List.mem_singleton.mp z]
        exact fun e => n1 (List.mem_map.mpr ⟨q', hq', (show q'.1 = q.1 from (show q.1 = q'.1 from e).symm)⟩)
abbrev trS (ps : List (Str × Str)) : List (TE × TE) := ps.map fun p => (tC (.str p.1), tC (.str p.2))
theorem pairs_S {σ : L2.St} : ∀ {ps : List (Str × Str)} {H : Hp} {Q : List (V × V) → Hp → Prop}, Q (ps.map fun p => (.str p.1, .str p.2)) H → tPairs (trS ps) σ H Q
  | [], _, _, h => h
  | p :: r, _, Q, h => pairs_S (ps := r) (Q := fun ps H3 => Q ((.str p.1, .str p.2) :: ps) H3) h
theorem disp_S {σ : L2.St} {ps : List (Str × Str)} {H : Hp} {Q : VK} (nd : (ps.map (·.1)).Nodup) (l : ps.length ≤ 15) (q : ∀ p, H p = none → Q (.ref p) (upd H p (.dK (kvS ps)))) : tDisp (trS ps) σ H Q := fun p hp => pairs_S ⟨upd_same, kvS ps, by
    unfold kvS
    rw [List.map_map]
    rfl, by unfold kvS; rw [List.length_map]; exact l, by
    rw [mergeK_nd (fun q _ p hp => by cases hp) (by
      unfold kvS
      rw [List.map_map]
      have : (ps.map ((fun x : Key × V => x.1) ∘ fun p => ((Sum.inr p.1 : Key), V.str p.2))) = (ps.map (·.1)).map (Sum.inr : Str → Key) := by
        rw [List.map_map]
        rfl
      rw [this]
      exact List.pairwise_map.mpr (List.Pairwise.imp (fun h e => h (Sum.inr.inj e)) nd)), List.nil_append, upd_upd]
    exact q p hp⟩
abbrev trD (ds : List (Str × List (Str × Str))) : List (TE × TE) := ds.map fun d => (tC (.str d.1), tDisp (trS d.2))
theorem pairs_D {σ : L2.St} : ∀ {ds : List (Str × List (Str × Str))} {H1 : Hp} {Q : List (V × V) → Hp → Prop}, (∀ d ∈ ds, (d.2.map (·.1)).Nodup ∧ d.2.length ≤ 15) → (∀ H' es, Same H1 H' → Paired (fun (e : Str × Addr) d => DeedAt H' e d ∧ H1 e.2 = none) es ds → Q (es.map fun e => (.str e.1, .ref e.2)) H') → tPairs (trD ds) σ H1 Q
  | [], H1, Q, _, q => q H1 [] (Same.refl H1) .nil
  | d :: r, H1, Q, hd, q => show tDisp (trS d.2) σ H1 (fun y H2 => tPairs (trD r) σ H2 fun ps H3 => Q ((.str d.1, y) :: ps) H3) from disp_S (hd d (List.mem_cons_self ..)).1 (hd d (List.mem_cons_self ..)).2 fun p hp => pairs_D (ds := r) (fun c hc => hd c (List.mem_cons_of_mem _ hc)) fun H' es m pr => q H' ((d.1, p) :: es) ((same_new hp).trans m) (.cons ⟨⟨rfl, m _ _ upd_same⟩, hp⟩ (pr.mono fun _ _ z => ⟨z.1, (same_new hp).free z.2⟩))
theorem disp_endS {H : Hp} {p : Addr} {ps : List (Str × Str)} (nd : (ps.map (·.1)).Nodup) (l : ps.length ≤ 15) : (upd H p (.dK [])) p = some (.dK []) ∧ (ps.map fun p => (V.str p.1, V.str p.2)) = (kvS ps).map (fun kv => (kV kv.1, kv.2)) ∧ (kvS ps).length ≤ 15 ∧ mergeK [] (kvS ps) = kvS ps := ⟨upd_same, by
    unfold kvS
    rw [List.map_map]
    rfl, by unfold kvS; rw [List.length_map]; exact l, by
    rw [mergeK_nd (fun q _ p hp => by cases hp) (by
      unfold kvS
      rw [List.map_map]
      have : (ps.map ((fun x : Key × V => x.1) ∘ fun p => ((Sum.inr p.1 : Key), V.str p.2))) = (ps.map (·.1)).map (Sum.inr : Str → Key) := by
        rw [List.map_map]
        rfl
      rw [this]
      exact List.pairwise_map.mpr (List.Pairwise.imp (fun h e => h (Sum.inr.inj e)) nd)), List.nil_append]⟩
theorem disp_end {H H' : Hp} {D : Addr} {es : List (Str × Addr)} {ds : List (Str × List (Str × Str))} (nd : (ds.map (·.1)).Nodup) (l : ds.length ≤ 15) (hD : H D = none) (m : Same (upd H D (.dK [])) H') (pr : Paired (fun (e : Str × Addr) d => DeedAt H' e d ∧ (upd H D (.dK [])) e.2 = none) es ds) :
    H' D = some (.dK []) ∧ (es.map fun e => (V.str e.1, V.ref e.2)) = (kvR es).map (fun kv => (kV kv.1, kv.2)) ∧ (kvR es).length ≤ 15 ∧ mergeK [] (kvR es) = kvR es ∧ Same H (upd H' D (.dK (kvR es))) ∧ Paired (DeedAt (upd H' D (.dK (kvR es)))) es ds ∧ ∀ e ∈ es, e.2 ≠ D := by
  have hD' := m D (.dK []) upd_same
  have m0 := (same_new hD (o := .dK [])).trans m
  have ne : ∀ e ∈ es, e.2 ≠ D := fun e he z => by
    obtain ⟨d, _, _, h⟩ := paired_left pr he
    rw [z, upd_same] at h
    cases h
  have keys : es.map (·.1) = ds.map (·.1) := by
    clear hD' m0 ne
    induction pr with
    | nil => rfl
    | cons h t ih =>
      rw [List.map_cons, List.map_cons, h.1.1]
      exact congrArg _ (ih (List.nodup_cons.mp nd).2 (by rw [List.length_cons] at l; omega))
  refine ⟨hD', by unfold kvR; rw [List.map_map]; rfl, by unfold kvR; rw [List.length_map, pr.length]; exact l, ?_, same_wr m0 hD, pr.mono fun e d z => ⟨z.1.1, ?_⟩, ne⟩
  · rw [mergeK_nd (fun q _ p hp => by cases hp) (by
      unfold kvR
      rw [List.map_map]
      have : (es.map ((fun x : Key × V => x.1) ∘ fun p => ((Sum.inr p.1 : Key), V.ref p.2))) = (es.map (·.1)).map (Sum.inr : Str → Key) := by
        rw [List.map_map]
        rfl
      rw [this, keys]
      exact List.pairwise_map.mpr (List.Pairwise.imp (fun h e => h (Sum.inr.inj e)) nd)), List.nil_append]
  · have n : e.2 ≠ D := fun y => by
      have := z.2
      rw [y, upd_same] at this
      cases this
    exact (upd_ne n).trans z.1.2
theorem init_use {C : Addr} {H5 : Hp} {x dx la D d2 : Addr} {es : List (Str × Addr)} {b : Sd} {Q : VK} {E : XK} (nx : H5 x = none) (ndx : H5 dx = none) (ha : H5 la = some (.lst (sV b.names))) (hD : H5 D = some (.dK (kvR es))) (pr : Paired (DeedAt H5) es b.ds) (ne : ∀ e ∈ es, e.2 ≠ D) (hl : H5 d2 = some (.dK (kvS b.ls))) (ok : b.Ok) (q : ∀ H6, Same H5 H6 → H5 x = none → StAt C H6 x b → Q .non H6) : spInit C [.ref x, .ref la, .ref D, .ref d2] (upd (upd H5 dx (.own x)) x (.ins C dx [])) Q E :=
  have s6 : Same H5 (upd (upd H5 dx (.own x)) x (.ins C dx [])) := same_wr (same_new ndx) nx
  ⟨H5, x, dx, la, D, d2, es, b, rfl, s6, nx, upd_same, s6 _ _ ha, s6 _ _ hD, pr.mono fun _ _ z => z.same s6, ne, s6 _ _ hl, ok, fun H6 m hst => q H6 m nx hst⟩
/-! what they bear -/
theorem shut_again {b : Sd} (ok : b.Ok) {d : Str} {S : List Str} (hd : d ∈ b.deeds) (h1 : ∀ s ∈ b.names, b.lead1 d s ∈ S) (h2 : ∀ c ∈ b.deeds, ∀ s ∈ S, b.lead1 c s ∈ S) (h3 : ∀ s ∈ S, b.lead1 d s = s) : AllAgain b d := fun u v hu hv => by
  have hs : b.lead b.start u ∈ b.names := lead_in ok hu ok.start_in
  have go : ∀ (v : List Str) (s : Str), s ∈ S → Row b v → b.lead s v ∈ S := by
    intro v
    induction v with
    | nil => exact fun s h _ => h
    | cons c v ih => exact fun s h hv => ih (b.lead1 c s) (h2 c (hv c (List.mem_cons_self ..)) s h) fun e he => hv e (List.mem_cons_of_mem _ he)
  have z : behind b d u v ∈ S := go v _ (h1 _ hs) hv
  have e : b.lead (behind b d u v) [d] = behind b d u v := h3 _ z
  rw [e]
  exact alike_refl _
def sdStep : Sd := ⟨["a", "b", "c"], [("one", [("a", "b"), ("b", "b"), ("c", "c")]), ("two", [("a", "c"), ("b", "c"), ("c", "c")])], [("a", "x"), ("b", "y"), ("c", "z")]⟩
def sdLate : Sd := ⟨["a", "b", "c"], [("f", [("a", "b"), ("b", "b"), ("c", "c")]), ("g", [("a", "a"), ("b", "c"), ("c", "c")])], [("a", "x"), ("b", "x"), ("c", "y")]⟩
def sdFlag : Sd := ⟨["no", "yes"], [("mark", [("no", "yes"), ("yes", "yes")])], [("no", "x"), ("yes", "y")]⟩
theorem names_B {ws : List Str} (h : ws.all isNameB = true) : ∀ x ∈ ws, IsName x := fun x hx => isName_of (List.all_eq_true.mp h x hx)
theorem ok_sd {b : Sd} (h : (decide (1 ≤ b.names.length) && decide (b.names.length ≤ 5) && decide b.names.Nodup && b.names.all isNameB && decide (1 ≤ b.ds.length) && decide (b.ds.length ≤ 4) && decide (b.ds.map (·.1)).Nodup && b.ds.all (fun p => isNameB p.1 && decide (p.2.length = b.names.length) && b.names.all (fun x => (p.2.lookup x).isSome) && p.2.all fun q => decide (q.2 ∈ b.names)) && decide (b.ls.length = b.names.length) && b.names.all (fun x => (b.ls.lookup x).isSome) && b.ls.all fun p => isNameB p.2) = true) : b.Ok := by
  simp only [Bool.and_eq_true, decide_eq_true_eq] at h
  obtain ⟨⟨⟨⟨⟨⟨⟨⟨⟨⟨h1, h2⟩, h3⟩, h4⟩, h5⟩, h6⟩, h7⟩, h8⟩, h9⟩, h10⟩, h11⟩ := h
  refine ⟨h1, h2, h3, names_B h4, h5, h6, h7, fun p hp => ?_, ⟨h9, List.all_eq_true.mp h10⟩, fun p hp => isName_of (List.all_eq_true.mp h11 p hp)⟩
  have := List.all_eq_true.mp h8 p hp
  simp only [Bool.and_eq_true, decide_eq_true_eq] at this
  obtain ⟨⟨⟨i1, i2⟩, i3⟩, i4⟩ := this
  exact ⟨isName_of i1, ⟨i2, List.all_eq_true.mp i3⟩, fun q hq => of_decide_eq_true (List.all_eq_true.mp i4 q hq)⟩
theorem step_ok : sdStep.Ok := ok_sd (by decide +kernel)
theorem late_ok : sdLate.Ok := ok_sd (by decide +kernel)
theorem flag_ok : sdFlag.Ok := ok_sd (by decide +kernel)
theorem step_since : AllSince sdStep := since_iff.mpr fun d hd => by
  have : d = "one" ∨ d = "two" := by
    have hd : d ∈ (["one", "two"] : List Str) := hd
    simpa using hd
  rcases this with rfl | rfl
  · exact shut_again step_ok hd (S := ["b", "c"]) (by decide +kernel) (by decide +kernel) (by decide +kernel)
  · exact shut_again step_ok hd (S := ["c"]) (by decide +kernel) (by decide +kernel) (by decide +kernel)
theorem flag_since : AllSince sdFlag := since_iff.mpr fun d hd => by
  have : d = "mark" := by
    have hd : d ∈ (["mark"] : List Str) := hd
    simpa using hd
  subst this
  exact shut_again flag_ok hd (S := ["yes"]) (by decide +kernel) (by decide +kernel) (by decide +kernel)
theorem late_day : ¬ AllDay sdLate := fun h => by
  have a := h [] ["g", "f"] row_nil (fun d hd => by revert d hd; decide +kernel)
  exact a [] ⟨row_nil, by decide +kernel⟩
end Pl
end L2
set_option Elab.async false
set_option linter.all false
set_option maxRecDepth 100000
set_option maxHeartbeats 2000000
/-! x != y of two instances of a class with an own __eq__ and without an own __ne__ -/
namespace HX
open PySem PySem.Spec PyProof.Rows
section
variable {M : Model} {prog : Program} {w : World} {A : Around} {E : Value → Shared → Prop} {s : Shared} {K : PySem.W.Frag} {x C f L : Addr} {ox : Obj} {od : Option Obj} {m : Str → Option Value} {h₀ : Heap}
theorem ifB_ne {args : List Value} {Q : Option Value → Shared → Prop} (X : K.In s.heap) (I : PySem.W.InstAt s.heap x ox C od) (hs : PySem.W.findIn K (.ref C) "__ne__" = some (some (.builtin "object.__ne__")))
    (h : wpAny M A (call (.builtin "object.__ne__") (.ref x :: args)) (fun v => Q (some v)) E s) : wpAny M A (callSpecialIfBound? (.ref x) "__ne__" args) Q E s := by
  simp only [callSpecialIfBound?, bindSpecialIfBound?]
  refine wpAny_holding (wpAny_bind (wpAny_bind (wpAny_bind (I.type.here ((PySem.W.looks_findIn X hs).here ?_)))))
  refine wpAny_bind (wpAny_askSetting (wpAny_ite ?_))
  have fin : wpAny M A (call (.builtin "object.__ne__") ([.ref x] ++ args) >>= fun v => pure (some v)) Q E s := wpAny_bind (wpAny_mono h (fun v s' h' => wpAny_pure h') fun _ _ h' => h')
  split
  · exact wpAny_bind (wpAny_of_eq (F.cmp_object.ne.bind _) (wpAny_pure (by exact fin)))
  · exact wpAny_tryCatch (wpAny_bind (wpAny_of_eq (F.cmp_object.ne.bind _) (wpAny_pure (by exact fin))))
theorem entry_ne {y : Value} {Q : Fin → Shared → Prop} (hu : A.units < cLine) (X : K.In s.heap) (I : PySem.W.InstAt s.heap x ox C od) (hs : PySem.W.findIn K (.ref C) "__eq__" = some (some (.ref f))) (hf : PySem.W.isFn K (.ref f) = true)
    (hcall : wpAny (model prog w) A (call (.ref f) [.ref x, y]) (fun v s' => ∃ b, v = .bool b ∧ Q (.done (.ret (.bool (!b)))) s') E s) :
    wpAny (model prog w) A (Builtin.«object.__ne__» ⟨[.ref x, y], []⟩) Q E s := by
  unfold Builtin.«object.__ne__»
  repeat (first
    | with_reducible refine wpAny_cRoomFor hu ?_
    | (refine wpAny_bind (m := callSpecialIfBound? (.ref x) (Str.ofString "__eq__") [y])
        (PySem.W.ifBound_K X I hs hf (wpAny_mono hcall (fun r s' hr => by
          obtain ⟨b, rfl, hq⟩ := hr
          repeat (first | exact hq | exact wpAny_pure hq | exact wpAny_truthy_bool hq | (refine wpAny_bind (m := truthy (.bool _)) (wpAny_truthy_bool ?_)) | wp_step)) fun _ _ e => e)))
    | wp_step)
theorem ne_K {b tb : Value} {Q : Value → Shared → Prop} (hu : A.units + 1 < cLine) (F0 : Fr h₀ L s.heap m) (X₀ : K.In h₀) (I : PySem.W.InstAt s.heap x ox C od) (hb : PySem.W.Looks (model prog w) s.heap (typeOf b) tb) (hn : PySem.W.notFirst K C tb = true)
    (hne : PySem.W.findIn K (.ref C) "__ne__" = some (some (.builtin "object.__ne__"))) (hm : PySem.W.mroIn K C (.type "object") = some true)
    (hs : PySem.W.findIn K (.ref C) "__eq__" = some (some (.ref f))) (hf : PySem.W.isFn K (.ref f) = true)
    (h : wpAny (model prog w) A.in1 (call (.ref f) [.ref x, b]) (fun v s' => ∃ b, v = .bool b ∧ Q (.bool (!b)) s') E s) : wpAny (model prog w) A (richCompare .NotEq (.ref x) b) Q E s := by
  have X := X₀.keeps F0.keep
  have one : wpAny (model prog w) A (tryCompare (.ref x) "__ne__" b) (fun r s' => ∃ v, r = some v ∧ Q v s') E s := by
    unfold tryCompare
    refine wpAny_bind (ifB_ne X I hne (wpAny_call (codeAny_call_builtin F.cmp_object.ne.plain F.cmpEntry_ne (PySem.W.check_slot F.cmpKind_ne F.cmpSplit_ne (I.type.andThen (PySem.W.looks_mroIn X hm)) (F.cmpArgs_ne _ _)
      (entry_ne (A := A.in1) (by show A.units + 1 < cLine; exact hu) X I hs hf (wpAny_mono h (fun v s' hv => ?_) fun _ _ e => e))))))
    obtain ⟨b', rfl, hq⟩ := hv
    exact ⟨b', rfl, wpAny_pure ⟨_, rfl, hq⟩⟩
  unfold richCompare
  simp only [oneThing_ref]
  refine wpAny_holding (wpAny_bind (wpAny_cRoomFor (Nat.lt_of_succ_lt hu) ?_))
  rw [cmpInfo_NotEq]
  dsimp only
  refine wpAny_bind (I.type.here (wpAny_bind (hb.here ?_)))
  split
  · rename_i q
    have e : PySem.W.subIn K tb (.ref C) = some false := by
      rcases Bool.or_eq_true_iff.mp hn with e | e
      · rw [beq_iff_eq.mp e] at q; simp at q
      · exact beq_iff_eq.mp e
    refine wpAny_bind ((PySem.W.looks_subIn X e).here ?_)
    simp only [Bool.false_eq_true, if_false]
    refine wpAny_bind (wpAny_mono one (fun r s' z => ?_) fun _ _ e => e)
    obtain ⟨v, rfl, hq⟩ := z
    exact wpAny_pure hq
  · refine wpAny_bind (wpAny_pure ?_)
    simp only [Bool.false_eq_true, if_false]
    refine wpAny_bind (wpAny_mono one (fun r s' z => ?_) fun _ _ e => e)
    obtain ⟨v, rfl, hq⟩ := z
    exact wpAny_pure hq
end
end HX
namespace L2
open PySem PySem.Spec PyProof.Rows
/-- the class at C: == is the def at f, != is object's -/
structure NeC (K : PySem.W.Frag) (C f : Addr) : Prop where
  eq : PySem.W.findIn K (.ref C) "__eq__" = some (some (.ref f))
  fn : PySem.W.isFn K (.ref f) = true
  ne : PySem.W.findIn K (.ref C) "__ne__" = some (some (.builtin "object.__ne__"))
  ob : PySem.W.mroIn K C (.type "object") = some true
def rNeOwn (C : Addr) (sp : Sp) (E : XK) : R2 := fun x y H Q => ∃ a b dx dy fs gs, x = .ref a ∧ y = .ref b ∧ H a = some (.ins C dx fs) ∧ H b = some (.ins C dy gs) ∧ sp [.ref a, .ref b] H (fun z H' => ∃ t, z = .bl t ∧ Q (.bl (!t)) H') E
section
variable {X : Cx}
theorem op_neOwn {CX : CXT} {C f : Addr} {fd : FuncData} {ps : List Str} {n : Nat} {sp : Sp} {E : XK} (F : FnOk X.prog X.w X.K X.mg X.base CX n f fd ps sp) (N : NeC X.K C f) (hb : Binds X.K fd ps []) (hr : Room (n + 1) X.A) (hx : Passes CX X E) :
    OpR X (compareOp .NotEq) (rNeOwn C sp E) := by
  intro pins s σ H x y v u Q I rx ry h
  obtain ⟨a, b, dx, dy, fs, gs, rfl, rfl, ha, hb', hsp⟩ := h
  cases (show v = Value.ref a from rx)
  cases (show u = Value.ref b from ry)
  obtain ⟨mA, J, _⟩ := ins_get I.hok ha
  obtain ⟨mB, J', _⟩ := ins_get I.hok hb'
  obtain ⟨od, J, _⟩ := J.look
  obtain ⟨od', J', _⟩ := J'.look
  obtain ⟨m, hF⟩ := I.fr
  show wpAny (model X.prog X.w) X.A (richCompare .NotEq (.ref a) (.ref b)) (EP X pins σ Q) X.xe s
  have e0 : Env0 X.prog X.w X.K X.mg X.base X.A.in1 X.stack s H := I.env0.in1
  have r2 : Vals [V.ref a, V.ref b] [Value.ref a, Value.ref b] := .cons rfl (.cons rfl .nil)
  have hl := F.len _ _ _ _ hsp
  refine HX.ne_K (tb := .ref C) (by have := (Room.in1 hr).units0; exact this) hF I.ok.mod.kin J J'.type (by simp [PySem.W.notFirst]) N.ne N.ob N.eq N.fn ?_
  refine wpAny_call (codeAny_mono (F.run X.A.in1 X.stack s H ⟨[.ref a, .ref b], []⟩ [.ref a, .ref b] [.ref a, .ref b] _ E hr.in1 e0 (by
    have := hb s [.ref a, .ref b] I.kIn (by simpa using hl)
    simpa using this) r2 hsp) fun r s' hq => ?_)
  cases r with
  | error e => exact hx pins σ H s e s' I hq
  | ok fl =>
    cases fl with
    | ret w =>
      obtain ⟨z, H', I', rz, t, ez, q⟩ := I.after hq
      subst ez
      cases rz
      exact ⟨t, rfl, .bl (!t), H', I', rfl, q⟩
    | next => exact False.elim hq
    | brk => exact False.elim hq
    | cont => exact False.elim hq
end
end L2
set_option Elab.async false
set_option linter.all false
set_option maxRecDepth 100000
set_option maxHeartbeats 2000000
namespace L2
namespace Pl
open PySem PySem.Spec PyProof.Rows
theorem strOk_of {w : Str} (h : IsName w) : PyData.strOk w = true := by
  unfold PyData.strOk
  rw [← Array.all_toList, List.all_eq_true]
  intro c hc
  have := h.low c hc
  exact decide_eq_true (by omega)
theorem lay_strs : ∀ {ws : List Str}, (∀ x ∈ ws, IsName x) → PyData.canLayAll0 (ws.map PyData.str) = true ∧ PyData.depthAll (ws.map PyData.str) ≤ 1
  | [], _ => ⟨by simp [PyData.canLayAll0], by simp [PyData.depthAll]⟩
  | w :: ws, h => by
    obtain ⟨h1, h2⟩ := lay_strs (ws := ws) fun x hx => h x (List.mem_cons_of_mem _ hx)
    have h3 := strOk_of (h w (List.mem_cons_self ..))
    refine ⟨?_, ?_⟩
    · rw [List.map_cons, PyData.canLayAll0, h1, PyData.canLay0, h3]
      rfl
    · rw [List.map_cons, PyData.depthAll, PyData.depth]
      omega
theorem shaped_strs {ws : List Str} (h : ∀ x ∈ ws, IsName x) : SeqAt.shaped (.tuple (ws.map PyData.str)) = true := by
  obtain ⟨h1, h2⟩ := lay_strs h
  unfold SeqAt.shaped
  rw [PyData.canLay0, h1, PyData.depth]
  exact decide_eq_true (by omega)
theorem eqv_strs {ws : List Str} (h : ∀ x ∈ ws, IsName x) : PyData.eqv (.tuple (ws.map PyData.str)) (.tuple (ws.map PyData.str)) = true :=
  SeqAt.eqv_refl _ (by rw [PyData.canLay0]; exact (lay_strs h).1)
theorem dpAll_strs {K : PySem.W.Frag} {H : Hp} : ∀ {ws : List Str}, DpAll K H (sV ws) (ws.map PyData.str)
  | [] => .nil
  | w :: ws => .cons (.str w) dpAll_strs
theorem keys_nodup {α : Type} [BEq α] [LawfulBEq α] : ∀ {ks ws : List α}, ws.Nodup → (∀ z ∈ ws, z ∈ ks) → ks.length ≤ ws.length → ks.Nodup
  | [], _, _, _, _ => List.nodup_nil
  | k :: r, ws, nd, h, hl => by
    rw [List.length_cons] at hl
    rw [List.nodup_cons]
    have nk : k ∉ r := fun hk => by
      have := nd_le nd (m := r) fun z hz => by
        rcases List.mem_cons.mp (h z hz) with rfl | q
        · exact hk
        · exact q
      omega
    refine ⟨nk, keys_nodup (ws := ws.erase k) (nd.erase k) (fun z hz => ?_) ?_⟩
    · have hz2 := (List.Nodup.mem_erase_iff nd).mp hz
      exact (List.mem_cons.mp (h z hz2.2)).resolve_left hz2.1
    · rw [List.length_erase]
      split <;> omega
theorem lookup_mem {x : Str} : ∀ {ps : List (Str × Str)}, (ps.lookup x).isSome = true → x ∈ ps.map (·.1)
  | p :: r, h => by
    rw [List.lookup_cons] at h
    rw [List.map_cons, List.mem_cons]
    split at h
    · rename_i e
      exact .inl (eq_of_beq e)
    · exact .inr (lookup_mem h)
theorem Full.keys {ps : List (Str × Str)} {ws : List Str} (h : Full ps ws) (nd : ws.Nodup) : (ps.map (·.1)).Nodup :=
  keys_nodup nd (fun z hz => lookup_mem (h.has z hz)) (by rw [List.length_map, h.len]; exact Nat.le_refl _)
theorem lookup_own {x y : Str} : ∀ {ps : List (Str × Str)}, (ps.map (·.1)).Nodup → (x, y) ∈ ps → ps.lookup x = some y
  | p :: r, nd, h => by
    rw [List.map_cons] at nd
    obtain ⟨n1, n2⟩ := List.nodup_cons.mp nd
    rw [List.lookup_cons]
    rcases List.mem_cons.mp h with h | h
    · rw [← h, beq_self_eq_true]
    · have : (x == p.1) = false := beq_eq_false_iff_ne.mpr fun e => n1 (e ▸ List.mem_map_of_mem (f := (·.1)) h)
      rw [this]
      exact lookup_own n2 h
theorem eqR_kvS {K : PySem.W.Frag} {H : Hp} {d e : Addr} {ps : List (Str × Str)} (nd : (ps.map (·.1)).Nodup) (h1 : H d = some (.dK (kvS ps))) (h2 : H e = some (.dK (kvS ps))) : EqR K H (EqV K H 1) (.ref d) (.ref e) := by
  refine .inr ⟨d, e, _, _, rfl, rfl, h1, h2, rfl, fun p hp => ?_⟩
  obtain ⟨q, hq, rfl⟩ := List.mem_map.mp hp
  refine ⟨.str q.2, ?_, .inl ⟨rfl, rfl⟩⟩
  show valV (kvS ps) (Sum.inr q.1) = _
  rw [valV_kvS, lookup_own nd hq]
  rfl
/-- the rows of two stores' leads, where the deeds are the same -/
theorem leads_two {H : Hp} {es es' : List (Str × Addr)} {ds : List (Str × List (Str × Str))} (h : Paired (DeedAt H) es ds) (h' : Paired (DeedAt H) es' ds) (nd : (ds.map (·.1)).Nodup) :
    es.length = es'.length ∧ ∀ e ∈ es, ∃ e' ps, (e.1, ps) ∈ ds ∧ H e.2 = some (.dK (kvS ps)) ∧ valV (kvR es') (Sum.inr e.1 : Key) = some (.ref e') ∧ H e' = some (.dK (kvS ps)) := by
  refine ⟨h.length.trans h'.length.symm, fun e he => ?_⟩
  obtain ⟨p, hp, q1, q2⟩ := paired_left h he
  obtain ⟨e', ps, a1, a2, a3, a4⟩ := lead_at h' nd (d := e.1) (by rw [q1]; exact List.mem_map_of_mem hp)
  have hu : ∀ {ds : List (Str × List (Str × Str))}, (ds.map (·.1)).Nodup → ∀ {x : Str} {u v : List (Str × Str)}, (x, u) ∈ ds → (x, v) ∈ ds → u = v := by
    intro ds
    induction ds with
    | nil => intro _ x u v h; cases h
    | cons p r ih =>
      intro nd x u v h1 h2
      rw [List.map_cons] at nd
      obtain ⟨n1, n2⟩ := List.nodup_cons.mp nd
      rcases List.mem_cons.mp h1 with h1 | h1
      · rcases List.mem_cons.mp h2 with h2 | h2
        · rw [← h1] at h2
          exact (Prod.mk.inj h2).2.symm
        · exact absurd (by rw [← h1]; exact List.mem_map_of_mem (f := (·.1)) h2) n1
      · rcases List.mem_cons.mp h2 with h2 | h2
        · exact absurd (by rw [← h2]; exact List.mem_map_of_mem (f := (·.1)) h1) n1
        · exact ih n2 h1 h2
  have : p.2 = ps := hu nd (x := e.1) (by rw [q1]; exact hp) a1
  exact ⟨e', ps, a1, by rw [← this]; exact q2, a3, a4⟩
/-- the class Store, as isinstance, == and != ask -/
structure StE (K : PySem.W.Frag) (C : Addr) : Prop where
  ca : PySem.W.findIn K (.ref C) "__class__" = some (some (.builtin "object.__class__"))
  cn : PySem.W.specialIn K (.builtin "object.__class__") "__get__" = some (some (.builtin "getset_descriptor.__get__"))
  ct : PySem.W.takesIn K (.builtin "object.__class__") = some true
  cm : PySem.W.mroIn K C (.type "object") = some true
  own : PySem.W.kitOne K (.ref C) (.ref C) = some true
def spEqSt (C : Addr) : Sp := fun vs H Q _ => ∃ x y b, vs = [.ref x, .ref y] ∧ StAt C H x b ∧ StAt C H y b ∧ b.Ok ∧ Q (.bl true) H
end Pl
end L2
namespace Bs
open PySem PySem.Spec PyProof.Rows L2 L2.Pl
section
variable {P : Program} {w : World} {K : PySem.W.Frag} {mg : Str → Option Value} {base : Heap} {f : Addr} {fd : FuncData}
theorem scEq : FnScope ["self", "other"] ["self", "other"] (defScope sEq) := ⟨rfl, rfl, rfl, by decide +kernel, rfl, by decide +kernel, by decide +kernel⟩
theorem ok_eq {C : Addr} (G : Gn mg) (T : StF K mg C) (TE : StE K C) (F : FnM K "__eq__" "Store.__eq__" sEq f fd) : FnOk P w K mg base CX0 2 f fd ["self", "other"] (spEqSt C) := by
  refine F.ok scEq (fun vs H Q E h => ?_) (fun cdv A outer s H vs Q E hr h => ?_)
  · obtain ⟨_, _, _, rfl, _⟩ := h
    rfl
  · obtain ⟨x, y, b, rfl, hx, hy, ok, q⟩ := h
    obtain ⟨dx, ts, td, dl, dk, es, h1, h2, h3, h4, h5, h6⟩ := hx
    obtain ⟨dx', ts', td', dl', dk', es', g1, g2, g3, g4, g5, g6⟩ := hy
    refine ⟨_, PSs.nox (pss_one (ps_ret (pe_and (pe_callB call_isi (by rfl) G.isi bIsi (pa_cons (pv 1) (pa_cons (pe_glob (v := .ref C) (by rfl) T.gC rfl) pa_nil)))
      (pe_and (pe_cmpR (op_eqD hr.units) (pe_fld (pv 0) rfl) (pe_fld (pv 1) rfl) (by rfl))
      (pe_and (pe_cmpR (op_eqD hr.units) (pe_fld (pv 0) rfl) (pe_fld (pv 1) rfl) (by rfl))
      (pe_and (pe_cmpR (op_eqV hr.units) (pe_fld (pv 0) rfl) (pe_fld (pv 1) rfl) (by rfl))
      (pe_one (pe_cmpR (op_eqV hr.units) (pe_fld (pv 0) rfl) (pe_fld (pv 1) rfl) (by rfl))))))))), ?_⟩
    have nD : ∀ x ∈ b.ds.map (·.1), IsName x := fun x hx => by
      obtain ⟨p, hp, rfl⟩ := List.mem_map.mp hx
      exact (ok.di p hp).1
    refine ⟨_, rfl, .ref y, .ref C, .ref C, .ref C, true, rfl, .own C, .base (.ins g1 T.cl TE.ca TE.cn TE.ct TE.cm), TE.own, true, rfl, ?_⟩
    refine ⟨_, rfl, x, C, dx, _, _, rfl, h1, T.cl, T.n1, st_look1, _, rfl, y, C, dx', _, _, rfl, g1, T.cl, T.n1, st_look1, _, _, .tup (.inl (.inl h2)) dpAll_strs, .tup (.inl (.inl g2)) dpAll_strs, shaped_strs ok.nn, shaped_strs ok.nn, _, rfl, ?_⟩
    rw [eqv_strs ok.nn]
    refine ⟨_, rfl, x, C, dx, _, _, rfl, h1, T.cl, T.n2, st_look2, _, rfl, y, C, dx', _, _, rfl, g1, T.cl, T.n2, st_look2, _, _, .tup (.inl (.inl h3)) dpAll_strs, .tup (.inl (.inl g3)) dpAll_strs, shaped_strs nD, shaped_strs nD, _, rfl, ?_⟩
    rw [eqv_strs nD]
    obtain ⟨e1, e2⟩ := leads_two h5 g5 ok.dd
    refine ⟨_, rfl, x, C, dx, _, _, rfl, h1, T.cl, T.n3, st_look3, _, rfl, y, C, dx', _, _, rfl, g1, T.cl, T.n3, st_look3, 2, by omega, .inr ⟨dl, dl', _, _, rfl, rfl, h4, g4, by show (es.map _).length = (es'.map _).length; rw [List.length_map, List.length_map, e1], fun p hp => ?_⟩, true, rfl, ?_⟩
    · obtain ⟨e, he, rfl⟩ := List.mem_map.mp hp
      obtain ⟨e', ps, a0, a1, a2, a3⟩ := e2 e he
      exact ⟨.ref e', a2, .inr (.inr (eqR_kvS ((ok.di _ a0).2.1.keys ok.nd) a1 a3))⟩
    · exact ⟨_, rfl, x, C, dx, _, _, rfl, h1, T.cl, T.n4, st_look4, _, rfl, y, C, dx', _, _, rfl, g1, T.cl, T.n4, st_look4, 1, by omega, eqR_kvS (ok.lf.keys ok.nd) h6 g6, q⟩
end
end Bs
set_option Elab.async false
set_option linter.all false
set_option maxRecDepth 100000
set_option maxHeartbeats 4000000
/-! k30: what is told -/
namespace L2
namespace Pl
open PySem PySem.Spec PyProof.Rows LamP NdefX LamX DcTwo
theorem PairAtT.sameT {TT : List NTab} {K : PySem.W.Frag} {H H' : Hp} {v : V} {p : Str × List Str} (h : PairAtT K H v p) (e : SameT TT H H') : PairAtT K H' v p :=
  let ⟨t, l, z, a, b⟩ := h
  ⟨t, l, z, seqT_sameT a e, e.keep _ _ b⟩
theorem BdAtT.sameT {TT : List NTab} {K : PySem.W.Frag} {H H' : Hp} {a : Addr} {b : Bd} (h : BdAtT K H a b) (e : SameT TT H H') : BdAtT K H' a b :=
  let ⟨n, d, l, ps, h1, h2, h3, h4, h5⟩ := h
  ⟨n, d, l, ps, seqT_sameT h1 e, (let ⟨o, q, r⟩ := h2; ⟨o, e.keep _ _ q, r⟩), seqT_sameT h3 e, h4.mono fun _ _ q => q.sameT e, seqT_sameT h5 e⟩
theorem paired_takeA {α β : Type} {F : α → β → Prop} : ∀ {xs : List α} {ys : List β}, Paired F xs ys → ∀ n, Paired F (xs.take n) (ys.take n)
  | _, _, .nil, n => by
    rw [List.take_nil, List.take_nil]
    exact .nil
  | _, _, .cons a t, 0 => .nil
  | _, _, .cons a t, n + 1 => .cons a (paired_takeA t n)
def Tld (TT : List NTab) (s : Bool) (b : Sd) (H H' : Hp) (v : V) : Prop := SameT TT H H' ∧ ((v = .non ∧ Bears s b) ∨ ∃ T ps rs u v' x w, v = .ref T ∧ TdAt s b H' T ps rs u v' x w ∧ (∀ p ∈ ps, H p = none) ∧ ¬ Bears s b)
theorem day_told {C : Addr} {TT : List NTab} {H : Hp} {x : Addr} {b : Sd} {Q : VK} {E : XK} (hT : TabsN TT H) (hx : StAt C H x b) (ok : b.Ok) (q : ∀ v H', Tld TT false b H H' v → Q v H') : spDay C TT [.ref x] H Q E :=
  ⟨x, b, rfl, hT, hx, ok, fun H' T p q1 r u v w t s => q _ H' ⟨t.same, .inr ⟨T, [p, q1, r], [u, v, w], u, v, [], w, rfl, ⟨t.at_, .cons ⟨t.hp, s.1, by have := t.lu; omega⟩ (.cons ⟨t.hq, s.2.1, t.lv⟩ (.cons ⟨t.hr, s.2.2.2.2.1, t.lw⟩ .nil)), rfl, fun _ => rfl, s⟩, fun z hz => by
    rcases List.mem_cons.mp hz with rfl | hz
    · exact t.np
    · rcases List.mem_cons.mp hz with rfl | hz
      · exact t.nq
      · rw [List.mem_singleton.mp hz]
        exact t.nr, not_day s⟩⟩, fun a H' m => q _ H' ⟨m, .inl ⟨rfl, a⟩⟩⟩
theorem since_told {C : Addr} {TT : List NTab} {H : Hp} {x : Addr} {b : Sd} {Q : VK} {E : XK} (hT : TabsN TT H) (hx : StAt C H x b) (ok : b.Ok) (q : ∀ v H', Tld TT true b H H' v → Q v H') : spSince C TT [.ref x] H Q E :=
  ⟨x, b, rfl, hT, hx, ok, fun H' T p q1 r l u v xx w t s => q _ H' ⟨t.same, .inr ⟨T, [p, q1, r, l], [u, v, xx, w], u, v, xx, w, rfl, ⟨t.at_, .cons ⟨t.hp, s.1, by have := t.lu; omega⟩ (.cons ⟨t.hq, s.2.1, t.lv⟩ (.cons ⟨t.hr, s.2.2.1, by have := t.lx; omega⟩ (.cons ⟨t.ht, s.2.2.2.2.1, t.lw⟩ .nil))), rfl, fun z => (by cases z), s⟩, fun z hz => by
    rcases List.mem_cons.mp hz with rfl | hz
    · exact t.np
    · rcases List.mem_cons.mp hz with rfl | hz
      · exact t.nq
      · rcases List.mem_cons.mp hz with rfl | hz
        · exact t.nr
        · rw [List.mem_singleton.mp hz]
          exact t.nt, not_since s⟩⟩, fun a H' m => q _ H' ⟨m, .inl ⟨rfl, a⟩⟩⟩
end Pl
end L2
set_option Elab.async false
set_option linter.all false
set_option maxRecDepth 100000
set_option maxHeartbeats 8000000
/-! k30: the law -/
namespace Bs
open PySem PySem.Spec PyProof.Rows L2 L2.Pl LamP NdefX LamX DcTwo
section
variable {P : Program} {w : World} {K : PySem.W.Frag} {mg : Str → Option Value} {base : Heap} {f : Addr} {fd : FuncData}
abbrev NLw : List Str := ["script", "start", "source", "turn", "base", "store", "is_since", "lap", "told", "row", "both", "step", "late", "flag"]
theorem scLaw : FnScope NLw ["script"] (defScope sLaw) := ⟨rfl, rfl, rfl, by decide +kernel, rfl, by decide +kernel, by decide +kernel⟩
theorem ok_law {C fi fq : Addr} {TT : List NTab} {fdi fdq : FuncData} (G : Gn mg) (T : StF K mg C)
    (M : Mk K C fi) (oI : FnOk P w K mg base CX0 4 fi fdi ["self", "standings", "deeds", "looks"] (spInit C)) (bI : L2.Binds K fdi ["self", "standings", "deeds", "looks"] [])
    (oQ : FnOk P w K mg base CX0 2 fq fdq ["self", "other"] (spEqSt C)) (bQ : L2.Binds K fdq ["self", "other"] []) (nC : NeC K C fq)
    (hSo : Has P w K mg base CX0 "_law_source" 1 ["script", "start"] (spSource K)) (hB : Has P w K mg base CX0 "_law_base" 5 ["source", "most"] (spBaseT K)) (hM : Has P w K mg base CX0 "_law_made" 6 ["base"] (spMade K C))
    (hD : Has P w K mg base CX0 "day" 11 ["store"] (spDay C TT)) (hS : Has P w K mg base CX0 "since" 11 ["store"] (spSince C TT)) (hBr : Has P w K mg base CX0 "_law_bears" 3 ["base", "is_since"] (spBears K)) (hR : Has P w K mg base CX0 "_law_right" 3 ["base", "told", "is_since"] (spRightD K)) (F : FnP K "law" sLaw f fd) : FnG P w K mg base CX0 12 f fd ["script"] (spLawN K TT) := by
  have d_use : ∀ {H : Hp} {x : Addr} {b : Sd} {Q : VK} {E : XK}, TabsN TT H → StAt C H x b → b.Ok → (∀ v H', Tld TT false b H H' v → Q v H') → spDay C TT [.ref x] H Q E := fun h0 h1 h2 q => day_told h0 h1 h2 q
  have s_use : ∀ {H : Hp} {x : Addr} {b : Sd} {Q : VK} {E : XK}, TabsN TT H → StAt C H x b → b.Ok → (∀ v H', Tld TT true b H H' v → Q v H') → spSince C TT [.ref x] H Q E := fun h0 h1 h2 q => since_told h0 h1 h2 q
  generalize spDay C TT = pD at hD d_use
  generalize spSince C TT = pS at hS s_use
  have b_use : ∀ {H : Hp} {a : Addr} {b : Bd} {s : Bool} {Q : VK} {E : XK}, BdAtT K H a b → b.Ok → (∀ H' k, Same H H' → (k = true ↔ Bears s (sdOf b)) → Q (.bl k) H') → spBears K [.ref a, .bl s] H Q E := fun h1 h2 q => ⟨_, _, _, rfl, h1, h2, q⟩
  generalize spBears K = pB at hBr b_use
  have r_use : ∀ {H : Hp} {ba T : Addr} {s : Bool} {b : Bd} {ps : List Addr} {rs : List (List Str)} {u v x w : List Str} {Q : VK} {E : XK}, BdAt K H ba b → b.Ok → TdAt s (sdOf b) H T ps rs u v x w → (∀ H', Same H H' → Q (.bl true) H') → spRightD K [.ref ba, .ref T, .bl s] H Q E := fun h1 h2 h3 q => rightD_use h1 h2 h3 q
  generalize spRightD K = pR at hR r_use
  have i_use : ∀ {H5 : Hp} {x dx la D d2 : Addr} {es : List (Str × Addr)} {b : Sd} {Q : VK} {E : XK}, H5 x = none → H5 dx = none → H5 la = some (.lst (sV b.names)) → H5 D = some (.dK (kvR es)) → Paired (DeedAt H5) es b.ds → (∀ e ∈ es, e.2 ≠ D) → H5 d2 = some (.dK (kvS b.ls)) → b.Ok → (∀ H6, Same H5 H6 → H5 x = none → StAt C H6 x b → Q .non H6) → spInit C [.ref x, .ref la, .ref D, .ref d2] (upd (upd H5 dx (.own x)) x (.ins C dx [])) Q E := fun h1 h2 h3 h4 h5 h6 h7 h8 q => init_use h1 h2 h3 h4 h5 h6 h7 h8 q
  generalize spInit C = pI at oI i_use
  obtain ⟨fSo, dSo, oSo, bSo, gSo, kSo⟩ := hSo.ex
  obtain ⟨fB, dB, oB, bB, gB, kB⟩ := hB.ex
  obtain ⟨fM, dM, oM, bM, gM, kM⟩ := hM.ex
  obtain ⟨fD, dD, oD, bD, gD, kD⟩ := hD.ex
  obtain ⟨fS, dS, oS, bS, gS, kS⟩ := hS.ex
  obtain ⟨fBr, dBr, oBr, bBr, gBr, kBr⟩ := hBr.ex
  obtain ⟨fR, dR, oR, bR, gR, kR⟩ := hR.ex
  refine fnG_of F scLaw (fun vs H Q E h => ?_) (fun cdv A hg outer s H vs Q E hr h => ?_)
  · obtain ⟨_, _, _, rfl, _⟩ := h
    rfl
  · obtain ⟨hTb, a, ns, rfl, hA, hlen, hbits, q⟩ := h
    have hr1 := hr.mono (j := 1) (by decide)
    have hr3 := hr.mono (j := 3) (by decide)
    have hr5 := hr.mono (j := 5) (by decide)
    have hr6 := hr.mono (j := 6) (by decide)
    refine ⟨_, PSs.nox (pss_cons (ps_for PassesOwn.never rfl (pi_range1 (by rfl) G.range (pa_cons (pe_callB (call_max2 rfl) (by rfl) G.max bMax (pa_cons pe_int (pa_cons (pe_callB (call_min2 rfl) (by rfl) G.min bMin (pa_cons pe_int (pa_cons (pe_callB call_len_seq (by rfl) G.len bLen (pa_cons (pv 0) pa_nil)) pa_nil))) pa_nil))) pa_nil)) (pg_name (i := 1) scLaw.nd rfl (.inl rfl))
        (pss_cons (ps_set (i := 2) scLaw.nd rfl (.inl rfl) (pe_call oSo hr1 (by rfl) gSo kSo bSo .nil pass0 (pa_cons (pv 0) (pa_cons (pv 1) pa_nil))))
        (pss_one (ps_for PassesOwn.never rfl (pi_range1 (by rfl) G.range (pa_cons pe_int pa_nil)) (pg_name (i := 3) scLaw.nd rfl (.inl rfl))
          (pss_cons (ps_set (i := 4) scLaw.nd rfl (.inl rfl) (pe_call oB hr5 (by rfl) gB kB bB .nil pass0 (pa_cons (pv 2) (pa_cons (pe_ifExp (pt_cmpR op_gt (pv 3) pe_int (nomark _)) pe_int pe_int) pa_nil))))
          (pss_cons (ps_set (i := 4) scLaw.nd rfl (.inl rfl) (pe_tup (pa_cons (pe_ix ix_tup (pv 4) pe_int (fun _ _ => rfl)) (pa_cons (pe_slice sl_tupA (pe_ix ix_tup (pv 4) pe_int (fun _ _ => rfl)) po_none (po_some (pe_ifExp (pt_cmpR op_gt (pv 3) pe_int (nomark _)) pe_int pe_int))) (pa_cons (pe_ix ix_tup (pv 4) pe_int (fun _ _ => rfl)) pa_nil)))))
          (pss_cons (ps_set (i := 5) scLaw.nd rfl (.inl rfl) (pe_call oM hr6 (by rfl) gM kM bM .nil pass0 (pa_cons (pv 4) pa_nil)))
          (pss_cons (ps_for PassesOwn.never rfl (pi_list (pe_lst (pa_cons pe_bl (pa_cons pe_bl pa_nil)))) (pg_name (i := 6) scLaw.nd rfl (.inl rfl))
            (pss_one (ps_for PassesOwn.never rfl (pi_range1 (by rfl) G.range (pa_cons pe_int pa_nil)) (pg_name (i := 7) scLaw.nd rfl (.inl rfl))
              (pss_cons (ps_set (i := 8) scLaw.nd rfl (.inl rfl) (pe_ifExp (pt_val (pv 6)) (pe_call oS hr (by rfl) gS kS bS .nil pass0 (pa_cons (pv 5) pa_nil)) (pe_call oD hr (by rfl) gD kD bD .nil pass0 (pa_cons (pv 5) pa_nil))))
              (pss_cons (ps_if (pt_cmpR op_ne (pe_cmpR op_isN (pv 8) pe_non (nomark _)) (pe_call oBr hr3 (by rfl) gBr kBr bBr .nil pass0 (pa_cons (pv 4) (pa_cons (pv 6) pa_nil))) (nomark _)) (pss_one (ps_ret pe_bl)) pss_nil)
              (pss_one (ps_if (pt_cmpR op_notN (pv 8) pe_non (nomark _))
                (pss_cons (ps_if (pt_not (pt_val (pe_call oR hr3 (by rfl) gR kR bR .nil pass0 (pa_cons (pv 4) (pa_cons (pv 8) (pa_cons (pv 6) pa_nil)))))) (pss_one (ps_ret pe_bl)) pss_nil)
                (pss_one (ps_for PassesOwn.never rfl (pi_tup (pv 8)) (pg_name (i := 9) scLaw.nd rfl (.inl rfl)) (pss_one (ps_expr (pe_bm PySem.F.plainAttrs_list PySem.F.slot_list_append PySem.F.type_list_append mt_append (pv 9) (pa_cons pe_non pa_nil)))))))
                pss_nil)))))))
          (pss_one (ps_if (pt_cmpR (op_neOwn oQ nC bQ hr3 pass0) (pv 5) (pe_call oM hr6 (by rfl) gM kM bM .nil pass0 (pa_cons (pv 4) pa_nil)) (nomark _)) (pss_one (ps_ret pe_bl)) pss_nil))))))))))
      (pss_cons (ps_set (i := 10) scLaw.nd rfl (.inl rfl) (pe_disp (pps_cons pe_str (pe_disp (pps_cons pe_str pe_str (pps_cons pe_str pe_str (pps_cons pe_str pe_str pps_nil))) rfl rfl (by simp) (by decide)) (pps_cons pe_str (pe_disp (pps_cons pe_str pe_str (pps_cons pe_str pe_str (pps_cons pe_str pe_str pps_nil))) rfl rfl (by simp) (by decide)) pps_nil)) rfl rfl (by simp) (by decide)))
      (pss_cons (ps_set (i := 11) scLaw.nd rfl (.inl rfl) (pe_make M oI hr5 (by rfl) T.gC bI .nil pass0 (pa_cons (pe_lst (pa_cons pe_str (pa_cons pe_str (pa_cons pe_str pa_nil)))) (pa_cons (pv 10) (pa_cons (pe_disp (pps_cons pe_str pe_str (pps_cons pe_str pe_str (pps_cons pe_str pe_str pps_nil))) rfl rfl (by simp) (by decide)) pa_nil)))))
      (pss_cons (ps_set (i := 12) scLaw.nd rfl (.inl rfl) (pe_disp (pps_cons pe_str (pe_disp (pps_cons pe_str pe_str (pps_cons pe_str pe_str (pps_cons pe_str pe_str pps_nil))) rfl rfl (by simp) (by decide)) (pps_cons pe_str (pe_disp (pps_cons pe_str pe_str (pps_cons pe_str pe_str (pps_cons pe_str pe_str pps_nil))) rfl rfl (by simp) (by decide)) pps_nil)) rfl rfl (by simp) (by decide)))
      (pss_cons (ps_if (pt_cmpR op_isN (pe_call oD hr (by rfl) gD kD bD .nil pass0 (pa_cons (pe_make M oI hr5 (by rfl) T.gC bI .nil pass0 (pa_cons (pe_lst (pa_cons pe_str (pa_cons pe_str (pa_cons pe_str pa_nil)))) (pa_cons (pv 12) (pa_cons (pe_disp (pps_cons pe_str pe_str (pps_cons pe_str pe_str (pps_cons pe_str pe_str pps_nil))) rfl rfl (by simp) (by decide)) pa_nil)))) pa_nil)) pe_non (nomark _)) (pss_one (ps_ret pe_bl)) pss_nil)
      (pss_cons (ps_set (i := 13) scLaw.nd rfl (.inl rfl) (pe_make M oI hr5 (by rfl) T.gC bI .nil pass0 (pa_cons (pe_lst (pa_cons pe_str (pa_cons pe_str pa_nil))) (pa_cons (pe_disp (pps_cons pe_str (pe_disp (pps_cons pe_str pe_str (pps_cons pe_str pe_str pps_nil)) rfl rfl (by simp) (by decide)) pps_nil) rfl rfl (by simp) (by decide)) (pa_cons (pe_disp (pps_cons pe_str pe_str (pps_cons pe_str pe_str pps_nil)) rfl rfl (by simp) (by decide)) pa_nil)))))
      (pss_one (ps_ret (pe_and (pe_cmpR op_isN (pe_call oD hr (by rfl) gD kD bD .nil pass0 (pa_cons (pv 11) pa_nil)) pe_non (nomark _)) (pe_and (pe_cmpR op_isN (pe_call oS hr (by rfl) gS kS bS .nil pass0 (pa_cons (pv 11) pa_nil)) pe_non (nomark _)) (pe_and (pe_cmpR op_isN (pe_call oD hr (by rfl) gD kD bD .nil pass0 (pa_cons (pv 13) pa_nil)) pe_non (nomark _)) (pe_one (pe_cmpR op_isN (pe_call oS hr (by rfl) gS kS bS .nil pass0 (pa_cons (pv 13) pa_nil)) pe_non (nomark _)))))))))))))), ?_⟩
    refine ⟨_, rfl, a, _, rfl, .inl hA, _, _, rfl, _, _, rfl, _, rfl, ?_, ?_, for_range (fun i σ H' => ∃ y1 y2 y3 y4 y5 y6 y7 y8 y9, σ = [some (.ref a), y1, y2, y3, y4, y5, y6, y7, y8, y9, none, none, none, none] ∧ SameT TT H H') ⟨_, _, _, _, _, _, _, _, _, rfl, SameT.refl H⟩ ?_ ?_⟩
    · split <;> split <;> omega
    · split <;> split <;> omega
    · rintro i σ H1 hi ⟨y1, y2, y3, y4, y5, y6, y7, y8, y9, rfl, s1⟩
      have hi4 : i < 4 := by
        revert hi
        split <;> split <;> omega
      have hst : (0 : Int) + (i : Int) = ((i : Nat) : Int) := by omega
      rw [hst]
      refine ⟨_, rfl, _, rfl, a, ns, i, rfl, s1.seq hA, hlen, hbits, by omega, fun so own mixed hso => ?_⟩
      have S0 : Src (upd H1 so (.lst [.int own, .int mixed])) so := ⟨own, mixed, upd_same⟩
      have tb0 : TabsN TT (upd H1 so (.lst [.int own, .int mixed])) := (s1.tabs hTb).ext (same_new hso)
      refine ⟨4, rfl, by omega, by omega, for_range (fun j σ H' => ∃ y3 y4 y5 y6 y7 y8 y9, σ = [some (.ref a), some (.int (i : Nat)), some (.ref so), y3, y4, y5, y6, y7, y8, y9, none, none, none, none] ∧ MvT TT so (upd H1 so (.lst [.int own, .int mixed])) H') ⟨_, _, _, _, _, _, _, rfl, MvT.refl S0⟩ ?_ ?_⟩
      · rintro j σ H2 hj ⟨y3, y4, y5, y6, y7, y8, y9, rfl, m2⟩
        refine ⟨_, rfl, _, rfl, _, _, rfl, rfl, _, rfl, te_split (fun v H' => H' = H2 ∧ ∃ k : Nat, 1 ≤ k ∧ k ≤ 5 ∧ v = .int (k : Int)) (fun _ Q' hq => hq _ _ ⟨rfl, 4, by decide, by decide, rfl⟩) (fun _ Q' hq => hq _ _ ⟨rfl, 5, by decide, by decide, rfl⟩) ?_⟩
        rintro _ _ ⟨rfl, k, k1, k5, rfl⟩
        refine ⟨so, k, rfl, m2.src, k1, k5, fun ba0 H3 b0 m3 ok0 _ bd0 => ?_⟩
        have bd := bd0.same (H' := H3) del_all
        clear bd0 k1 k5
        obtain ⟨an, ad, al, ps, h1, ⟨on, h2, hdn⟩, h3, h4, h5⟩ := bd
        -- base = (base[0], base[1][:..], base[2])
        refine ⟨_, rfl, ba0, _, 0, .ref an, rfl, rfl, h1, atI_nat (j := 0) rfl, _, rfl, ba0, _, 1, .ref ad, rfl, rfl, h1, atI_nat (j := 1) rfl, _, rfl, _, _, rfl, rfl, _, rfl, te_split (fun v H' => H' = H3 ∧ ∃ k : Nat, 1 ≤ k ∧ v = .int (k : Int)) (fun _ Q' hq => hq _ _ ⟨rfl, 4, by decide, rfl⟩) (fun _ Q' hq => hq _ _ ⟨rfl, 2, by decide, rfl⟩) ?_⟩
        rintro _ _ ⟨rfl, c, c1, rfl⟩
        refine ⟨_, rfl, slA_use h3 fun H4 ad' m4 hd4 => ?_⟩
        rw [cut_take] at hd4
        refine ⟨_, rfl, ba0, _, 2, .ref al, rfl, rfl, seqT_same h1 m4, atI_nat (j := 2) rfl, by show 3 ≤ sizeLine; decide, fun ba hba => ?_⟩
        have m5 := m4.trans (same_new hba (o := .tup [.ref an, .ref ad', .ref al]))
        have hb5 : (upd H4 ba (.tup [.ref an, .ref ad', .ref al])) ba = some (.tup [.ref an, .ref ad', .ref al]) := upd_same
        have hd5 := seqT_same hd4 (same_new hba (o := .tup [.ref an, .ref ad', .ref al]))
        generalize upd H4 ba (.tup [.ref an, .ref ad', .ref al]) = H5 at *
        have ok := Bd.cut_ok ok0 c1
        have bd5 : BdAtT K H5 ba (b0.cut c) := ⟨an, ad', al, ps.take c, SqT.up hb5, ⟨on, m5 _ _ h2, hdn⟩, hd5, (paired_takeA h4 c).mono fun _ _ z => PairAtT.same z m5, seqT_same h5 m5⟩
        generalize b0.cut c = b at *
        clear hd4 hb5 hd5 h1 h2 h3 h4 h5 m4 hba
        have M5 := m2.trans (Mv.t (m3.trans (Mv.of_same m3.src m5)))
        have tb5 : TabsN TT H5 := M5.tabs S0 tb0
        -- store = _law_made(base)
        refine ⟨_, rfl, ba, b, rfl, bd5.plain, ok, fun H6 x m6 hx0 hx => ?_⟩
        have bd6 := bd5.same m6
        have tb6 := tb5.ext m6
        have M6 := M5.trans (Mv.t (Mv.of_same M5.src m6))
        have okS := sdOf_ok ok
        clear m6 hx0 bd5 tb5 M5 m5 m3 ok0 hdn
        refine ⟨by show 2 ≤ sizeLine; decide, fun L hL => ⟨L, rfl, ⟨_, SqL.of upd_same⟩, ?_⟩⟩
        have sL : SameT TT H6 (upd H6 L (.lst [.bl false, .bl true])) := sameT_new hL
        have eL : (upd H6 L (.lst [.bl false, .bl true])) L = some (.lst [.bl false, .bl true]) := upd_same
        generalize upd H6 L (.lst [.bl false, .bl true]) = H7 at *
        refine for_list (K := K) (a := L) (xs := [.bl false, .bl true]) (fun u σ H' => ∃ y6 y7 y8 y9, σ = [some (.ref a), some (.int (i : Nat)), some (.ref so), some (.int (0 + (j : Nat))), some (.ref ba), some (.ref x), y6, y7, y8, y9, none, none, none, none] ∧ SameT TT H7 H')
          ⟨_, _, _, _, rfl, SameT.refl H7⟩ (fun u σ H' _ ⟨_, _, _, _, _, m⟩ => SqL.of (m _ _ eL)) ?_ ?_
        · rintro u v σ H8 hu ⟨y6, y7, y8, y9, rfl, m8⟩
          obtain ⟨s', rfl⟩ : ∃ s', v = .bl s' := by
            have := List.mem_of_getElem? hu
            simp only [List.mem_cons, List.mem_nil_iff, or_false] at this
            rcases this with rfl | rfl <;> exact ⟨_, rfl⟩
          have m68 := sL.trans m8
          refine ⟨2, rfl, by omega, by omega, for_range (fun lp σ H' => ∃ y7 y8 y9, σ = [some (.ref a), some (.int (i : Nat)), some (.ref so), some (.int (0 + (j : Nat))), some (.ref ba), some (.ref x), some (.bl s'), y7, y8, y9, none, none, none, none] ∧ SameT TT H8 H') ⟨_, _, _, rfl, SameT.refl H8⟩ ?_ ?_⟩
          · rintro lp σ H9 hlp ⟨y7, y8, y9, rfl, m9⟩
            have m69 := m68.trans m9
            have hx9 := hx.sameT m69
            have bd9 := bd6.sameT m69
            have tb9 := m69.tabs tb6
            -- told
            refine ⟨_, rfl, s', rfl, te_split (fun v H' => Tld TT s' (sdOf b) H9 H' v) (fun e Q' hq => ?_) (fun e Q' hq => ?_) ?_⟩
            · subst e
              exact ⟨_, rfl, s_use tb9 hx9 okS hq⟩
            · subst e
              exact ⟨_, rfl, d_use tb9 hx9 okS hq⟩
            rintro v H10 ⟨m10, told⟩
            have bd10 := bd9.sameT m10
            refine ⟨_, rfl, rfl, _, rfl, _, rfl, b_use bd10 ok fun H11 k m11 hk => ⟨rfl, _, rfl, ?_⟩⟩
            have m911 := m10.trans (Same.t m11)
            rcases told with ⟨rfl, br⟩ | ⟨Tp, qs, rs, u1, v1, x1, w1, rfl, td, np, nb⟩
            · have k1 : k = true := hk.mpr br
              subst k1
              exact iteF ⟨_, rfl, rfl, _, rfl, iteF ⟨_, _, _, rfl, m9.trans m911⟩⟩
            have k0 : k = false := by
              cases k with
              | false => rfl
              | true => exact (nb (hk.mp rfl)).elim
            subst k0
            refine iteF ⟨_, rfl, rfl, _, rfl, iteT ?_⟩
            have td11 : TdAt s' (sdOf b) H11 Tp qs rs u1 v1 x1 w1 := ⟨m11 _ _ td.at_, td.rows.mono fun _ _ z => ⟨m11 _ _ z.1, z.2⟩, td.eq_, td.nil_, td.shows⟩
            refine ⟨_, rfl, _, rfl, _, rfl, r_use (bd10.same m11).plain ok td11 fun H12 m12 => ⟨true, rfl, iteF ?_⟩⟩
            have m912 := m911.trans (Same.t m12)
            have hT12 := m12 _ _ td11.at_
            have rows12 : ∀ p ∈ qs, ∃ xs, H12 p = some (.lst xs) ∧ xs.length ≤ 25 := fun p hp => by
              obtain ⟨r, _, z⟩ := paired_left td11.rows hp
              exact ⟨sV r, m12 _ _ z.1, by rw [List.length_map]; exact z.2.2⟩
            refine ⟨_, rfl, Tp, rfl, ⟨_, SqT.up hT12⟩, ?_⟩
            refine for_tup (K := K) (a := Tp) (xs := qs.map V.ref) (fun n σ H' => ∃ y9, σ = [some (.ref a), some (.int (i : Nat)), some (.ref so), some (.int (0 + (j : Nat))), some (.ref ba), some (.ref x), some (.bl s'), some (.int (0 + (lp : Nat))), some (.ref Tp), y9, none, none, none, none] ∧ SameT TT H9 H' ∧ H' Tp = some (.tup (qs.map V.ref)) ∧ ∀ p ∈ qs, ∃ xs, H' p = some (.lst xs) ∧ xs.length ≤ 25 + n)
              ⟨_, rfl, m912, hT12, rows12⟩ (fun n σ H' _ ⟨_, _, _, z, _⟩ => SqT.up z) ?_ ?_
            · rintro n y σ H13 hn ⟨y9, rfl, m13, hT13, rows13⟩
              obtain ⟨p, hp, rfl⟩ := List.mem_map.mp (List.mem_of_getElem? hn)
              obtain ⟨xs, hxs, lxs⟩ := rows13 p hp
              have n4 : n < 4 := by
                have l1 := (List.getElem?_eq_some_iff.mp hn).1
                rw [List.length_map] at l1
                have l2 := td.pl.len
                split at l2 <;> omega
              refine ⟨_, rfl, .inl ⟨rfl, _, SqL.of hxs⟩, p, xs, .non, rfl, rfl, hxs, small1000 (by omega), _, rfl, sameT_wr m13 (np p hp) hxs, ?_, fun p' hp' => ?_⟩
              · refine (upd_ne fun z => ?_).trans hT13
                rw [← z, hT13] at hxs
                cases hxs
              · by_cases e : p' = p
                · subst e
                  exact ⟨_, upd_same, by rw [List.length_append]; show xs.length + 1 ≤ _; omega⟩
                · obtain ⟨xs', z1, z2⟩ := rows13 p' hp'
                  exact ⟨xs', (upd_ne e).trans z1, by omega⟩
            · rintro σ H13 ⟨y9, rfl, m13, _, _⟩
              exact ⟨_, _, _, rfl, m9.trans m13⟩
          · rintro σ H9 ⟨y7, y8, y9, rfl, m9⟩
            exact ⟨_, _, _, _, rfl, m8.trans m9⟩
        · rintro σ H8 ⟨y6, y7, y8, y9, rfl, m8⟩
          have m68 := sL.trans m8
          refine ⟨_, rfl, _, rfl, ba, b, rfl, (bd6.sameT m68).plain, ok, fun H9 x2 m9 hx20 hx2 => ?_⟩
          have hx9 := (hx.sameT m68).same m9
          obtain ⟨dx, ts, td, dl, dk, es, g1, g⟩ := id hx9
          obtain ⟨dx', ts', td', dl', dk', es', g1', g'⟩ := id hx2
          refine ⟨x, x2, dx, dx', _, _, rfl, rfl, g1, g1', x, x2, sdOf b, rfl, hx9, hx2, okS, true, rfl, false, rfl, iteF ?_⟩
          exact ⟨_, _, _, _, _, _, _, rfl, M6.trans ((m68.trans (Same.t m9)).mv M6.src)⟩
      · rintro σ H2 ⟨y3, y4, y5, y6, y7, y8, y9, rfl, m2⟩
        exact ⟨_, _, _, _, _, _, _, _, _, rfl, s1.trans (m2.over hso ⟨_, _, rfl⟩)⟩
    · rintro σ H1 ⟨y1, y2, y3, y4, y5, y6, y7, y8, y9, rfl, s1⟩
      have tb1 := s1.tabs hTb
      -- both, step
      intro D hD0
      refine pairs_D (ds := sdStep.ds) (by decide +kernel) fun HD es mD prD0 => ?_
      obtain ⟨z1, z2, z3, z4, m2, prD, neD⟩ := disp_end (by decide +kernel) (by decide) hD0 mD prD0
      refine ⟨z1, kvR es, z2, z3, ?_⟩
      rw [z4]
      have hD : (upd HD D (.dK (kvR es))) D = some (.dK (kvR es)) := upd_same
      generalize upd HD D (.dK (kvR es)) = H2 at *
      clear z1 z2 z3 z4 mD prD0 hD0
      refine ⟨by show 3 ≤ sizeLine; decide, fun la hla => ⟨_, rfl, fun d2 hd2 => pairs_S (ps := sdStep.ls) ?_⟩⟩
      obtain ⟨z1, z2, z3, z4⟩ := disp_endS (H := upd H2 la (.lst (sV sdStep.names))) (p := d2) (ps := sdStep.ls) (by decide +kernel) (by decide)
      refine ⟨z1, kvS sdStep.ls, z2, z3, ?_⟩
      rw [z4, L2.upd_upd]
      intro x dx nx ndx _
      have m3 := (same_new hla (o := .lst (sV sdStep.names))).trans (same_new hd2 (o := .dK (kvS sdStep.ls)))
      refine i_use (b := sdStep) nx ndx ((same_new hd2) _ _ upd_same) (m3 _ _ hD) (prD.mono fun _ _ z => z.same m3) neD upd_same step_ok fun H4 m4 _ st4 => ⟨rfl, ?_⟩
      have tb4 := (tb1.ext m2).ext (m3.trans m4)
      clear m2 hD prD neD m3 m4 hla hd2 nx ndx tb1
      -- late
      intro D5 hD0
      refine pairs_D (ds := sdLate.ds) (by decide +kernel) fun HD es5 mD prD0 => ?_
      obtain ⟨z1, z2, z3, z4, m5, prD, neD⟩ := disp_end (by decide +kernel) (by decide) hD0 mD prD0
      refine ⟨z1, kvR es5, z2, z3, ?_⟩
      rw [z4]
      have hD : (upd HD D5 (.dK (kvR es5))) D5 = some (.dK (kvR es5)) := upd_same
      generalize upd HD D5 (.dK (kvR es5)) = H5 at *
      clear z1 z2 z3 z4 mD prD0 hD0
      refine ⟨by show 3 ≤ sizeLine; decide, fun la hla => ⟨_, rfl, fun d2 hd2 => pairs_S (ps := sdLate.ls) ?_⟩⟩
      obtain ⟨z1, z2, z3, z4⟩ := disp_endS (H := upd H5 la (.lst (sV sdLate.names))) (p := d2) (ps := sdLate.ls) (by decide +kernel) (by decide)
      refine ⟨z1, kvS sdLate.ls, z2, z3, ?_⟩
      rw [z4, L2.upd_upd]
      intro x2 dx nx ndx _
      have m6 := (same_new hla (o := .lst (sV sdLate.names))).trans (same_new hd2 (o := .dK (kvS sdLate.ls)))
      refine i_use (b := sdLate) nx ndx ((same_new hd2) _ _ upd_same) (m6 _ _ hD) (prD.mono fun _ _ z => z.same m6) neD upd_same late_ok fun H7 m7 _ st7 => ⟨rfl, ?_⟩
      have m57 := m5.trans (m6.trans m7)
      refine d_use (tb4.ext m57) st7 late_ok fun v H8 ⟨m8, told⟩ => ⟨rfl, _, rfl, ?_⟩
      rcases told with ⟨rfl, br⟩ | ⟨Tp, qs, rs, u1, v1, x1, w1, rfl, td, np, nb⟩
      · exact (late_day br).elim
      refine iteF ?_
      have m48 := (Same.t (T := TT) m57).trans m8
      have tb8 := m48.tabs tb4
      have st8 := st4.sameT m48
      clear m5 hD prD neD m6 m7 hla hd2 nx ndx tb4 st7 m57 m8 td np m48
      -- flag
      refine ⟨by show 2 ≤ sizeLine; decide, fun la hla D9 hD0 => pairs_D (ds := sdFlag.ds) (by decide +kernel) fun HD es9 mD prD0 => ?_⟩
      obtain ⟨z1, z2, z3, z4, m9, prD, neD⟩ := disp_end (by decide +kernel) (by decide) hD0 mD prD0
      refine ⟨z1, kvR es9, z2, z3, ?_⟩
      rw [z4]
      have hD : (upd HD D9 (.dK (kvR es9))) D9 = some (.dK (kvR es9)) := upd_same
      generalize upd HD D9 (.dK (kvR es9)) = H9 at *
      clear z1 z2 z3 z4 mD prD0 hD0
      refine fun d2 hd2 => pairs_S (ps := sdFlag.ls) ?_
      obtain ⟨z1, z2, z3, z4⟩ := disp_endS (H := H9) (p := d2) (ps := sdFlag.ls) (by decide +kernel) (by decide)
      refine ⟨z1, kvS sdFlag.ls, z2, z3, ?_⟩
      rw [z4, L2.upd_upd]
      intro x3 dx nx ndx _
      have m10 := same_new hd2 (o := .dK (kvS sdFlag.ls))
      refine i_use (b := sdFlag) nx ndx (m10 _ _ (m9 _ _ upd_same)) (m10 _ _ hD) (prD.mono fun _ _ z => z.same m10) neD upd_same flag_ok fun H11 m11 _ st11 => ⟨rfl, ?_⟩
      have m811 := (same_new hla (o := .lst (sV sdFlag.names))).trans (m9.trans (m10.trans m11))
      have tb11 := tb8.ext m811
      have st8 := st8.same m811
      refine ⟨_, rfl, d_use tb11 st8 step_ok fun v H12 ⟨m12, told⟩ => ⟨rfl, ?_⟩⟩
      rcases told with ⟨rfl, _⟩ | ⟨_, _, _, _, _, _, _, _, _, _, nb⟩
      rotate_left
      · exact (nb (since_day step_since)).elim
      refine ⟨_, rfl, iteT ⟨_, rfl, s_use (m12.tabs tb11) (st8.sameT m12) step_ok fun v H13 ⟨m13, told⟩ => ⟨rfl, ?_⟩⟩⟩
      rcases told with ⟨rfl, _⟩ | ⟨_, _, _, _, _, _, _, _, _, _, nb⟩
      rotate_left
      · exact (nb step_since).elim
      have m1113 := m12.trans m13
      refine ⟨_, rfl, iteT ⟨_, rfl, d_use (m1113.tabs tb11) (st11.sameT m1113) flag_ok fun v H14 ⟨m14, told⟩ => ⟨rfl, ?_⟩⟩⟩
      rcases told with ⟨rfl, _⟩ | ⟨_, _, _, _, _, _, _, _, _, _, nb⟩
      rotate_left
      · exact (nb (since_day flag_since)).elim
      have m1114 := m1113.trans m14
      refine ⟨_, rfl, iteT ⟨_, rfl, s_use (m1114.tabs tb11) (st11.sameT m1114) flag_ok fun v H15 ⟨m15, told⟩ => ⟨rfl, ?_⟩⟩⟩
      rcases told with ⟨rfl, _⟩ | ⟨_, _, _, _, _, _, _, _, _, _, nb⟩
      rotate_left
      · exact (nb flag_since).elim
      exact q H15
end
end Bs
set_option Elab.async false
set_option linter.all false
set_option maxRecDepth 100000
set_option maxHeartbeats 4000000
/-! the head, with the defs behind properties -/
namespace L2
namespace Pl
open PySem PySem.Spec PyProof.Rows
abbrev PrD : Type := (Str × Str) × He.DefD
/-- the def behind the property q.2 of the class q.1 -/
def gAd (K : Fr) (q : Str × Str) : Addr := match PySem.W.recIn K (He.ma K (He.ga K q.1) q.2) "property" with
  | some (.ref g :: _) => g
  | _ => 0
def fnAt (K : Fr) (a : Addr) : He.FnW := match K.lookup a with
  | some ob => (match ob.data with
    | .func u => some (u.name, u.qualname, u.params, u.body, u.scope, u.globals, u.closure, u.builtins)
    | _ => none)
  | none => none
def goodAt (K : Fr) (a : Addr) (d : He.DefD) : Bool := PySem.W.keepIn K (.ref a) && (match K.lookup a with
  | some ob => (match ob.data with
    | .func u => PySem.W.codeIn K u.code d.qual && (He.dflB K u.defaults (d.dvs K) && He.kwdB K u.kwdefaults (d.kws K))
    | _ => false)
  | none => false)
theorem funAt {K : Fr} {a : Addr} {d : He.DefD} (e : fnAt K a = d.val) (c : goodAt K a d = true) : ∃ fd, FunD K d.name d.qual d.params d.body d.scope (d.dvs K) (d.kws K) a fd := by
  obtain ⟨kp, c⟩ := He.ba c
  unfold fnAt at e
  cases q : K.lookup a with
  | none =>
    simp only [q] at e
    cases e
  | some ob =>
    simp only [q] at e c
    obtain ⟨oc, od, dt, sl⟩ := ob
    cases dt with
    | func u =>
      obtain ⟨u1, u2, u3, u4, u5, u6, u7, u8, u9, u10, u11, u12, u13, u14, u15⟩ := u
      simp only [He.DefD.val, Option.some.injEq, Prod.mk.injEq] at e
      obtain ⟨z1, z2, z3, z4, z5, z6, z7, z8⟩ := e
      dsimp only at c
      obtain ⟨k1, c⟩ := He.ba c
      obtain ⟨k2, k3⟩ := He.ba c
      subst z1 z2 z3 z4 z5 z6 z7 z8
      refine ⟨_, ⟨oc, od, u8, u9, u10, u11, u12, u13, u14, sl, rfl, q, k1, ?_, ?_⟩, kp⟩
      · exact He.dflB_ok k2
      · exact He.kwdB_ok k3
    | _ => cases e
def propB (K : Fr) (q : Str × Str) : Bool :=
  isB (PySem.W.findIn K (.ref (He.ga K q.1)) q.2) (some (some (.ref (He.ma K (He.ga K q.1) q.2)))) && (isB (PySem.W.specialIn K (.ref (He.ma K (He.ga K q.1) q.2)) "__get__") (some (some (.builtin "property.__get__"))) && (decide (PySem.W.takesIn K (.ref (He.ma K (He.ga K q.1) q.2)) = some true) &&
  (match PySem.W.recIn K (He.ma K (He.ga K q.1) q.2) "property" with
    | some (.ref _ :: _) => true
    | _ => false)))
theorem prop_ok {K : Fr} {q : Str × Str} (h : propB K q = true) : PropOf K (He.ga K q.1) q.2 (He.ma K (He.ga K q.1) q.2) (gAd K q) := by
  obtain ⟨h1, h⟩ := He.ba h
  obtain ⟨h2, h⟩ := He.ba h
  obtain ⟨h3, h4⟩ := He.ba h
  refine ⟨of_decide_eq_true h1, of_decide_eq_true h2, of_decide_eq_true h3, ?_⟩
  unfold gAd
  split at h4
  · rename_i g r e
    simp only [e]
    exact ⟨r, rfl⟩
  · cases h4
abbrev AlQ : Type := AlP × Bool × List He.FnW
def obsQK (fa : List He.Fa) (fn : List He.DefD) (pr : List PrD) (ex : Fr → Bool) (K : Fr) : AlQ := ((He.obsD fa fn K, ex K), (pr.all fun p => propB K p.1 && goodAt K (gAd K p.1) p.2), pr.map fun p => fnAt K (gAd K p.1))
def obsQ (n : Nat) (fa : List He.Fa) (fn : List He.DefD) (pr : List PrD) (ex : Fr → Bool) (g : Addr → Option Obj) : AlQ := obsQK fa fn pr ex (fragP n g)
structure SaysQ (fa : List He.Fa) (fn : List He.DefD) (pr : List PrD) (ex : Fr → Bool) (K : Fr) : Prop where
  d : He.SaysD fa fn K
  more : ex K = true
  ok : (pr.all fun p => propB K p.1 && goodAt K (gAd K p.1) p.2) = true
  defs : (pr.map fun p => fnAt K (gAd K p.1)) = pr.map fun p => p.2.val
def hookQ (n : Nat) (fa : List He.Fa) (fn : List He.DefD) (pr : List PrD) (ex : Fr → Bool) : PySem.W.Hook where
  α := AlQ
  obs := fun s => obsQ n fa fn pr ex s.heap.get?
  val := fun _ => ((He.valD fn, true), true, pr.map fun p : PrD => He.DefD.val p.2)
  says := fun _ h => ∃ K : Fr, K.In h ∧ SaysQ fa fn pr ex K
  of := fun _ _ e => ⟨_, He.frG_in, congrArg (fun z : AlQ => z.1.1) e, congrArg (fun z : AlQ => z.1.2) e, congrArg (fun z : AlQ => z.2.1) e, congrArg (fun z : AlQ => z.2.2) e⟩
  keeps := fun _ _ _ ⟨K, hK, c⟩ k => ⟨K, PySem.W.Frag.In.keeps hK k, c⟩
theorem obsQ_eq {n : Nat} {fa : List He.Fa} {fn : List He.DefD} {pr : List PrD} {ex : Fr → Bool} {g : Addr → Option Obj} {s : Shared} (h : ∀ a, g a = s.heap.get? a) : obsQ n fa fn pr ex g = (hookQ n fa fn pr ex).obs s := by
  have e : g = s.heap.get? := funext h
  rw [e] <;> rfl
theorem SaysQ.prop {fa : List He.Fa} {fn : List He.DefD} {pr : List PrD} {ex : Fr → Bool} {K : Fr} (c : SaysQ fa fn pr ex K) (i : Nat) {p : PrD} (h : pr[i]? = some p := by rfl) :
    PropOf K (He.ga K p.1.1) p.1.2 (He.ma K (He.ga K p.1.1) p.1.2) (gAd K p.1) ∧ ∃ fd, FunD K p.2.name p.2.qual p.2.params p.2.body p.2.scope (p.2.dvs K) (p.2.kws K) (gAd K p.1) fd := by
  obtain ⟨h1, h2⟩ := He.ba (List.all_eq_true.mp c.ok p (List.mem_of_getElem? h))
  have e : (pr.map fun p => fnAt K (gAd K p.1))[i]? = (pr.map fun p => p.2.val)[i]? := by rw [c.defs]
  rw [List.getElem?_map, List.getElem?_map, h] at e
  exact ⟨prop_ok h1, funAt (Option.some.inj e) h2⟩
/-! ### Store's own class, as the laws ask -/
def storeB (K : Fr) : Bool :=
  let C := He.ga K "Store"
  isB (PySem.W.findIn K (.ref C) "__class__") (some (some (.builtin "object.__class__"))) && (isB (PySem.W.specialIn K (.builtin "object.__class__") "__get__") (some (some (.builtin "getset_descriptor.__get__"))) && (decide (PySem.W.takesIn K (.builtin "object.__class__") = some true) && (decide (PySem.W.mroIn K C (.type "object") = some true) &&
  (decide (PySem.W.kitOne K (.ref C) (.ref C) = some true) && (isB (PySem.W.findIn K (.ref C) "__eq__") (some (some (.ref (He.ma K C "__eq__")))) && (PySem.W.isFn K (.ref (He.ma K C "__eq__")) && isB (PySem.W.findIn K (.ref C) "__ne__") (some (some (.builtin "object.__ne__")))))))))
def raB (K : Fr) (x f : Str) : Bool := excB K x f && xfB K (He.ga K x)
end Pl
end L2
set_option Elab.async false
set_option linter.all false
set_option maxRecDepth 100000
set_option maxHeartbeats 4000000
namespace Bs
open PySem PySem.Spec PyProof.Rows L2 L2.Pl
theorem store_ok {K : Fr} (c : storeB K = true) : StE K (He.ga K "Store") ∧ NeC K (He.ga K "Store") (He.ma K (He.ga K "Store") "__eq__") := by
  obtain ⟨h1, h⟩ := He.ba c
  obtain ⟨h2, h⟩ := He.ba h
  obtain ⟨h3, h⟩ := He.ba h
  obtain ⟨h4, h⟩ := He.ba h
  obtain ⟨h5, h⟩ := He.ba h
  obtain ⟨h6, h⟩ := He.ba h
  obtain ⟨h7, h8⟩ := He.ba h
  exact ⟨⟨of_decide_eq_true h1, of_decide_eq_true h2, of_decide_eq_true h3, of_decide_eq_true h4, of_decide_eq_true h5⟩, ⟨of_decide_eq_true h6, h7, of_decide_eq_true h8, of_decide_eq_true h4⟩⟩
end Bs
set_option Elab.async false
set_option linter.all false
set_option maxRecDepth 100000
set_option maxHeartbeats 4000000
namespace Bs
open PySem PySem.Spec PyProof.Rows L2 L2.Pl
section
variable {P : Program} {w : World} {K : PySem.W.Frag} {mg : Str → Option Value} {base : Heap} {f : Addr} {fd : FuncData}
abbrev NCo : List Str := ["self", "found", "waiting", "standing", "deed", "name"]
theorem scCome : FnScope NCo ["self"] (defScope sCome) := ⟨rfl, rfl, rfl, by decide +kernel, rfl, by decide +kernel, by decide +kernel⟩
theorem ok_come {C : Addr} (T : StF K mg C) (F : FnM K "come" "Store.come" sCome f fd) : FnOk P w K mg base CX0 1 f fd ["self"] (spCome C) := by
  refine F.ok scCome (fun vs H Q E h => ?_) (fun cdv A outer s H vs Q E hr h => ?_)
  · obtain ⟨_, _, rfl, _⟩ := h
    rfl
  · obtain ⟨x, b, rfl, hx, ok, q⟩ := h
    refine ⟨_, PSs.nox (pss_cons (ps_set (i := 1) scCome.nd rfl (.inr rfl) (pe_lst pa_nil))
      (pss_cons (ps_set (i := 2) scCome.nd rfl (.inl rfl) (pe_lst (pa_cons (pe_ix ix_tup (pe_fld (pv 0) rfl) pe_int (fun _ _ => rfl)) pa_nil)))
      (pss_cons (ps_while PassesOwn.never (pt_truth (pv 2) (by intro _; rfl))
        (pss_cons (ps_set (i := 3) scCome.nd rfl (.inr rfl) (pe_bm0 PySem.F.plainAttrs_list PySem.F.slot_list_pop PySem.F.type_list_pop mt_pop (pv 2)))
        (pss_one (ps_if (pt_cmpR op_notIn_seq (pv 3) (pv 1) (by with_unfolding_all rfl))
          (pss_cons (ps_expr (pe_bm PySem.F.plainAttrs_list PySem.F.slot_list_append PySem.F.type_list_append mt_append (pv 1) (pa_cons (pv 3) pa_nil)))
          (pss_one (ps_expr (pe_bm PySem.F.plainAttrs_list PySem.F.slot_list_extend PySem.F.type_list_extend mt_extend (pv 2) (pa_cons (pe_lc (own := [("deed", 4)]) (g := gName 4) (tt := tYes) (te := tDGet (tDGet (tFld K (tVar 0) "_leads") (tVar 4)) (tVar 3)) rfl scCome.nd (pi_tup (pe_fld (pv 0) rfl)) (blkOk_by (N := NCo) (sc := defScope sCome) (by decide +kernel)) (fun _ _ _ _ _ => pg_name (i := 4) scCome.nd rfl (.inl rfl)) (fun _ _ _ _ _ => pts_nil) (fun _ _ _ _ _ => pe_dget (hu_of hr) (pe_dget (hu_of hr) (pe_fld (pv 0) rfl) (pv 4) (fun _ _ => rfl)) (pv 3) (fun _ _ => rfl))) pa_nil))))) pss_nil))))
      (pss_one (ps_ret (pe_lc (own := [("name", 5)]) (g := gName 5) (tt := tTest (tOp (rIn K false) (tVar 5) (tVar 1))) (te := tVar 5) rfl scCome.nd (pi_tup (pe_fld (pv 0) rfl)) (blkOk_by (N := NCo) (sc := defScope sCome) (by decide +kernel)) (fun _ _ _ _ _ => pg_name (i := 5) scCome.nd rfl (.inl rfl)) (fun _ _ _ _ _ => pts_one (pt_cmpR op_in_seq (pv 5) (pv 1) (by with_unfolding_all rfl))) (fun _ _ _ _ _ => pv 5))))))), ?_⟩
    obtain ⟨dx, ts, td, dl, dk, es, h1, h2, h3, h4, h5, h6⟩ := id hx
    refine ⟨Nat.zero_le _, fun FD hFD => ?_⟩
    have m0 := same_new hFD (o := .lst [])
    refine ⟨_, rfl, x, C, dx, _, _, rfl, m0 _ _ h1, T.cl, T.n1, st_look1, ts, _, 0, .str b.start, rfl, rfl, SqT.up (m0 _ _ h2), atI_nat (j := 0) ok.at0, by show 1 ≤ sizeLine; decide, fun W hW => ?_⟩
    have nFW : FD ≠ W := ne_of_none upd_same hW
    have mW := m0.trans (same_new hW (o := .lst [.str b.start]))
    have W0 : H W = none := m0.free hW
    have n5 := ok.n5
    have d4 : b.deeds.length ≤ 4 := Nat.le_trans (Nat.le_of_eq (List.length_map _)) ok.d4
    refine ⟨fun m σ H' => ∃ (fo wa : List Str) (c3 : Option V), σ = [some (.ref x), some (.ref FD), some (.ref W), c3, none, none] ∧ Same H H' ∧ H' FD = some (.lst (sV fo)) ∧ H' W = some (.lst (sV wa)) ∧ Dfs b fo wa ∧ wa.length + 5 * (5 - fo.length) ≤ m ∧ m ≤ 26, ⟨26, [], [b.start], none, rfl, mW, (upd_ne nFW).trans upd_same, upd_same, ⟨List.nodup_nil, fun z hz => ?_, (fun z hz => by cases hz), List.mem_singleton.mpr rfl⟩, by show 1 + 5 * (5 - 0) ≤ 26; decide, by decide⟩, ?_⟩
    · rw [List.mem_singleton.mp hz]
      exact Can.first
    rintro m σ H2 ⟨fo, wa, c3, rfl, m2, hF, hWa, D, hm, hm26⟩
    refine ⟨_, rfl, !(sV wa).isEmpty, .inl ⟨_, SqL.of hWa, rfl⟩, ?_⟩
    have two : wa = [] ∨ ∃ w0 z, wa = w0 ++ [z] := by
      rcases List.eq_nil_or_concat wa with h | ⟨w0, z, h⟩
      · exact .inl h
      · exact .inr ⟨w0, z, h.trans (List.concat_eq_append ..)⟩
    rcases two with rfl | ⟨w0, z, rfl⟩
    · refine iteF ⟨_, rfl, x, C, dx, _, _, rfl, m2 _ _ h1, T.cl, T.n1, st_look1, ts, rfl, ⟨_, SqT.up (m2 _ _ h2)⟩, fun D1 hD1 => ?_⟩
      refine lc_sm (walk_tup (K := K) (a := ts) (xs := sV b.names)) (keepI fo) (fun x y => y = x) hD1 (fun H5 mm => SqT.up (mm _ _ (m2 _ _ h2))) (by rw [List.length_map]; omega) (fun y1 H5 N Y hy1 mm iD kn ky => ?_) (fun H5 ys mm hy py => ?_)
      · obtain ⟨o, ho, rfl⟩ := List.mem_map.mp hy1
        refine ⟨rfl, _, rfl, _, rfl, FD, sV fo, rfl, .inl (SqL.of (mm _ _ hF)), rfl, flatS _, _, rfl, ?_⟩
        rw [if_neg Bool.false_ne_true, inV_strs]
        cases c : decide (o ∈ fo) with
        | false => exact iteF (kn c H5 mm rfl)
        | true => exact iteT (B := N H5) ⟨_, rfl, ky c _ H5 mm rfl rfl⟩
      · have ey : ys = sV (b.names.filter fun o => decide (o ∈ fo)) := (paired_eq (f := fun z : V => z) py).trans ((List.map_id _).trans (keepI_filter _))
        have ec : (b.names.filter fun o => decide (o ∈ fo)) = comeL b := List.filter_congr fun z _ => by
          rw [Bool.eq_iff_iff, canB_iff, decide_eq_true_iff]
          exact ⟨fun h => D.can z (List.mem_append_left _ h), fun h => D.all h⟩
        rw [ey, ec] at hy
        exact q H5 D1 (m2.trans mm) (m2.free hD1) hy
    · have ne : (!(sV (w0 ++ [z])).isEmpty) = true := by simp
      rw [ne]
      have lw : (w0 ++ [z]).length = w0.length + 1 := by rw [List.length_append, List.length_singleton]
      rw [lw] at hm
      refine iteT (B := _) ⟨fun σ' H' => ∃ (fo wa : List Str) (c3 : Option V), σ' = [some (.ref x), some (.ref FD), some (.ref W), c3, none, none] ∧ Same H H' ∧ H' FD = some (.lst (sV fo)) ∧ H' W = some (.lst (sV wa)) ∧ Dfs b fo wa ∧ wa.length + 5 * (5 - fo.length) ≤ m - 1 ∧ m - 1 ≤ 26, fun σ' H' p => ⟨m - 1, by omega, p⟩, ?_⟩
      have last : (sV (w0 ++ [z]))[(sV (w0 ++ [z])).length - 1]? = some (.str z) := by
        rw [List.length_map, lw, Nat.add_sub_cancel, List.getElem?_map, List.getElem?_append_right (Nat.le_refl _), Nat.sub_self]
        rfl
      have drop : (sV (w0 ++ [z])).dropLast = sV w0 := by
        show (List.map V.str (w0 ++ [z])).dropLast = _
        rw [List.map_append]
        exact List.dropLast_concat
      refine ⟨_, rfl, .inl ⟨rfl, _, SqL.of hWa⟩, W, _, .str z, rfl, rfl, hWa, last, ?_⟩
      rw [drop]
      have m3 : Same H (upd H2 W (.lst (sV w0))) := same_wr m2 W0
      have F3 : (upd H2 W (.lst (sV w0))) FD = some (.lst (sV fo)) := (upd_ne nFW).trans hF
      have W3 : (upd H2 W (.lst (sV w0))) W = some (.lst (sV w0)) := upd_same
      generalize upd H2 W (.lst (sV w0)) = H3 at *
      refine ⟨_, rfl, _, rfl, FD, sV fo, rfl, .inl (SqL.of F3), rfl, flatS _, _, rfl, ?_⟩
      rw [if_pos rfl, inV_strs]
      by_cases c : z ∈ fo
      · rw [decide_eq_true c]
        exact iteF ⟨fo, w0, _, rfl, m3, F3, W3, D.old c, by omega, by omega⟩
      · rw [decide_eq_false c]
        have D2 := D.new c
        have few := D2.few ok
        rw [List.length_append, List.length_singleton] at few
        refine iteT ⟨_, rfl, .inl ⟨rfl, _, SqL.of F3⟩, _, rfl, FD, _, .str z, rfl, rfl, F3, small1000 (by rw [List.length_map]; omega), ?_⟩
        have zin : z ∈ b.names := (D.can z (List.mem_append_right _ (List.mem_append_right _ (List.mem_singleton.mpr rfl)))).in_ ok
        have m4 : Same H (upd H3 FD (.lst (sV fo ++ [.str z]))) := same_wr m3 hFD
        have F4 : (upd H3 FD (.lst (sV fo ++ [.str z]))) FD = some (.lst (sV (fo ++ [z]))) := by
          rw [upd_same]
          show _ = some (HO.lst (List.map V.str (fo ++ [z])))
          rw [List.map_append]
          rfl
        have W4 : (upd H3 FD (.lst (sV fo ++ [.str z]))) W = some (.lst (sV w0)) := (upd_ne nFW.symm).trans W3
        refine ⟨_, rfl, .inl ⟨rfl, _, SqL.of W4⟩, ?_⟩
        generalize upd H3 FD (.lst (sV fo ++ [.str z])) = H4 at *
        refine ⟨_, rfl, x, C, dx, _, _, rfl, m4 _ _ h1, T.cl, T.n2, st_look2, td, rfl, ⟨_, SqT.up (m4 _ _ h3)⟩, fun D1 hD1 => ?_⟩
        refine lc_sm (walk_tup (K := K) (a := td) (xs := sV b.deeds)) (fun _ => true) (fun x y => ∃ d, x = .str d ∧ y = .str (b.lead1 d z)) hD1 (fun H5 mm => SqT.up (mm _ _ (m4 _ _ h3))) (by rw [List.length_map]; omega) (fun y1 H5 N Y hy1 mm iD kn ky => ?_) (fun H5 ys mm hy py => ?_)
        · obtain ⟨d, hd, rfl⟩ := List.mem_map.mp hy1
          have m5 := m4.trans mm
          obtain ⟨e, p2, he, hp2, he2, he4⟩ := lead_at h5 ok.dd hd
          obtain ⟨w1, w2, w3⟩ := ok.di (d, p2) he
          obtain ⟨u, hu⟩ := Option.isSome_iff_exists.mp (w2.has _ zin)
          have e3 : b.lead1 d z = u := by
            unfold Sd.lead1
            rw [hp2]
            show (List.lookup z p2).getD _ = u
            rw [hu]
            rfl
          have e4 : valV (kvS p2) (Sum.inr z : Key) = some (.str u) := by rw [valV_kvS, hu]; rfl
          refine ⟨rfl, iteT (B := N H5) ⟨_, rfl, x, C, dx, _, _, rfl, m5 _ _ h1, T.cl, T.n3, st_look3, _, rfl, dl, .ref e, rfl, ?_, _, rfl, e, .str u, rfl, ?_, ?_⟩⟩
          · rw [← he2]
            exact dget_str (.inl (m5 _ _ h4))
          · rw [← e4]
            exact dget_str (.inl (m5 _ _ he4))
          · exact ky rfl _ H5 mm rfl ⟨d, rfl, congrArg V.str e3.symm⟩
        · have ey : ys = sV (b.deeds.map fun d => b.lead1 d z) := by
            have py2 : Paired (fun x y => ∃ d, x = V.str d ∧ y = V.str (b.lead1 d z)) (sV b.deeds) ys := by
              rw [filt_all] at py
              exact py
            have : ∀ {xs : List Str} {ys : List V}, Paired (fun x y => ∃ d, x = V.str d ∧ y = V.str (b.lead1 d z)) (sV xs) ys → ys = sV (xs.map fun d => b.lead1 d z) := by
              intro xs
              induction xs with
              | nil =>
                intro ys h
                cases h
                rfl
              | cons a r ih =>
                intro ys h
                cases h with
                | cons h t =>
                  obtain ⟨d, e1, rfl⟩ := h
                  cases e1
                  rw [ih t]
                  rfl
            exact this py2
          subst ey
          have nD1 : W ≠ D1 := ne_of_none W4 hD1
          have W5 := mm _ _ W4
          refine ⟨W, D1, _, _, rfl, rfl, W5, hy, ?_, ?_⟩
          · rw [List.length_map, List.length_map, List.length_map]
            exact Nat.le_of_lt (small1000 (by omega))
          · refine ⟨fo ++ [z], w0 ++ b.deeds.map fun d => b.lead1 d z, _, rfl, same_wr (m4.trans mm) W0, (upd_ne nFW).trans (mm _ _ F4), ?_, D2, ?_, by omega⟩
            · rw [upd_same]
              show _ = some (HO.lst (List.map _ (_ ++ _)))
              rw [List.map_append]
            · rw [List.length_append, List.length_map, List.length_append, List.length_singleton]
              omega
end
end Bs
set_option Elab.async false
set_option linter.all false
set_option maxRecDepth 100000
set_option maxHeartbeats 2000000
/-! the end of a law that needs guards = some [] and makes one lambda: its table of code objects is tracked from the start -/
namespace L2
namespace Pl
open PySem PySem.Spec PyProof.Rows LamX
section
variable {P : Program} {w : World} {K : PySem.W.Frag} {mg mb : Str → Option Value} {CX : CXT} {k : Nat} {fa a c PT : Addr} {fd : FuncData} {x : Str} {sp : Sp} {s₁ : Shared} {vs : List Value} {ns : List Int}
abbrev tabO : Obj := { cls := .none, data := .fields #[] }
/-- the script and the table -/
def entryT (K : PySem.W.Frag) (a : Addr) (vs : List Value) (ns : List Int) (PT : Addr) : Hp := fun b => if b = PT then some (.tbl #[]) else entryH K a vs ns b
theorem entryT_at : entryT K a vs ns PT PT = some (.tbl #[]) := if_pos rfl
theorem entryT_ne {b : Addr} (n : b ≠ PT) : entryT K a vs ns PT b = entryH K a vs ns b := if_neg n
theorem law_runsT (hK : K.In s₁.heap) (hns : s₁.heap.Ns mainGlobals mg) (hb : s₁.heap.Ns builtinsNs mb) (hbb : ∀ x : Str, x ≠ "__name__" → mb x = bootBuiltins x) (hlim : s₁.heap.NoLimit) (hg : s₁.gens = #[])
    (hT : s₁.heap.get? PT = some tabO) (nT : K.lookup PT = none) (hC : PySem.W.CodeHd s₁.heap c PT)
    (hbm : ∃ (bm : Addr) (ob : Obj), mg "__builtins__" = some (.ref bm) ∧ bm ≠ builtinsNs ∧ s₁.heap.get? bm = some ob ∧ ob.cls = .type "module" ∧ ob.dict = some builtinsNs ∧ ob.data = .plain)
    (ha : s₁.heap.get? a = some (scrO vs)) (hi : IntsAre vs ns) (hl : ns.length ≤ sizeLine) (hr : Room k callerA)
    (F : ∀ base : Heap, K.In base → base.Ns mainGlobals mg → TabB base mg c PT → FnG P w K mg base CX k fa fd [x] sp) (hbind : ∀ (s : Shared) (u : Value), BindsTo s fd ⟨[u], []⟩ [(x, u)])
    (hsp : ∀ H : Hp, H PT = some (.tbl #[]) → SqL K H a (ns.map V.int) → sp [.ref a] H (fun v _ => v = .bl true) fun _ _ _ => False)
    (hCX : ∀ H e s', CX [] H s₁ (fun _ _ _ => False) e s' → False) :
    codeAny (model P w) callerA (.call (.ref fa) ⟨[.ref a], []⟩) (fun r s' => r = .ok (.ret (.bool true)) ∧ OldK s₁.heap s'.heap ∧ s'.os = s₁.os ∧ AllBare s'.gens) s₁ := by
  have aP : a ≠ PT := fun z => by
    rw [z, hT] at ha
    exact absurd (congrArg Obj.data (Option.some.inj ha)) (fun q => by cases q)
  obtain ⟨H, eH⟩ : ∃ H : Hp, H = entryT K a vs ns PT := ⟨_, rfl⟩
  have atP : H PT = some (.tbl #[]) := by rw [eH]; exact entryT_at
  have off : ∀ {b}, b ≠ PT → H b = entryH K a vs ns b := fun n => by rw [eH]; exact entryT_ne n
  have rel := vals_ints hi
  have short : (ns.map V.int).length ≤ sizeLine := by rw [List.length_map]; exact hl
  have held : HOk P w H s₁.heap := fun b u q => by
    by_cases e : b = PT
    · subst e
      rw [atP] at q
      cases q
      exact hT
    · rw [off e] at q
      obtain ⟨rfl, _, rfl⟩ := entryH_some q
      exact ⟨ha, short, vs, _, rel, ha⟩
  have script : SqL K H a (ns.map V.int) := by
    cases q : K.lookup a with
    | none => exact .inl (.inr ⟨scrO vs, (off aP).trans (if_pos ⟨rfl, q⟩)⟩)
    | some o =>
      have e := (hK a o q).symm.trans ha
      have e2 : o = scrO vs := Option.some.inj e
      subst e2
      refine .inr ⟨_, vs.toArray, _, q, rfl, rfl, rfl, ?_, by simpa using rel⟩
      rw [List.size_toArray, hi.length]
      exact hl
  have stays : ∀ {b : Addr} {o : Obj}, s₁.heap.get? b = some o → b ≠ PT → (b = a → K.lookup a ≠ none) → (hidT s₁.heap H).get? b = some o := fun {b o} e n1 n => hidT_get e (by
    rw [off n1]
    cases q : entryH K a vs ns b with
    | none => rfl
    | some u =>
      obtain ⟨e1, e2, _⟩ := entryH_some q
      exact absurd e2 (n e1))
  -- an object whose data is neither a list nor without fields
  have far : ∀ {b : Addr} {o : Obj}, s₁.heap.get? b = some o → (∀ us n, o.data ≠ .seq us n) → o.data ≠ .fields #[] → (hidT s₁.heap H).get? b = some o := fun {b o} e n1 n2 => stays e (fun z => by
    rw [z, hT] at e
    exact n2 (congrArg Obj.data (Option.some.inj e)).symm) fun z => by
    rw [z, ha] at e
    exact (n1 _ _ (congrArg Obj.data (Option.some.inj e)).symm).elim
  have ofNs : ∀ {b : Addr} {m : Str → Option Value}, s₁.heap.Ns b m → (hidT s₁.heap H).Ns b m := fun {b m} ⟨o, es, ep, e, dd, rr⟩ => ⟨o, es, ep, far e (fun us n z => by rw [dd] at z; cases z) (fun z => by rw [dd] at z; cases z), dd, rr⟩
  have ofK : K.In (hidT s₁.heap H) := fun b o e => stays (hK b o e) (fun z => by
    rw [z, nT] at e
    cases e) fun z q => by
    rw [z, q] at e
    cases e
  have modu : Mod K mg (hidT s₁.heap H) := ⟨ofK, ofNs hns, ⟨mb, ofNs hb, hbb⟩, hlim.elim fun c hc => ⟨c, ofNs hc.1, hc.2⟩⟩
  have tab : TabB (hidT s₁.heap H) mg c PT := by
    refine ⟨?_, ?_, fun z => ?_⟩
    · obtain ⟨o, us, f1, f2, f3, f4, f5, f6, f7, e1, g1, g2, g3, rest⟩ := hC
      exact ⟨o, us, f1, f2, f3, f4, f5, f6, f7, far e1 (fun us' n z => by rw [g2] at z; cases z) (fun z => by
        rw [g2] at z
        cases z
        simp at g3), g1, g2, g3, rest⟩
    · obtain ⟨bm, ob, b1, b2, b3, b4, b5, b6⟩ := hbm
      refine ⟨bm, ob, b1, b2, fun z => ?_, fun z => ?_, far b3 (fun us n z => by rw [b6] at z; cases z) (fun z => by rw [b6] at z; cases z), b4, b5, b6⟩
      · obtain ⟨o, es, ep, e, hd, _⟩ := hns
        rw [z, e] at b3
        cases b3
        rw [hd] at b6
        cases b6
      · rw [z, hT] at b3
        cases b3
        cases b6
    · obtain ⟨o, es, ep, e, hd, _⟩ := hns
      rw [z, hT] at e
      cases e
      cases hd
  have env : Env0 P w K mg (hidT s₁.heap H) callerA [] s₁ H := ⟨rfl, modu, fun b o e => of_hidT e, Nat.le_of_eq (hidT_size _ _), trivial, (fun b hb => by cases hb), held, .of_eq hg⟩
  refine codeAny_mono ((F _ ofK (ofNs hns) tab).run callerA rfl [] s₁ H ⟨[.ref a], []⟩ [.ref a] [.ref a] _ _ hr env (hbind s₁ (.ref a)) (.cons rfl .nil) (hsp H atP script)) fun r s' y => ?_
  match r, y with
  | .error e, y => exact (hCX H e s' y).elim
  | .ok .next, y => exact y.elim
  | .ok .brk, y => exact y.elim
  | .ok .cont, y => exact y.elim
  | .ok (.ret u), ⟨v, H', os, bare, un, held', ru, q⟩ =>
    subst q
    obtain rfl : u = Value.bool true := ru
    obtain ⟨more, hm⟩ := un.tbls PT #[] atP
    have hm2 := held' PT _ hm
    have keep : ∀ b o, b ≠ PT → s₁.heap.get? b = some o → s'.heap.get? b = some o := fun b o n e => by
      cases q : H b with
      | none => exact un.keep b o e q (fun z => by cases z) (fun z => by cases z)
      | some t =>
        rw [off n] at q
        obtain ⟨rfl, _, rfl⟩ := entryH_some q
        have now := held' b _ (un.frzs b _ _ ((off n).trans q))
        rw [ha] at e
        rw [← Option.some.inj e]
        exact now.1
    refine ⟨rfl, ⟨fun b o e => ?_, fun b o e => ?_⟩, os, bare⟩
    · by_cases n : b = PT
      · subst n
        rw [hT] at e
        cases e
        exact .inr (.inl ⟨(hC.tab hT).isCodeTable, rfl, #[], more, rfl, by rw [Array.empty_append] at hm2 ⊢; exact hm2⟩)
      · exact .inl (keep b o n e)
    · by_cases n : b = PT
      · subst n
        exact ⟨_, hm2⟩
      · exact ⟨o, keep b o n e⟩
end
/-- a law with one table, that of the def xp: as walk_G -/
theorem walk_GT {l : PySem.W.OpenLaw} {n k : Nat} {q : Program} {loose : List Str} {XP : (Str → Option Value) → Heap → Prop} {YP : World → Heap → Prop} {d dp : DefRec} {CX : World → CXT} {x xp : Str}
    (hn : l.most = some n) (hn2 : n ≤ sizeLine) (hdf : d.params.defaults = []) (hr : Room k callerA) (hrec : (recsOf q).find? (fun e => e.name == xp) = some dp)
    (F : ∀ (w : World) (mg : Str → Option Value) (fa : Addr) (h : Heap), YP w h → h.Ns mainGlobals mg → mg d.name = some (.ref fa) →
      ∃ (K : PySem.W.Frag) (fd : FuncData) (sp : Sp) (c PT : Addr), K.In h ∧ PySem.W.tabIn K xp = some (c, PT) ∧ K.lookup PT = none ∧ (∀ (s : Shared) (u : Value), BindsTo s fd ⟨[u], []⟩ [(x, u)]) ∧
        (∀ (H : Hp) (a : Addr) (ns : List Int), ns.length ≤ n → (∀ z ∈ ns, Builtin.Int.intBits z ≤ 1048576) → H PT = some (.tbl #[]) → SqL K H a (ns.map V.int) → sp [.ref a] H (fun v _ => v = .bl true) fun _ _ _ => False) ∧
        ∀ base : Heap, K.In base → base.Ns mainGlobals mg → TabB base mg c PT → FnG l.prog w K mg base (CX w) k fa fd [x] sp)
    (hCX : ∀ (w : World) (H : Hp) (s : Shared) (e : Value) (s' : Shared), CX w [] H s (fun _ _ _ => False) e s' → False) :
    PySem.W.WalkO q loose XP YP l.row.toRowW d [] (fun f vs => PySem.call f vs) :=
  Att.attach_callB hn hdf fun w s₀ s₁ mg mb fa o pm cd doc a vs ns G Y ho hd hcd hmg hobj hints hlen hbits hg => by
    obtain ⟨K, fd, sp, c, PT, hK, ht, nT, hb, hsp, hF⟩ := F w mg fa _ Y G.T.g hmg
    obtain ⟨hC, hT⟩ := PySem.W.tab_of G.T hK hrec ht
    exact law_runsT hK G.T.g G.T.b G.T.builtins G.T.nolimit hg hT nT hC G.T.bmain hobj hints (Nat.le_trans hlen hn2) hr hF hb (fun H hO hS => hsp H a ns hlen hbits hO hS) fun H e s' => hCX w H s₁ e s'
/-- the code object that tabIn names is the function's -/
theorem code_of {K : PySem.W.Frag} {x : Str} {f c PT : Addr} {oc : Value} {od : Option Addr} {fd : FuncData} {osl : Array (Option Value)} (hf : PySem.W.nsIn K mainGlobals x = some (some (.ref f))) (lk : K.lookup f = some ⟨oc, od, .func fd, osl⟩) (ht : PySem.W.tabIn K x = some (c, PT)) : fd.code = .ref c := by
  unfold PySem.W.tabIn at ht
  rw [hf] at ht
  dsimp only at ht
  rw [lk] at ht
  dsimp only at ht
  split at ht
  · rename_i c2 hc
    rw [hc]
    split at ht
    · split at ht
      · cases ht
        rfl
      · cases ht
    · cases ht
  · cases ht
end Pl
end L2
set_option Elab.async false
set_option linter.all false
set_option maxRecDepth 100000
set_option maxHeartbeats 4000000
/-! the head with the table of the def xp left out of what is told -/
namespace L2
namespace Pl
open PySem PySem.Spec PyProof.Rows
/-- the written part without the table of the def x -/
def fragT (n : Nat) (x : Str) (g : Addr → Option Obj) : Fr := match PySem.W.tabIn (fragP n g) x with
  | some (_, P) => He.frG g ((sysModules :: He.asD g n).filter fun a => !(a == P))
  | none => fragP n g
def obsQT (n : Nat) (x : Str) (fa : List He.Fa) (fn : List He.DefD) (pr : List PrD) (ex : Fr → Bool) (g : Addr → Option Obj) : AlQ := obsQK fa fn pr ex (fragT n x g)
theorem fragT_in {n : Nat} {x : Str} {h : Heap} : (fragT n x h.get?).In h := by
  unfold fragT
  split
  · exact He.frG_in
  · exact He.frG_in
def hookQT (n : Nat) (x : Str) (fa : List He.Fa) (fn : List He.DefD) (pr : List PrD) (ex : Fr → Bool) : PySem.W.Hook where
  α := AlQ
  obs := fun s => obsQT n x fa fn pr ex s.heap.get?
  val := fun _ => ((He.valD fn, true), true, pr.map fun p : PrD => He.DefD.val p.2)
  says := fun _ h => ∃ K : Fr, K.In h ∧ SaysQ fa fn pr ex K
  of := fun _ _ e => ⟨_, fragT_in, congrArg (fun z : AlQ => z.1.1) e, congrArg (fun z : AlQ => z.1.2) e, congrArg (fun z : AlQ => z.2.1) e, congrArg (fun z : AlQ => z.2.2) e⟩
  keeps := fun _ _ _ ⟨K, hK, c⟩ k => ⟨K, PySem.W.Frag.In.keeps hK k, c⟩
theorem obsQT_eq {n : Nat} {x : Str} {fa : List He.Fa} {fn : List He.DefD} {pr : List PrD} {ex : Fr → Bool} {g : Addr → Option Obj} {s : Shared} (h : ∀ a, g a = s.heap.get? a) : obsQT n x fa fn pr ex g = (hookQT n x fa fn pr ex).obs s := by
  have e : g = s.heap.get? := funext h
  rw [e] <;> rfl
end Pl
end L2
set_option Elab.async false
set_option linter.all false
set_option maxRecDepth 100000
set_option maxHeartbeats 2000000
/-! the end of a law that needs guards = some [] and makes lambdas in several defs: their tables of code objects are tracked from the start -/
namespace L2
namespace Pl
open PySem PySem.Spec PyProof.Rows LamX
section
variable {P : Program} {w : World} {K : PySem.W.Frag} {mg mb : Str → Option Value} {CX : CXT} {k : Nat} {fa a : Addr} {LT : List (Addr × Addr)} {fd : FuncData} {x : Str} {sp : Sp} {s₁ : Shared} {vs : List Value} {ns : List Int}
/-- the script and the table -/
def isPT (LT : List (Addr × Addr)) (b : Addr) : Prop := ∃ p ∈ LT, p.2 = b
noncomputable def entryTs (K : PySem.W.Frag) (a : Addr) (vs : List Value) (ns : List Int) (LT : List (Addr × Addr)) : Hp := fun b => @ite _ (isPT LT b) (Classical.propDecidable _) (some (.tbl #[])) (entryH K a vs ns b)
theorem entryTs_at {b : Addr} (n : isPT LT b) : entryTs K a vs ns LT b = some (.tbl #[]) := if_pos n
theorem entryTs_ne {b : Addr} (n : ¬ isPT LT b) : entryTs K a vs ns LT b = entryH K a vs ns b := if_neg n
theorem law_runsTs (hK : K.In s₁.heap) (hns : s₁.heap.Ns mainGlobals mg) (hb : s₁.heap.Ns builtinsNs mb) (hbb : ∀ x : Str, x ≠ "__name__" → mb x = bootBuiltins x) (hlim : s₁.heap.NoLimit) (hg : s₁.gens = #[])
    (hT : ∀ p ∈ LT, s₁.heap.get? p.2 = some tabO) (nT : ∀ p ∈ LT, K.lookup p.2 = none) (hC : ∀ p ∈ LT, PySem.W.CodeHd s₁.heap p.1 p.2)
    (hbm : ∃ (bm : Addr) (ob : Obj), mg "__builtins__" = some (.ref bm) ∧ bm ≠ builtinsNs ∧ s₁.heap.get? bm = some ob ∧ ob.cls = .type "module" ∧ ob.dict = some builtinsNs ∧ ob.data = .plain)
    (ha : s₁.heap.get? a = some (scrO vs)) (hi : IntsAre vs ns) (hl : ns.length ≤ sizeLine) (hr : Room k callerA)
    (F : ∀ base : Heap, K.In base → base.Ns mainGlobals mg → (∀ p ∈ LT, TabB base mg p.1 p.2) → FnG P w K mg base CX k fa fd [x] sp) (hbind : ∀ (s : Shared) (u : Value), BindsTo s fd ⟨[u], []⟩ [(x, u)])
    (hsp : ∀ H : Hp, (∀ p ∈ LT, H p.2 = some (.tbl #[])) → SqL K H a (ns.map V.int) → sp [.ref a] H (fun v _ => v = .bl true) fun _ _ _ => False)
    (hCX : ∀ H e s', CX [] H s₁ (fun _ _ _ => False) e s' → False) :
    codeAny (model P w) callerA (.call (.ref fa) ⟨[.ref a], []⟩) (fun r s' => r = .ok (.ret (.bool true)) ∧ OldK s₁.heap s'.heap ∧ s'.os = s₁.os ∧ AllBare s'.gens) s₁ := by
  have tO : ∀ {b}, isPT LT b → s₁.heap.get? b = some tabO := fun ⟨p, hp, e⟩ => by rw [← e]; exact hT p hp
  have tN : ∀ {b}, isPT LT b → K.lookup b = none := fun ⟨p, hp, e⟩ => by rw [← e]; exact nT p hp
  have aP : ¬ isPT LT a := fun z => by
    rw [tO z] at ha
    exact absurd (congrArg Obj.data (Option.some.inj ha)) (fun q => by cases q)
  obtain ⟨H, eH⟩ : ∃ H : Hp, H = entryTs K a vs ns LT := ⟨_, rfl⟩
  have atP : ∀ {b}, isPT LT b → H b = some (.tbl #[]) := fun z => by rw [eH]; exact entryTs_at z
  have off : ∀ {b}, ¬ isPT LT b → H b = entryH K a vs ns b := fun n => by rw [eH]; exact entryTs_ne n
  have rel := vals_ints hi
  have short : (ns.map V.int).length ≤ sizeLine := by rw [List.length_map]; exact hl
  have held : HOk P w H s₁.heap := fun b u q => by
    by_cases e : isPT LT b
    · rw [atP e] at q
      cases q
      exact tO e
    · rw [off e] at q
      obtain ⟨rfl, _, rfl⟩ := entryH_some q
      exact ⟨ha, short, vs, _, rel, ha⟩
  have script : SqL K H a (ns.map V.int) := by
    cases q : K.lookup a with
    | none => exact .inl (.inr ⟨scrO vs, (off aP).trans (if_pos ⟨rfl, q⟩)⟩)
    | some o =>
      have e := (hK a o q).symm.trans ha
      have e2 : o = scrO vs := Option.some.inj e
      subst e2
      refine .inr ⟨_, vs.toArray, _, q, rfl, rfl, rfl, ?_, by simpa using rel⟩
      rw [List.size_toArray, hi.length]
      exact hl
  have stays : ∀ {b : Addr} {o : Obj}, s₁.heap.get? b = some o → ¬ isPT LT b → (b = a → K.lookup a ≠ none) → (hidT s₁.heap H).get? b = some o := fun {b o} e n1 n => hidT_get e (by
    rw [off n1]
    cases q : entryH K a vs ns b with
    | none => rfl
    | some u =>
      obtain ⟨e1, e2, _⟩ := entryH_some q
      exact absurd e2 (n e1))
  -- an object whose data is neither a list nor without fields
  have far : ∀ {b : Addr} {o : Obj}, s₁.heap.get? b = some o → (∀ us n, o.data ≠ .seq us n) → o.data ≠ .fields #[] → (hidT s₁.heap H).get? b = some o := fun {b o} e n1 n2 => stays e (fun z => by
    rw [tO z] at e
    exact n2 (congrArg Obj.data (Option.some.inj e)).symm) fun z => by
    rw [z, ha] at e
    exact (n1 _ _ (congrArg Obj.data (Option.some.inj e)).symm).elim
  have ofNs : ∀ {b : Addr} {m : Str → Option Value}, s₁.heap.Ns b m → (hidT s₁.heap H).Ns b m := fun {b m} ⟨o, es, ep, e, dd, rr⟩ => ⟨o, es, ep, far e (fun us n z => by rw [dd] at z; cases z) (fun z => by rw [dd] at z; cases z), dd, rr⟩
  have ofK : K.In (hidT s₁.heap H) := fun b o e => stays (hK b o e) (fun z => by
    rw [tN z] at e
    cases e) fun z q => by
    rw [z, q] at e
    cases e
  have modu : Mod K mg (hidT s₁.heap H) := ⟨ofK, ofNs hns, ⟨mb, ofNs hb, hbb⟩, hlim.elim fun c hc => ⟨c, ofNs hc.1, hc.2⟩⟩
  have tab : ∀ p ∈ LT, TabB (hidT s₁.heap H) mg p.1 p.2 := fun p hp => by
    have ip : isPT LT p.2 := ⟨p, hp, rfl⟩
    refine ⟨?_, ?_, fun z => ?_⟩
    · obtain ⟨o, us, f1, f2, f3, f4, f5, f6, f7, e1, g1, g2, g3, rest⟩ := hC p hp
      exact ⟨o, us, f1, f2, f3, f4, f5, f6, f7, far e1 (fun us' n z => by rw [g2] at z; cases z) (fun z => by
        rw [g2] at z
        cases z
        simp at g3), g1, g2, g3, rest⟩
    · obtain ⟨bm, ob, b1, b2, b3, b4, b5, b6⟩ := hbm
      refine ⟨bm, ob, b1, b2, fun z => ?_, fun z => ?_, far b3 (fun us n z => by rw [b6] at z; cases z) (fun z => by rw [b6] at z; cases z), b4, b5, b6⟩
      · obtain ⟨o, es, ep, e, hd, _⟩ := hns
        rw [z, e] at b3
        cases b3
        rw [hd] at b6
        cases b6
      · rw [z, tO ip] at b3
        cases b3
        cases b6
    · obtain ⟨o, es, ep, e, hd, _⟩ := hns
      rw [z, tO ip] at e
      cases e
      cases hd
  have env : Env0 P w K mg (hidT s₁.heap H) callerA [] s₁ H := ⟨rfl, modu, fun b o e => of_hidT e, Nat.le_of_eq (hidT_size _ _), trivial, (fun b hb => by cases hb), held, .of_eq hg⟩
  refine codeAny_mono ((F _ ofK (ofNs hns) tab).run callerA rfl [] s₁ H ⟨[.ref a], []⟩ [.ref a] [.ref a] _ _ hr env (hbind s₁ (.ref a)) (.cons rfl .nil) (hsp H (fun p hp => atP ⟨p, hp, rfl⟩) script)) fun r s' y => ?_
  match r, y with
  | .error e, y => exact (hCX H e s' y).elim
  | .ok .next, y => exact y.elim
  | .ok .brk, y => exact y.elim
  | .ok .cont, y => exact y.elim
  | .ok (.ret u), ⟨v, H', os, bare, un, held', ru, q⟩ =>
    subst q
    obtain rfl : u = Value.bool true := ru
    have now2 : ∀ {b}, isPT LT b → ∃ more, H' b = some (.tbl (#[] ++ more)) := fun {b} z => un.tbls b #[] (atP z)
    have keep : ∀ b o, ¬ isPT LT b → s₁.heap.get? b = some o → s'.heap.get? b = some o := fun b o n e => by
      cases q : H b with
      | none => exact un.keep b o e q (fun z => by cases z) (fun z => by cases z)
      | some t =>
        rw [off n] at q
        obtain ⟨rfl, _, rfl⟩ := entryH_some q
        have now := held' b _ (un.frzs b _ _ ((off n).trans q))
        rw [ha] at e
        rw [← Option.some.inj e]
        exact now.1
    refine ⟨rfl, ⟨fun b o e => ?_, fun b o e => ?_⟩, os, bare⟩
    · by_cases n : isPT LT b
      · obtain ⟨more, hm⟩ := now2 n
        have hm2 := held' b _ hm
        have hb := tO n
        obtain ⟨p, hp, rfl⟩ := n
        rw [hb] at e
        cases e
        exact .inr (.inl ⟨((hC p hp).tab hb).isCodeTable, rfl, #[], more, rfl, by rw [Array.empty_append] at hm2 ⊢; exact hm2⟩)
      · exact .inl (keep b o n e)
    · by_cases n : isPT LT b
      · obtain ⟨more, hm⟩ := now2 n
        exact ⟨_, held' b _ hm⟩
      · exact ⟨o, keep b o n e⟩
end
/-- a law with several tables, those of the defs xps -/
theorem walk_GTs {l : PySem.W.OpenLaw} {n k : Nat} {q : Program} {loose : List Str} {XP : (Str → Option Value) → Heap → Prop} {YP : World → Heap → Prop} {d : DefRec} {CX : World → CXT} {x : Str} (xps : List Str)
    (hn : l.most = some n) (hn2 : n ≤ sizeLine) (hdf : d.params.defaults = []) (hr : Room k callerA) (hrec : ∀ xp ∈ xps, ∃ dp, (recsOf q).find? (fun e => e.name == xp) = some dp)
    (F : ∀ (w : World) (mg : Str → Option Value) (fa : Addr) (h : Heap), YP w h → h.Ns mainGlobals mg → mg d.name = some (.ref fa) →
      ∃ (K : PySem.W.Frag) (fd : FuncData) (sp : Sp) (LT : List (Addr × Addr)), K.In h ∧ (∀ p ∈ LT, ∃ xp ∈ xps, PySem.W.tabIn K xp = some p) ∧ (∀ p ∈ LT, K.lookup p.2 = none) ∧ (∀ (s : Shared) (u : Value), BindsTo s fd ⟨[u], []⟩ [(x, u)]) ∧
        (∀ (H : Hp) (a : Addr) (ns : List Int), ns.length ≤ n → (∀ z ∈ ns, Builtin.Int.intBits z ≤ 1048576) → (∀ p ∈ LT, H p.2 = some (.tbl #[])) → SqL K H a (ns.map V.int) → sp [.ref a] H (fun v _ => v = .bl true) fun _ _ _ => False) ∧
        ∀ base : Heap, K.In base → base.Ns mainGlobals mg → (∀ p ∈ LT, TabB base mg p.1 p.2) → FnG l.prog w K mg base (CX w) k fa fd [x] sp)
    (hCX : ∀ (w : World) (H : Hp) (s : Shared) (e : Value) (s' : Shared), CX w [] H s (fun _ _ _ => False) e s' → False) :
    PySem.W.WalkO q loose XP YP l.row.toRowW d [] (fun f vs => PySem.call f vs) :=
  Att.attach_callB hn hdf fun w s₀ s₁ mg mb fa o pm cd doc a vs ns G Y ho hd hcd hmg hobj hints hlen hbits hg => by
    obtain ⟨K, fd, sp, LT, hK, ht, nT, hb, hsp, hF⟩ := F w mg fa _ Y G.T.g hmg
    have tabs : ∀ p ∈ LT, PySem.W.CodeHd s₁.heap p.1 p.2 ∧ s₁.heap.get? p.2 = some tabO := fun p hp => by
      obtain ⟨xp, hx, ht⟩ := ht p hp
      obtain ⟨dp, hrec⟩ := hrec xp hx
      obtain ⟨hC, hT⟩ := PySem.W.tab_of G.T hK hrec (c := p.1) (P := p.2) ht
      exact ⟨hC, hT⟩
    exact law_runsTs hK G.T.g G.T.b G.T.builtins G.T.nolimit hg (fun p hp => (tabs p hp).2) nT (fun p hp => (tabs p hp).1) G.T.bmain hobj hints (Nat.le_trans hlen hn2) hr hF hb (fun H hO hS => hsp H a ns hlen hbits hO hS) fun H e s' => hCX w H s₁ e s'
/-! ### the head with the tables of the defs xs left out of what is told -/
def fragTs (n : Nat) (xs : List Str) (g : Addr → Option Obj) : Fr := He.frG g ((sysModules :: He.asD g n).filter fun a => !((xs.filterMap fun x => PySem.W.tabIn (fragP n g) x).any fun p => a == p.2))
def obsQTs (n : Nat) (xs : List Str) (fa : List He.Fa) (fn : List He.DefD) (pr : List PrD) (ex : Fr → Bool) (g : Addr → Option Obj) : AlQ := obsQK fa fn pr ex (fragTs n xs g)
theorem fragTs_in {n : Nat} {xs : List Str} {h : Heap} : (fragTs n xs h.get?).In h := He.frG_in
def hookQTs (n : Nat) (xs : List Str) (fa : List He.Fa) (fn : List He.DefD) (pr : List PrD) (ex : Fr → Bool) : PySem.W.Hook where
  α := AlQ
  obs := fun s => obsQTs n xs fa fn pr ex s.heap.get?
  val := fun _ => ((He.valD fn, true), true, pr.map fun p : PrD => He.DefD.val p.2)
  says := fun _ h => ∃ K : Fr, K.In h ∧ SaysQ fa fn pr ex K
  of := fun _ _ e => ⟨_, fragTs_in, congrArg (fun z : AlQ => z.1.1) e, congrArg (fun z : AlQ => z.1.2) e, congrArg (fun z : AlQ => z.2.1) e, congrArg (fun z : AlQ => z.2.2) e⟩
  keeps := fun _ _ _ ⟨K, hK, c⟩ k => ⟨K, PySem.W.Frag.In.keeps hK k, c⟩
theorem obsQTs_eq {n : Nat} {xs : List Str} {fa : List He.Fa} {fn : List He.DefD} {pr : List PrD} {ex : Fr → Bool} {g : Addr → Option Obj} {s : Shared} (h : ∀ a, g a = s.heap.get? a) : obsQTs n xs fa fn pr ex g = (hookQTs n xs fa fn pr ex).obs s := by
  have e : g = s.heap.get? := funext h
  rw [e] <;> rfl
/-- the tables of two defs, each not told -/
def tabB (K : Fr) (x : Str) : Bool := match PySem.W.tabIn K x with
  | some (_, P) => (K.lookup P).isNone
  | none => false
theorem tabB_ok {K : Fr} {x : Str} (h : tabB K x = true) : ∃ c P, PySem.W.tabIn K x = some (c, P) ∧ K.lookup P = none := by
  unfold tabB at h
  split at h
  · rename_i a b e
    exact ⟨_, _, e, Option.isNone_iff_eq_none.mp h⟩
  · cases h
theorem tab_code {K : Fr} {h : Heap} {mg : Str → Option Value} (X : K.In h) (G : h.Ns mainGlobals mg) {x : Str} {f c P : Addr} {oc : Value} {od : Option Addr} {fd : FuncData} {osl : Array (Option Value)} (gp : mg x = some (.ref f)) (lk : K.lookup f = some ⟨oc, od, .func fd, osl⟩) (ht : PySem.W.tabIn K x = some (c, P)) : fd.code = .ref c := by
  have tt := ht
  unfold PySem.W.tabIn at tt
  split at tt
  · rename_i f0 hf0
    have e2 := PySem.W.mg_of X G hf0
    rw [gp] at e2
    cases e2
    exact code_of hf0 lk ht
  · cases tt
end Pl
end L2
namespace L2
namespace Pl
open PySem PySem.Spec PyProof.Rows
def tabNe (K : Fr) (x y : Str) : Bool := match PySem.W.tabIn K x, PySem.W.tabIn K y with
  | some (_, P), some (_, R) => !(P == R)
  | _, _ => false
theorem tabNe_ok {K : Fr} {x y : Str} {c P d R : Addr} (h : tabNe K x y = true) (h1 : PySem.W.tabIn K x = some (c, P)) (h2 : PySem.W.tabIn K y = some (d, R)) : P ≠ R := fun e => by
  unfold tabNe at h
  rw [h1, h2, e] at h
  simp at h
end Pl
end L2
set_option Elab.async false
set_option linter.all false
set_option maxRecDepth 100000
set_option maxHeartbeats 0
namespace Bs
open PySem PySem.Spec PyProof.Rows L2 L2.Pl
def glD (x : Str) (i : Nat) : He.DefD := ⟨(x, none), x, x, defArgs (top i), defBody (top i), defScope (top i), [], []⟩
def meD (C m : Str) (i j : Nat) : He.DefD := ⟨(C, some m), m, C ++ "." ++ m, defArgs (inClass (top i) j), defBody (inClass (top i) j), defScope (inClass (top i) j), [], []⟩
def glosA : List (Str × Nat) := [("row_where", 2), ("parting", 4), ("alike", 5), ("classes", 6), ("rows_from", 1), ("played_again", 8), ("day", 9), ("since", 10), ("is_name", 21), ("right_standings", 25), ("from_all", 26), ("right_leads", 27), ("right_deeds", 28), ("right_looks", 29), ("_law_source", 32), ("_law_draw", 33)]
def glosB : List (Str × Nat) := [("_law_pick", 34), ("_law_mixed", 35), ("_law_word", 36), ("_law_names", 37), ("_law_leads", 38), ("_law_base", 39), ("_law_made", 40), ("_law_led", 41), ("_law_seen", 42), ("_law_deeds", 43), ("_law_from", 44), ("_law_far", 45), ("_law_parts", 46), ("_law_tables", 47), ("_law_bears", 48), ("_law_right", 49), ("law", 50)]
def glos : List (Str × Nat) := glosA ++ glosB
def fn : List He.DefD := glos.map (fun p => glD p.1 p.2) ++ [meD "Store" "__init__" 30 0, meD "Store" "__eq__" 30 1, meD "Store" "look" 30 4, meD "Store" "lead" 30 5, meD "Store" "come" 30 6, meD "Store" "_check_standing" 30 7, meD "NoStanding" "__init__" 16 0]
def pr : List PrD := [(("Store", "standings"), meD "Store" "standings" 30 2), (("Store", "deeds"), meD "Store" "deeds" 30 3)]
def faA : List He.Fa := glos.map (fun p => .glo p.1)
def faB : List He.Fa := [.glo "Store", .free "len", .free "int", .free "isinstance", .free "range", .free "max", .free "min", .free "enumerate", .free "list", .free "dict", .free "tuple", .free "zip", .free "set", .free "all", .free "str", .free "repr", .int "LONGEST" 8, .int "MOST_STANDINGS" 5, .int "MOST_DEEDS" 4, .str "LETTERS" "abcdefghijklmnopqrstuvwxyz", .cls "Store", .noat "Store" "_standings", .noat "Store" "_deeds", .noat "Store" "_leads", .noat "Store" "_looks", .meth "Store" "look", .meth "Store" "lead", .meth "Store" "come", .meth "Store" "_check_standing", .mkr "Store"]
def fa : List He.Fa := faA ++ faB
def ex (K : Fr) : Bool := raB K "NoStanding" "value" && (storeB K && (tabB K "parting" && (tabB K "played_again" && (tabNe K "parting" "played_again"))))
abbrev R : PySem.W.OpenRow := PySem.W.OpenLaw.row rw0
abbrev hk : PySem.W.Hook := hookQTs 6 ["parting", "played_again"] fa fn pr ex
def ob (s : PySem.W.SharedT) : AlQ := obsQTs 6 ["parting", "played_again"] fa fn pr ex (HandSHeadRun.getT s)
theorem ob_eq (s : PySem.W.SharedT) : ob s = hk.obs s.abs := obsQTs_eq (HandSHeadRun.getT_eq s)
def looseA : List Str := ["rows_from", "row_where", "alike", "classes", "day", "since", "LateError", "BadStandings", "BadDeeds", "BadLooks", "NoStanding", "NoDeed", "LETTERS", "LONGEST", "is_name", "MOST_STANDINGS", "MOST_DEEDS", "right_standings", "from_all", "right_leads"]
def looseB : List Str := ["right_deeds", "right_looks", "Store", "_law_source", "_law_draw", "_law_pick", "_law_mixed", "_law_word", "_law_names", "_law_leads", "_law_base", "_law_made", "_law_led", "_law_seen", "_law_deeds", "_law_from", "_law_far", "_law_parts", "_law_tables", "_law_bears", "_law_right"]
def loose : List Str := looseA ++ looseB
theorem run (w : World) : HandSHeadRun.RunEq R (PySem.W.view R.prog [4, 8, 50]) hk ob 8000 loose w := by
  intro os
  kernel_rfl
end Bs
set_option Elab.async false
set_option linter.all false
set_option maxRecDepth 100000
set_option maxHeartbeats 4000000
namespace Bs
open PySem PySem.Spec PyProof.Rows L2 L2.Pl LamP NdefX LamX
section
variable {P : Program} {w : World} {K : PySem.W.Frag} {mg : Str → Option Value} {base : Heap}
theorem raise_ok {h : Heap} (X : K.In h) (G : h.Ns mainGlobals mg) {x f qual : Str} {params : Arguments} {scope : Scope} {fd : FuncData} {q1 q2 q3 q4 : Pos} (c : raB K x f = true) (F : FunD K "__init__" qual params [.Assign [.Attribute (.Name "self" q1) f q2] (.Name f q3) q4] scope [] [] (He.ma K (He.ga K x) "__init__") fd)
    (S : FnScope ["self", f] ["self", f] scope) (v1 : scope.names.lookup ("self" : Str) = some NameKind.local) (v2 : scope.names.lookup f = some NameKind.local) (d1 : (f == ("__debug__" : Str)) = false) (d2 : (f == ("__classdict__" : Str)) = false)
    (hb : L2.Binds K fd ["self", f] []) : RaF P w K mg base x f (He.ga K x) := by
  obtain ⟨c1, c2⟩ := He.ba c
  have e := exc_ok c1
  exact ⟨e.o, xfB_ok c2, e.nf, PySem.W.mg_of X G e.gl, _, fd, e.iC, e.tI, ini_ok F S v1 v2 d1 d2 e.o e.nf, hb⟩
theorem facts {P : Program} {w : World} {K : Fr} {h : Heap} {mg : Str → Option Value} {f : Addr} (X : K.In h) (G : h.Ns mainGlobals mg) (hfa : mg ("law" : Str) = some (.ref f)) (c : SaysQ fa fn pr ex K) :
    ∃ (fd : FuncData) (LT : List (Addr × Addr)) (TT : List NTab), (∀ p ∈ LT, ∃ xp ∈ (["parting", "played_again"] : List Str), PySem.W.tabIn K xp = some p) ∧ (∀ p ∈ LT, K.lookup p.2 = none) ∧ (∀ t ∈ TT, ∃ p ∈ LT, p.2 = t.1) ∧ (∀ (s : Shared) (v : Value), BindsTo s fd ⟨[v], []⟩ [("script", v)]) ∧ ∀ base : Heap, K.In base → base.Ns mainGlobals mg → (∀ p ∈ LT, TabB base mg p.1 p.2) → FnG P w K mg base CX0 12 f fd ["script"] (spLawN K TT) := by
  obtain ⟨m1, r0⟩ := He.ba c.more
  obtain ⟨m2, r1⟩ := He.ba r0
  obtain ⟨mt_parting, r2⟩ := He.ba r1
  obtain ⟨mt_played_again, mt_ne⟩ := He.ba r2
  have free : ∀ {x : Str} (i : Nat), fa[i]? = some (.free x) → mg x = none := fun i e => He.free_ok X G (c.d.fact i e)
  have gn : Gn mg := ⟨free 34 rfl, free 35 rfl, free 36 rfl, free 37 rfl, free 38 rfl, free 39 rfl, free 40 rfl, free 41 rfl, free 42 rfl, free 43 rfl, free 44 rfl, free 45 rfl, free 46 rfl, free 47 rfl, free 48 rfl⟩
  have g : ∀ {x : Str} (i : Nat), fa[i]? = some (.glo x) → mg x = some (.ref (He.ga K x)) := fun i e => He.glo_ok X G (c.d.fact i e)
  have e := hfa.symm.trans (g (x := "law") 32 rfl)
  cases e
  have k_LONGEST := He.int_ok X G (c.d.fact (f := .int "LONGEST" 8) 49 rfl)
  have k_MOST_STANDINGS := He.int_ok X G (c.d.fact (f := .int "MOST_STANDINGS" 5) 50 rfl)
  have k_MOST_DEEDS := He.int_ok X G (c.d.fact (f := .int "MOST_DEEDS" 4) 51 rfl)
  have k_LETTERS := He.str_ok X G (c.d.fact (f := .str "LETTERS" "abcdefghijklmnopqrstuvwxyz") 52 rfl)
  have c_Store := He.cls_ok (c.d.fact (f := .cls "Store") 53 rfl)
  have n_Store_standings := He.noat_ok (c.d.fact (f := .noat "Store" "_standings") 54 rfl)
  have n_Store_deeds := He.noat_ok (c.d.fact (f := .noat "Store" "_deeds") 55 rfl)
  have n_Store_leads := He.noat_ok (c.d.fact (f := .noat "Store" "_leads") 56 rfl)
  have n_Store_looks := He.noat_ok (c.d.fact (f := .noat "Store" "_looks") 57 rfl)
  have m_Store_look := He.meth_ok (c.d.fact (f := .meth "Store" "look") 58 rfl)
  have m_Store_lead := He.meth_ok (c.d.fact (f := .meth "Store" "lead") 59 rfl)
  have m_Store_come := He.meth_ok (c.d.fact (f := .meth "Store" "come") 60 rfl)
  have m_Store__check_standing := He.meth_ok (c.d.fact (f := .meth "Store" "_check_standing") 61 rfl)
  have k_Store := He.mkr_ok (c.d.fact (f := .mkr "Store") 62 rfl)
  have g_Store := g (x := "Store") 33 rfl
  obtain ⟨d_row_where, F_row_where⟩ := c.d.def_ 0 (d := glD "row_where" 2) rfl
  have b_row_where := FunD.bindsN (ps := ["store", "first", "second", "wanted"]) F_row_where fun _ _ _ _ _ _ us hl => match us, hl with | [_, _, _, _], _ => rfl
  have g_row_where := g (x := "row_where") 0 rfl
  obtain ⟨d_parting, F_parting⟩ := c.d.def_ 1 (d := glD "parting" 4) rfl
  have b_parting := FunD.bindsN (ps := ["store", "first", "second"]) F_parting fun _ _ _ _ _ _ us hl => match us, hl with | [_, _, _], _ => rfl
  have g_parting := g (x := "parting") 1 rfl
  obtain ⟨d_alike, F_alike⟩ := c.d.def_ 2 (d := glD "alike" 5) rfl
  have b_alike := FunD.bindsN (ps := ["store", "first", "second"]) F_alike fun _ _ _ _ _ _ us hl => match us, hl with | [_, _, _], _ => rfl
  have g_alike := g (x := "alike") 2 rfl
  obtain ⟨d_classes, F_classes⟩ := c.d.def_ 3 (d := glD "classes" 6) rfl
  have b_classes := FunD.bindsN (ps := ["store"]) F_classes fun _ _ _ _ _ _ us hl => match us, hl with | [_], _ => rfl
  have g_classes := g (x := "classes") 3 rfl
  obtain ⟨d_rows_from, F_rows_from⟩ := c.d.def_ 4 (d := glD "rows_from" 1) rfl
  have b_rows_from := FunD.bindsN (ps := ["store", "standing"]) F_rows_from fun _ _ _ _ _ _ us hl => match us, hl with | [_, _], _ => rfl
  have g_rows_from := g (x := "rows_from") 4 rfl
  obtain ⟨d_played_again, F_played_again⟩ := c.d.def_ 5 (d := glD "played_again" 8) rfl
  have b_played_again := FunD.bindsN (ps := ["store", "between"]) F_played_again fun _ _ _ _ _ _ us hl => match us, hl with | [_, _], _ => rfl
  have g_played_again := g (x := "played_again") 5 rfl
  obtain ⟨d_day, F_day⟩ := c.d.def_ 6 (d := glD "day" 9) rfl
  have b_day := FunD.bindsN (ps := ["store"]) F_day fun _ _ _ _ _ _ us hl => match us, hl with | [_], _ => rfl
  have g_day := g (x := "day") 6 rfl
  obtain ⟨d_since, F_since⟩ := c.d.def_ 7 (d := glD "since" 10) rfl
  have b_since := FunD.bindsN (ps := ["store"]) F_since fun _ _ _ _ _ _ us hl => match us, hl with | [_], _ => rfl
  have g_since := g (x := "since") 7 rfl
  obtain ⟨d_is_name, F_is_name⟩ := c.d.def_ 8 (d := glD "is_name" 21) rfl
  have b_is_name := FunD.bindsN (ps := ["value"]) F_is_name fun _ _ _ _ _ _ us hl => match us, hl with | [_], _ => rfl
  have g_is_name := g (x := "is_name") 8 rfl
  obtain ⟨d_right_standings, F_right_standings⟩ := c.d.def_ 9 (d := glD "right_standings" 25) rfl
  have b_right_standings := FunD.bindsN (ps := ["value"]) F_right_standings fun _ _ _ _ _ _ us hl => match us, hl with | [_], _ => rfl
  have g_right_standings := g (x := "right_standings") 9 rfl
  obtain ⟨d_from_all, F_from_all⟩ := c.d.def_ 10 (d := glD "from_all" 26) rfl
  have b_from_all := FunD.bindsN (ps := ["value", "standings"]) F_from_all fun _ _ _ _ _ _ us hl => match us, hl with | [_, _], _ => rfl
  have g_from_all := g (x := "from_all") 10 rfl
  obtain ⟨d_right_leads, F_right_leads⟩ := c.d.def_ 11 (d := glD "right_leads" 27) rfl
  have b_right_leads := FunD.bindsN (ps := ["value", "standings"]) F_right_leads fun _ _ _ _ _ _ us hl => match us, hl with | [_, _], _ => rfl
  have g_right_leads := g (x := "right_leads") 11 rfl
  obtain ⟨d_right_deeds, F_right_deeds⟩ := c.d.def_ 12 (d := glD "right_deeds" 28) rfl
  have b_right_deeds := FunD.bindsN (ps := ["value", "standings"]) F_right_deeds fun _ _ _ _ _ _ us hl => match us, hl with | [_, _], _ => rfl
  have g_right_deeds := g (x := "right_deeds") 12 rfl
  obtain ⟨d_right_looks, F_right_looks⟩ := c.d.def_ 13 (d := glD "right_looks" 29) rfl
  have b_right_looks := FunD.bindsN (ps := ["value", "standings"]) F_right_looks fun _ _ _ _ _ _ us hl => match us, hl with | [_, _], _ => rfl
  have g_right_looks := g (x := "right_looks") 13 rfl
  obtain ⟨d__law_source, F__law_source⟩ := c.d.def_ 14 (d := glD "_law_source" 32) rfl
  have b__law_source := FunD.bindsN (ps := ["script", "start"]) F__law_source fun _ _ _ _ _ _ us hl => match us, hl with | [_, _], _ => rfl
  have g__law_source := g (x := "_law_source") 14 rfl
  obtain ⟨d__law_draw, F__law_draw⟩ := c.d.def_ 15 (d := glD "_law_draw" 33) rfl
  have b__law_draw := FunD.bindsN (ps := ["source", "span"]) F__law_draw fun _ _ _ _ _ _ us hl => match us, hl with | [_, _], _ => rfl
  have g__law_draw := g (x := "_law_draw") 15 rfl
  obtain ⟨d__law_pick, F__law_pick⟩ := c.d.def_ 16 (d := glD "_law_pick" 34) rfl
  have b__law_pick := FunD.bindsN (ps := ["source", "things"]) F__law_pick fun _ _ _ _ _ _ us hl => match us, hl with | [_, _], _ => rfl
  have g__law_pick := g (x := "_law_pick") 16 rfl
  obtain ⟨d__law_mixed, F__law_mixed⟩ := c.d.def_ 17 (d := glD "_law_mixed" 35) rfl
  have b__law_mixed := FunD.bindsN (ps := ["source", "things"]) F__law_mixed fun _ _ _ _ _ _ us hl => match us, hl with | [_, _], _ => rfl
  have g__law_mixed := g (x := "_law_mixed") 17 rfl
  obtain ⟨d__law_word, F__law_word⟩ := c.d.def_ 18 (d := glD "_law_word" 36) rfl
  have b__law_word := FunD.bindsN (ps := ["source"]) F__law_word fun _ _ _ _ _ _ us hl => match us, hl with | [_], _ => rfl
  have g__law_word := g (x := "_law_word") 18 rfl
  obtain ⟨d__law_names, F__law_names⟩ := c.d.def_ 19 (d := glD "_law_names" 37) rfl
  have b__law_names := FunD.bindsN (ps := ["source", "many"]) F__law_names fun _ _ _ _ _ _ us hl => match us, hl with | [_, _], _ => rfl
  have g__law_names := g (x := "_law_names") 19 rfl
  obtain ⟨d__law_leads, F__law_leads⟩ := c.d.def_ 20 (d := glD "_law_leads" 38) rfl
  have b__law_leads := FunD.bindsN (ps := ["source", "many"]) F__law_leads fun _ _ _ _ _ _ us hl => match us, hl with | [_, _], _ => rfl
  have g__law_leads := g (x := "_law_leads") 20 rfl
  obtain ⟨d__law_base, F__law_base⟩ := c.d.def_ 21 (d := glD "_law_base" 39) rfl
  have b__law_base := FunD.bindsN (ps := ["source", "most"]) F__law_base fun _ _ _ _ _ _ us hl => match us, hl with | [_, _], _ => rfl
  have g__law_base := g (x := "_law_base") 21 rfl
  obtain ⟨d__law_made, F__law_made⟩ := c.d.def_ 22 (d := glD "_law_made" 40) rfl
  have b__law_made := FunD.bindsN (ps := ["base"]) F__law_made fun _ _ _ _ _ _ us hl => match us, hl with | [_], _ => rfl
  have g__law_made := g (x := "_law_made") 22 rfl
  obtain ⟨d__law_led, F__law_led⟩ := c.d.def_ 23 (d := glD "_law_led" 41) rfl
  have b__law_led := FunD.bindsN (ps := ["base", "standing", "row"]) F__law_led fun _ _ _ _ _ _ us hl => match us, hl with | [_, _, _], _ => rfl
  have g__law_led := g (x := "_law_led") 23 rfl
  obtain ⟨d__law_seen, F__law_seen⟩ := c.d.def_ 24 (d := glD "_law_seen" 42) rfl
  have b__law_seen := FunD.bindsN (ps := ["base", "standing"]) F__law_seen fun _ _ _ _ _ _ us hl => match us, hl with | [_, _], _ => rfl
  have g__law_seen := g (x := "_law_seen") 24 rfl
  obtain ⟨d__law_deeds, F__law_deeds⟩ := c.d.def_ 25 (d := glD "_law_deeds" 43) rfl
  have b__law_deeds := FunD.bindsN (ps := ["base"]) F__law_deeds fun _ _ _ _ _ _ us hl => match us, hl with | [_], _ => rfl
  have g__law_deeds := g (x := "_law_deeds") 25 rfl
  obtain ⟨d__law_from, F__law_from⟩ := c.d.def_ 26 (d := glD "_law_from" 44) rfl
  have b__law_from := FunD.bindsN (ps := ["base", "standing"]) F__law_from fun _ _ _ _ _ _ us hl => match us, hl with | [_, _], _ => rfl
  have g__law_from := g (x := "_law_from") 26 rfl
  obtain ⟨d__law_far, F__law_far⟩ := c.d.def_ 27 (d := glD "_law_far" 45) rfl
  have b__law_far := FunD.bindsN (ps := ["base", "one", "other"]) F__law_far fun _ _ _ _ _ _ us hl => match us, hl with | [_, _, _], _ => rfl
  have g__law_far := g (x := "_law_far") 27 rfl
  obtain ⟨d__law_parts, F__law_parts⟩ := c.d.def_ 28 (d := glD "_law_parts" 46) rfl
  have b__law_parts := FunD.bindsN (ps := ["base", "one", "other"]) F__law_parts fun _ _ _ _ _ _ us hl => match us, hl with | [_, _, _], _ => rfl
  have g__law_parts := g (x := "_law_parts") 28 rfl
  obtain ⟨d__law_tables, F__law_tables⟩ := c.d.def_ 29 (d := glD "_law_tables" 47) rfl
  have b__law_tables := FunD.bindsN (ps := ["base"]) F__law_tables fun _ _ _ _ _ _ us hl => match us, hl with | [_], _ => rfl
  have g__law_tables := g (x := "_law_tables") 29 rfl
  obtain ⟨d__law_bears, F__law_bears⟩ := c.d.def_ 30 (d := glD "_law_bears" 48) rfl
  have b__law_bears := FunD.bindsN (ps := ["base", "is_since"]) F__law_bears fun _ _ _ _ _ _ us hl => match us, hl with | [_, _], _ => rfl
  have g__law_bears := g (x := "_law_bears") 30 rfl
  obtain ⟨d__law_right, F__law_right⟩ := c.d.def_ 31 (d := glD "_law_right" 49) rfl
  have b__law_right := FunD.bindsN (ps := ["base", "told", "is_since"]) F__law_right fun _ _ _ _ _ _ us hl => match us, hl with | [_, _, _], _ => rfl
  have g__law_right := g (x := "_law_right") 31 rfl
  obtain ⟨d_law, F_law⟩ := c.d.def_ 32 (d := glD "law" 50) rfl
  have b_law := FunD.bindsA (ps := ["script"]) F_law fun _ _ _ _ _ _ us hl => match us, hl with | [_], _ => rfl
  have g_law := g (x := "law") 32 rfl
  obtain ⟨d_Store___init__, F_Store___init__⟩ := c.d.def_ 33 (d := meD "Store" "__init__" 30 0) rfl
  have b_Store___init__ := FunD.bindsN (ps := ["self", "standings", "deeds", "looks"]) F_Store___init__ fun _ _ _ _ _ _ us hl => match us, hl with | [_, _, _, _], _ => rfl
  obtain ⟨d_Store___eq__, F_Store___eq__⟩ := c.d.def_ 34 (d := meD "Store" "__eq__" 30 1) rfl
  have b_Store___eq__ := FunD.bindsN (ps := ["self", "other"]) F_Store___eq__ fun _ _ _ _ _ _ us hl => match us, hl with | [_, _], _ => rfl
  obtain ⟨d_Store_look, F_Store_look⟩ := c.d.def_ 35 (d := meD "Store" "look" 30 4) rfl
  have b_Store_look := FunD.bindsN (ps := ["self", "standing"]) F_Store_look fun _ _ _ _ _ _ us hl => match us, hl with | [_, _], _ => rfl
  obtain ⟨d_Store_lead, F_Store_lead⟩ := c.d.def_ 36 (d := meD "Store" "lead" 30 5) rfl
  have b_Store_lead := FunD.bindsN (ps := ["self", "standing", "row"]) F_Store_lead fun _ _ _ _ _ _ us hl => match us, hl with | [_, _, _], _ => rfl
  obtain ⟨d_Store_come, F_Store_come⟩ := c.d.def_ 37 (d := meD "Store" "come" 30 6) rfl
  have b_Store_come := FunD.bindsN (ps := ["self"]) F_Store_come fun _ _ _ _ _ _ us hl => match us, hl with | [_], _ => rfl
  obtain ⟨d_Store__check_standing, F_Store__check_standing⟩ := c.d.def_ 38 (d := meD "Store" "_check_standing" 30 7) rfl
  have b_Store__check_standing := FunD.bindsN (ps := ["self", "value"]) F_Store__check_standing fun _ _ _ _ _ _ us hl => match us, hl with | [_, _], _ => rfl
  obtain ⟨d_NoStanding___init__, F_NoStanding___init__⟩ := c.d.def_ 39 (d := meD "NoStanding" "__init__" 16 0) rfl
  have b_NoStanding___init__ := FunD.bindsN (ps := ["self", "value"]) F_NoStanding___init__ fun _ _ _ _ _ _ us hl => match us, hl with | [_, _], _ => rfl
  obtain ⟨p_standings, dp_standings, Fp_standings⟩ := c.prop 0 (p := (("Store", "standings"), meD "Store" "standings" 30 2)) rfl
  have bp_standings := FunD.bindsN (ps := ["self"]) Fp_standings fun _ _ _ _ _ _ us hl => match us, hl with | [_], _ => rfl
  obtain ⟨p_deeds, dp_deeds, Fp_deeds⟩ := c.prop 1 (p := (("Store", "deeds"), meD "Store" "deeds" 30 3)) rfl
  have bp_deeds := FunD.bindsN (ps := ["self"]) Fp_deeds fun _ _ _ _ _ _ us hl => match us, hl with | [_], _ => rfl
  obtain ⟨c_parting, P_parting, t_parting, n_parting⟩ := tabB_ok mt_parting
  have hc_parting : d_parting.code = .ref c_parting := by
    obtain ⟨oc, od, dV, kV, doc, pm, an, cdv, ct, osl, e0, lk, _⟩ := F_parting.ex
    exact tab_code X G g_parting lk t_parting
  obtain ⟨c_played_again, P_played_again, t_played_again, n_played_again⟩ := tabB_ok mt_played_again
  have hc_played_again : d_played_again.code = .ref c_played_again := by
    obtain ⟨oc, od, dV, kV, doc, pm, an, cdv, ct, osl, e0, lk, _⟩ := F_played_again.ex
    exact tab_code X G g_played_again lk t_played_again
  refine ⟨d_law, [(c_parting, P_parting), (c_played_again, P_played_again)], [(P_parting, fun _ _ => "parting.<locals>.<lambda>"), (P_played_again, fun _ _ => "played_again.<locals>.<lambda>")], ?_, ?_, ?_, fun s v => b_law s [v] rfl, fun base _ _ TBs => ?_⟩
  · intro p hp
    rcases List.mem_cons.mp hp with rfl | hp
    · exact ⟨_, List.mem_cons_self .., t_parting⟩
    · rw [List.mem_singleton.mp hp]
      exact ⟨_, List.mem_cons_of_mem _ (List.mem_singleton.mpr rfl), t_played_again⟩
  · intro p hp
    rcases List.mem_cons.mp hp with rfl | hp
    · exact n_parting
    · rw [List.mem_singleton.mp hp]
      exact n_played_again
  · intro p hp
    rcases List.mem_cons.mp hp with rfl | hp
    · exact ⟨_, List.mem_cons_self .., rfl⟩
    · rw [List.mem_singleton.mp hp]
      exact ⟨_, List.mem_cons_of_mem _ (List.mem_singleton.mpr rfl), rfl⟩
  have P_ne : P_parting ≠ P_played_again := tabNe_ok mt_ne t_parting t_played_again
  have TB_parting : TabB base mg c_parting P_parting := TBs _ (List.mem_cons_self ..)
  have TB_played_again : TabB base mg c_played_again P_played_again := TBs _ (List.mem_cons_of_mem _ (List.mem_singleton.mpr rfl))
  let TT : List NTab := [(P_parting, fun _ _ => "parting.<locals>.<lambda>"), (P_played_again, fun _ _ => "played_again.<locals>.<lambda>")]
  have hm_parting : ((P_parting, (fun _ _ => "parting.<locals>.<lambda>" : Nat → Nat → Str)) : NTab) ∈ TT := List.mem_cons_self ..
  have hm_played_again : ((P_played_again, (fun _ _ => "played_again.<locals>.<lambda>" : Nat → Nat → Str)) : NTab) ∈ TT := List.mem_cons_of_mem _ (List.mem_singleton.mpr rfl)
  have hu_parting : ∀ p ∈ TT, p.1 = P_parting → p.2 = (fun _ _ => "parting.<locals>.<lambda>" : Nat → Nat → Str) := fun p hp e => by
    rcases List.mem_cons.mp hp with rfl | hp
    · rfl
    · rw [List.mem_singleton.mp hp] at e
      exact (P_ne e.symm).elim
  have hu_played_again : ∀ p ∈ TT, p.1 = P_played_again → p.2 = (fun _ _ => "played_again.<locals>.<lambda>" : Nat → Nat → Str) := fun p hp e => by
    rcases List.mem_cons.mp hp with rfl | hp
    · exact (P_ne e).elim
    · rw [List.mem_singleton.mp hp]
  have cst : Cst mg := ⟨k_LONGEST, k_LETTERS, k_MOST_STANDINGS, k_MOST_DEEDS⟩
  have stF : StF K mg (He.ga K "Store") := ⟨c_Store, n_Store_standings, n_Store_deeds, n_Store_leads, n_Store_looks, g_Store⟩
  obtain ⟨stE, neC⟩ := store_ok m2
  have raNoStanding : RaF P w K mg base "NoStanding" "value" (He.ga K "NoStanding") := raise_ok X G m1 F_NoStanding___init__ ⟨rfl, rfl, rfl, by decide +kernel, rfl, by decide +kernel, by decide +kernel⟩ rfl rfl (by decide +kernel) (by decide +kernel) b_NoStanding___init__
  have hSource : Has P w K mg base CX0 "_law_source" 1 ["script", "start"] (spSource K) := ⟨_, _, ok_source gn F__law_source, b__law_source, g__law_source, F__law_source.kp⟩
  have hDraw : Has P w K mg base CX0 "_law_draw" 1 ["source", "span"] (spDraw) := ⟨_, _, ok_draw gn F__law_draw, b__law_draw, g__law_draw, F__law_draw.kp⟩
  have hPick : Has P w K mg base CX0 "_law_pick" 2 ["source", "things"] (spPick K) := ⟨_, _, ok_pick gn F__law_pick hDraw, b__law_pick, g__law_pick, F__law_pick.kp⟩
  have hMixed : Has P w K mg base CX0 "_law_mixed" 2 ["source", "things"] (spMixed K) := ⟨_, _, ok_mixed gn F__law_mixed hDraw, b__law_mixed, g__law_mixed, F__law_mixed.kp⟩
  have hWord : Has P w K mg base CX0 "_law_word" 3 ["source"] (spWord) := ⟨_, _, ok_word gn F__law_word hDraw hPick, b__law_word, g__law_word, F__law_word.kp⟩
  have hNames : Has P w K mg base CX0 "_law_names" 4 ["source", "many"] (spNames) := ⟨_, _, ok_names gn F__law_names hDraw hMixed hWord, b__law_names, g__law_names, F__law_names.kp⟩
  have hLeads : Has P w K mg base CX0 "_law_leads" 3 ["source", "many"] (spLeads) := ⟨_, _, ok_leads gn F__law_leads hDraw hMixed, b__law_leads, g__law_leads, F__law_leads.kp⟩
  have hBase : Has P w K mg base CX0 "_law_base" 5 ["source", "most"] (spBaseT K) := ⟨_, _, ok_baseT gn F__law_base hDraw hPick hMixed hNames hLeads, b__law_base, g__law_base, F__law_base.kp⟩
  have hIsN : Has P w K mg base CX0 "is_name" 1 ["value"] (spIsName K) := ⟨_, _, ok_isName gn cst F_is_name, b_is_name, g_is_name, F_is_name.kp⟩
  have hRS : Has P w K mg base CX0 "right_standings" 2 ["value"] (spRStand K) := ⟨_, _, ok_rstand gn cst F_right_standings hIsN, b_right_standings, g_right_standings, F_right_standings.kp⟩
  have hFA : Has P w K mg base CX0 "from_all" 1 ["value", "standings"] (spFromAll K) := ⟨_, _, ok_fromAll gn F_from_all, b_from_all, g_from_all, F_from_all.kp⟩
  have hLd : Has P w K mg base CX0 "right_leads" 2 ["value", "standings"] (spRLeads K) := ⟨_, _, ok_rleads gn F_right_leads hFA, b_right_leads, g_right_leads, F_right_leads.kp⟩
  have hRD : Has P w K mg base CX0 "right_deeds" 3 ["value", "standings"] (spRDeeds K) := ⟨_, _, ok_rdeeds gn cst F_right_deeds hLd hIsN, b_right_deeds, g_right_deeds, F_right_deeds.kp⟩
  have hRL : Has P w K mg base CX0 "right_looks" 2 ["value", "standings"] (spRLooks K) := ⟨_, _, ok_rlooks gn F_right_looks hFA hIsN, b_right_looks, g_right_looks, F_right_looks.kp⟩
  have oInit := ok_init gn stF F_Store___init__ hRS hRD hRL (P := P) (w := w) (base := base)
  have hMade : Has P w K mg base CX0 "_law_made" 6 ["base"] (spMade K (He.ga K "Store")) := ⟨_, _, ok_made gn stF k_Store oInit b_Store___init__ F__law_made, b__law_made, g__law_made, F__law_made.kp⟩
  have hLed : Has P w K mg base CX0 "_law_led" 1 ["base", "standing", "row"] (spLed K) := ⟨_, _, ok_led F__law_led, b__law_led, g__law_led, F__law_led.kp⟩
  have hSeen : Has P w K mg base CX0 "_law_seen" 1 ["base", "standing"] (spSeen K) := ⟨_, _, ok_seen F__law_seen, b__law_seen, g__law_seen, F__law_seen.kp⟩
  have hDeeds : Has P w K mg base CX0 "_law_deeds" 1 ["base"] (spDeeds K) := ⟨_, _, ok_deeds F__law_deeds, b__law_deeds, g__law_deeds, F__law_deeds.kp⟩
  have oChk := ok_check (P := P) (w := w) (base := base) gn stF raNoStanding F_Store__check_standing
  have stM : StM P w K mg base (He.ga K "Store") (He.ga K "NoStanding") := ⟨⟨_, _, ok_look stF oChk b_Store__check_standing m_Store__check_standing F_Store_look, b_Store_look, m_Store_look⟩, ⟨_, _, ok_lead gn stF oChk b_Store__check_standing m_Store__check_standing F_Store_lead, b_Store_lead, m_Store_lead⟩, ⟨_, _, _, ok_std stF Fp_standings, bp_standings, p_standings⟩, ⟨_, _, _, ok_dds stF Fp_deeds, bp_deeds, p_deeds⟩⟩
  have hPart : Has P w K mg base (L2.CX P w) "parting" 7 ["store", "first", "second"] (spPartingN K (He.ga K "Store") (He.ga K "NoStanding") TT) := ⟨_, _, ok_partingN (nm := fun _ _ => "parting.<locals>.<lambda>") stF stM F_parting (fun fr => ok_rowWhere fr stF stM F_row_where) g_row_where F_row_where.kp b_row_where hc_parting TB_parting hm_parting (fun _ _ => rfl) hu_parting, b_parting, g_parting, F_parting.kp⟩
  have hRows : Has P w K mg base CX0 "rows_from" 5 ["store", "standing"] (spRows (He.ga K "Store")) := ⟨_, _, ok_rowsFrom stF stM F_rows_from, b_rows_from, g_rows_from, F_rows_from.kp⟩
  have hAlike : Has P w K mg base (L2.CX P w) "alike" 8 ["store", "first", "second"] (spAlikeN K (He.ga K "Store") (He.ga K "NoStanding") TT) := ⟨_, _, ok_alikeN F_alike hPart, b_alike, g_alike, F_alike.kp⟩
  have hCls : Has P w K mg base CX0 "classes" 9 ["store"] (spClassesN (He.ga K "Store") TT) := ⟨_, _, ok_classesN gn stF stM F_classes hAlike, b_classes, g_classes, F_classes.kp⟩
  have hPl : Has P w K mg base CX0 "played_again" 10 ["store", "between"] (spPlayed (He.ga K "Store") TT) := ⟨_, _, ok_played (nm := fun _ _ => "played_again.<locals>.<lambda>") gn stF stM F_played_again (fun fr => ok_rowWhere fr stF stM F_row_where) g_row_where F_row_where.kp b_row_where hc_played_again TB_played_again hm_played_again (fun _ _ => rfl) hu_played_again hCls hRows hPart ⟨_, _, ok_come stF F_Store_come, b_Store_come, m_Store_come⟩, b_played_again, g_played_again, F_played_again.kp⟩
  have hDay : Has P w K mg base CX0 "day" 11 ["store"] (spDay (He.ga K "Store") TT) := ⟨_, _, ok_day stF stM F_day hPl, b_day, g_day, F_day.kp⟩
  have hSince : Has P w K mg base CX0 "since" 11 ["store"] (spSince (He.ga K "Store") TT) := ⟨_, _, ok_since stF stM F_since hPl hRows, b_since, g_since, F_since.kp⟩
  have hFrom : Has P w K mg base CX0 "_law_from" 2 ["base", "standing"] (spFrom K) := ⟨_, _, ok_from gn F__law_from hDeeds hLed, b__law_from, g__law_from, F__law_from.kp⟩
  have hFar : Has P w K mg base CX0 "_law_far" 2 ["base", "one", "other"] (spFar K) := ⟨_, _, ok_far F__law_far hSeen hDeeds hLed, b__law_far, g__law_far, F__law_far.kp⟩
  have hParts : Has P w K mg base CX0 "_law_parts" 2 ["base", "one", "other"] (spParts K) := ⟨_, _, ok_parts F__law_parts hLed hSeen, b__law_parts, g__law_parts, F__law_parts.kp⟩
  have hTables : Has P w K mg base CX0 "_law_tables" 2 ["base"] (spTables K) := ⟨_, _, ok_tables gn F__law_tables, b__law_tables, g__law_tables, F__law_tables.kp⟩
  have hBears : Has P w K mg base CX0 "_law_bears" 3 ["base", "is_since"] (spBears K) := ⟨_, _, ok_bears gn F__law_bears hFrom hFar hTables, b__law_bears, g__law_bears, F__law_bears.kp⟩
  have hRight : Has P w K mg base CX0 "_law_right" 3 ["base", "told", "is_since"] (spRightD K) := ⟨_, _, ok_rightD gn F__law_right hDeeds hParts, b__law_right, g__law_right, F__law_right.kp⟩
  exact ok_law gn stF k_Store oInit b_Store___init__ (ok_eq gn stF stE F_Store___eq__) b_Store___eq__ neC hSource hBase hMade hDay hSince hBears hRight F_law
end
end Bs
set_option Elab.async false
set_option linter.all false
set_option maxRecDepth 100000
open PySem PySem.W PySem.Calls PyProof.Rows
set_option maxHeartbeats 0 in
theorem PySem.Challenge.cw_playedlate_k30_days_played_again_holds : PySem.Challenge.rw_playedlate_k30_days_played_again.Holds := by
  w_on; o_law
  refine HandSHeadRun.head_any (r := OpenLaw.row PySem.Challenge.rw_playedlate_k30_days_played_again) (q := view (OpenLaw.row PySem.Challenge.rw_playedlate_k30_days_played_again).prog [4, 8, 50]) (H := Bs.hk) (ob := Bs.ob) (M := 8000) (loose := Bs.loose) (d := HandSHeadRun.topDef (OpenLaw.row PySem.Challenge.rw_playedlate_k30_days_played_again).prog 50) (kwd := []) Bs.ob_eq
    (by kernel_rfl) (fun s => by kernel_rfl) Bs.run (by kernel_rfl) (by kernel_rfl) (by kernel_rfl) (by rfl) (by first | assumption | decide +kernel) (by decide +kernel) ⟨rfl, rfl, rfl, rfl, rfl, by decide +kernel⟩ ?hw ?hc
  case hw => w_witness2
  case hc =>
    refine L2.Pl.walk_GTs (l := PySem.Challenge.rw_playedlate_k30_days_played_again) (n := 63) (k := 12) (x := "script") (CX := fun _ => L2.CX0) ["parting", "played_again"] rfl (by decide) (by kernel_rfl) ⟨rfl, by decide, by decide⟩ (fun xp hx => by
      rcases List.mem_cons.mp hx with rfl | hx
      · exact ⟨HandSHeadRun.topDef (OpenLaw.row PySem.Challenge.rw_playedlate_k30_days_played_again).prog 4, by kernel_rfl⟩
      · rw [List.mem_singleton.mp hx]
        exact ⟨HandSHeadRun.topDef (OpenLaw.row PySem.Challenge.rw_playedlate_k30_days_played_again).prog 8, by kernel_rfl⟩) ?F (fun _ _ _ _ _ z => z)
    intro w mg fa h Y G hmg0
    obtain ⟨K, KX, c⟩ := Y
    have hmg : mg ("law" : PySem.Str) = some (.ref fa) := by
      have e : (HandSHeadRun.topDef (OpenLaw.row PySem.Challenge.rw_playedlate_k30_days_played_again).prog 50).name = ("law" : PySem.Str) := by kernel_rfl
      rw [← e]
      exact hmg0
    obtain ⟨fd, LT, TT, h1, h2, h3, hb, hF⟩ := Bs.facts (P := (PySem.Challenge.rw_playedlate_k30_days_played_again).prog) (w := w) KX G hmg c
    exact ⟨K, fd, L2.Pl.spLawN K TT, LT, KX, h1, h2, hb, fun H a ns hl hbits hP hS => ⟨fun t ht => by
      obtain ⟨p, hp, e⟩ := h3 t ht
      rw [show t = (t.1, t.2) from rfl, ← e]
      exact NdefX.TabN.nil (hP p hp), a, ns, rfl, hS, hl, hbits, fun _ => rfl⟩, hF⟩
