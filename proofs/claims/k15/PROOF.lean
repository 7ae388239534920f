import PyProof.Rows.All
import Wide.All
import OpenK.AllK
import Wide.FinOn
import PyProof.EqAt
import PyProof.EqKinds
import PyProof.TupleCall
import PyProof.ReprRoads
import KE.KIsAll
import KE.KTryMore
import HandS.ForMost
import HandS.Exc
import HandS.ExcInit
import HandS.ExcField
import HandS.ExcIs
import HandS.IsInst
import HandS.Defaults
import HandS.Wide
import HandS.EndBits
import HandS.Head2
import HandS.HeadHook2
import HandS.Strs
import HandS.Zip0
import HandS.TupAny
import KE.KDictZip
import HandS.ListItems
import HandS.DictTup
import HandS.More
import HandS.Conv
import HandS.DeepEq
import PyProof.FactsAll.dict_1
import HandS.SetFor
import HandS.Small
import HandS.Walk
import HandS.OwnEq
import PyProof.InstNe
import PyProof.ReprBulk
import HandS.Style
import HandS.MakeKwOnly
import HandS.ExcOwn
import HandS.Lambda
import HandS.WordsExc
import HandS.Property
import PySem.Challenge.RW_playedlate_k15_plans_made
set_option Elab.async false
set_option linter.all false
set_option maxRecDepth 100000
set_option maxHeartbeats 4000000
/-! # Own exceptions as values: made by place and by keyword, read, asked for their class; repr of data with dicts; defs of a caller that bears no repr. -/
namespace PlayL
open PySem PySem.W PySem.Calls PyProof.Rows PySem.HandSPX
/-! ### a keyword call of an exception class -/
section
variable {prog : Program} {w : World} {A : Around} {E : Value → Shared → Prop} {R : Result → Shared → Prop} {hp : Heap} {gs : Array GenState} {dr : Drawn} {tk : Nat} {os : OsState}
variable {cn cq : Str} {C cN : Addr} {cb cm : List Value} {slotn : List Str} {subs : List Value} {abst : Bool} {coll : Option Bool} {cdoc : Option Addr} {z0 z1 z2 z3 z5 : Option Value}
theorem mro_has (hm : refsVE cm = true) (nm : String) : (Value.ref C :: cm).contains (.type nm) = ([.type "ValueError", .type "Exception", .type "BaseException", .type "object"] : List Value).contains (.type nm) := by
  rw [List.contains_cons, refsVE_contains nm cm hm]
  rfl
/-- type.__call__ of the class with keywords alone: a new exception of no args, then the own __init__ with the keywords -/
theorem made_by_kw (hm : refsVE cm = true) {kws : List (Str × Value)} {f0 : Addr} {Q : Fin → Shared → Prop} (hC : hp.get? C = some (excClassObj cn cq C cN cb cm true slotn subs abst coll cdoc z0 z1 z2 z3 z5 "ValueError.__new__"))
    (found : Looks (model prog w) hp (typeLookup (.ref C) "__init__") (some (.ref f0))) (bound : ∀ me, Looks (model prog w) hp (bindSpecial (.ref f0) me) (.ref f0, [me]))
    (next : codeAny (model prog w) A (.call (.ref f0) ⟨[.ref (hp.objs.size + 1)], kws⟩)
      (fun r s' => match r with | .ok (.ret v) => v = .none ∧ Q (.done (.ret (.ref (hp.objs.size + 1)))) s' | .ok _ => False | .error e => E e s') ⟨(hp.push (kdv_tup [])).push (excO C hp.objs.size), gs, dr, tk, os⟩) :
    wpAny (model prog w) A (Builtin.«type.__call__» ⟨[.ref C], kws⟩) Q E ⟨hp, gs, dr, tk, os⟩ := by
  have G := F.excBase_ValueError
  have gn := G.noStar
  have ge := G.ends
  have mV := mro_has (C := C) hm "ValueError"
  have mA := mro_has (C := C) hm "AttributeError"
  have mN := mro_has (C := C) hm "NameError"
  rw [show ([.type "ValueError", .type "Exception", .type "BaseException", .type "object"] : List Value).contains (.type "ValueError") = true by decide +kernel] at mV
  rw [show ([.type "ValueError", .type "Exception", .type "BaseException", .type "object"] : List Value).contains (.type "AttributeError") = false by decide +kernel] at mA
  rw [show ([.type "ValueError", .type "Exception", .type "BaseException", .type "object"] : List Value).contains (.type "NameError") = false by decide +kernel] at mN
  -- the class is looked at
  repeat (first | with_reducible refine wpAny_loadPart_at hC ?_ | with_reducible refine wpAny_madeBy_exc hC ?_ | wp_step)
  refine codeAny_call_builtin_code (Code.quiet_builtin _ G.quiet) ?_
  -- its __new__ may be called so
  simp only [checkBuiltinCall, G.newKind, G.newSplit, G.newRow]
  repeat (first | refine wpAny_loadPart_at hC ?_ | (refine wpAny_isSubtype_exc hC ?_; rw [mV]) | refine wpAny_staticBase_exc hC ?_ | refine wpAny_madeBy_exc hC ?_ | simp only [bne_self_eq_false, Bool.false_eq_true, if_false] | wp_step)
  -- the new exception
  refine codeAny_builtinAt G.entry ?_
  unfold Builtin.«BaseException.__new__»
  refine PySem.wpAt_bind ?_
  show PySem.wpAt _ _ _ (stack >>= _) _ _ _
  refine PySem.wpAt_bind (PySem.wpAt_stack fun _ _ => PySem.wpAt_of_wpAny ?_)
  wp_walk
  refine PySem.wpAt_of_wpAny ?_
  rw [G.owner]
  repeat (first | with_reducible refine wpAny_madeHere_exc G.canon hC ?_ | with_reducible refine wpAny_loadPart_at hC ?_ | (with_reducible refine wpAny_isSubtype_exc hC ?_; first | rw [mV] | rw [mA] | rw [mN]) | wp_step)
  have grows : ∀ b o, hp.get? b = some o → ((hp.push (kdv_tup [])).push (excO C hp.objs.size)).get? b = some o := fun b o e => Heap.get?_push_of_some _ (Heap.get?_push_of_some _ e)
  have fresh : ((hp.push (kdv_tup [])).push (excO C hp.objs.size)).get? (hp.objs.size + 1) = some (excO C hp.objs.size) := by heap_get
  have self_in : (Value.ref C :: cm).contains (.ref C) = true := by simp
  have C' := grows _ _ hC
  have found' := found.keeps grows
  have bound' := (bound (.ref (hp.objs.size + 1))).keeps grows
  show wpAny _ _ _ _ _ _
  rw [Heap.size_push]
  refine wpAny_isSubtype_exc C' ?_
  rw [self_in]
  repeat (first | with_reducible refine wpAny_loadPart_at fresh ?_ | wp_step)
  show wpAny _ _ (typeLookup (.ref C) _) _ _ _
  refine found'.at (wpAny_holding (wpAny_bind (bound'.at (wpAny_bind (wpAny_call (codeAny_mono next fun r s' y => ?_))))))
  match r, y with
  | .error _, y => exact y
  | .ok .next, y => exact y.elim
  | .ok .brk, y => exact y.elim
  | .ok .cont, y => exact y.elim
  | .ok (.ret v), y =>
    obtain ⟨rfl, y⟩ := y
    first
      | exact wpAny_pure (wpAny_pure y)
      | (wp_walk; exact y)
theorem called_by_kw (hm : refsVE cm = true) {kws : List (Str × Value)} {f0 : Addr} (hC : hp.get? C = some (excClassObj cn cq C cN cb cm true slotn subs abst coll cdoc z0 z1 z2 z3 z5 "ValueError.__new__"))
    (found : Looks (model prog w) hp (typeLookup (.ref C) "__init__") (some (.ref f0))) (bound : ∀ me, Looks (model prog w) hp (bindSpecial (.ref f0) me) (.ref f0, [me]))
    (next : codeAny (model prog w) (A.under (.builtin "type.__call__" ⟨[.ref C], kws⟩)) (.call (.ref f0) ⟨[.ref (hp.objs.size + 1)], kws⟩) (InitBack (hp.objs.size + 1) R) ⟨(hp.push (kdv_tup [])).push (excO C hp.objs.size), gs, dr, tk, os⟩) :
    codeAny (model prog w) A (.call (.ref C) ⟨[], kws⟩) R ⟨hp, gs, dr, tk, os⟩ := by
  have l1 := tc_lookup
  have l2 := tc_bind (.ref C)
  have ty : (⟨hp, gs, dr, tk, os⟩ : Shared).TypeIs (.ref C) "type" := ⟨_, hC, rfl⟩
  refine codeAny_of_tree ?_
  show wpAny _ _ (callAny (.ref C) _) _ _ _
  repeat (any_goals (first | assumption | with_reducible refine wpAny_loadPart_at hC ?_ | wp_step))
  refine ⟨rfl, codeAny_call_builtin_at (Code.quiet_builtin _ (by decide +kernel)) entry_typeCall (wpAny_check_type_call_sub hC (made_by_kw hm hC found bound (codeAny_mono next fun r s' y => ?_)))⟩
  match r, y with
  | .error _, y => exact y
  | .ok .next, y => exact y
  | .ok .brk, y => exact y
  | .ok .cont, y => exact y
  | .ok (.ret _), y => exact y
end
/-! ### the class of an exception that has a dict -/
section
variable {prog : Program} {w : World} {A : Around} {E : Value → Shared → Prop} {s : Shared} {K : Frag} {x D : Addr} {ox : Obj} {od : Option Obj}
theorem asked_class (c : L2.ExcC K D) {Q : Option Value → Shared → Prop} (hK : K.In s.heap) (J : InstAt s.heap x ox D od) (q : Q (some (.ref D)) { s with toks := s.toks + 1 }) : wpAny (model prog w) A (getAttr? (.ref x) "__class__") Q E s := by
  obtain ⟨cd, hcd, _⟩ := any_some c.hd
  have hfind : findObj K D od "__class__" = some (.bind (.builtin "getset_descriptor.__get__") (.builtin "object.__class__")) := by
    unfold findObj
    rw [hcd, Option.bind_some, c.ha, Option.bind_some]
    simp [c.hn, c.ht]
  obtain ⟨hp, gs, dr, tk, os⟩ := s
  have l0 := J.type (M := model prog w)
  have l1 := looks_findIn (M := model prog w) hK c.hg
  have l2 := looks_findIn (M := model prog w) hK c.hk
  have l3 := looks_find (M := model prog w) hK J hfind
  have below : Looks (model prog w) hp (isInstance (.ref x) (.type "BaseException")) true := l0.andThen (looks_subIn hK c.hs)
  have other : (onTheHeap (Value.ref D) && Value.builtin "BaseException.__getattribute__" == Value.builtin "object.__getattribute__") = false := by
    rw [show (Value.builtin "BaseException.__getattribute__" == Value.builtin "object.__getattribute__") = false by decide +kernel]
    rfl
  unfold getAttr? getAttrBy? getAttrBy
  refine wpAny_bind (wpAny_mkText (wpAny_bind (wpAny_attempt (wpAny_holding (wpAny_bind (l0.at (wpAny_bind (l1.at ?_))))))))
  show wpAny _ _ (if (onTheHeap (Value.ref D) && Value.builtin "BaseException.__getattribute__" == Value.builtin "object.__getattribute__") = true then _ else _) _ _ _
  rw [other, if_neg Bool.false_ne_true]
  unfold getAttrByItsOwn hookBefore
  refine wpAny_bind ?_
  rw [if_pos (show onTheHeap (Value.ref D) = true from rfl)]
  refine l2.at (wpAny_bind (wpAny_attempt (wpAny_holding ?_)))
  unfold callGetattribute
  rw [show (false && onTheHeap (Value.builtin "BaseException.__getattribute__")) = false from rfl, if_neg Bool.false_ne_true]
  unfold boundAndCalled
  rw [PySem.F.excAttr_ValueError.ga.bind (.ref x)]
  refine wpAny_bind (wpAny_pure ?_)
  show wpAny _ _ (call (.builtin "BaseException.__getattribute__") [.ref x, .str "__class__" tk]) _ _ _
  refine wpAny_call (codeAny_call_builtin PySem.F.excAttr_ValueError.ga.plain PySem.F.entry_bexc_ga ?_)
  refine @check_slot (model prog w) _ _ ⟨hp, gs, dr, tk + 1, os⟩ "BaseException.__getattribute__" "BaseException" "__getattribute__" (.ref x) [.str "__class__" tk] [] _ (by decide +kernel) (by decide +kernel) below (PySem.F.args_bexc_ga (.ref x) (.str "__class__" tk)) ?_
  unfold Builtin.«object.__getattribute__»
  refine wpAny_bind (wpAny_of_eq (a := ((Value.ref x : Value), [Value.str "__class__" tk])) (by first | rfl | (simp only [slotArgs]; rfl)) (wpAny_bind (wpAny_pure (wpAny_bind (l0.at (wpAny_bind (l3.at ?_)))))))
  show wpAny _ _ (holding [Value.builtin "object.__class__"] (call (.builtin "getset_descriptor.__get__") [.builtin "object.__class__", .ref x, .ref D]) >>= ret) _ _ _
  refine wpAny_bind (wpAny_holding (wpAny_call (class_get (s := ⟨hp, gs, dr, tk + 1, os⟩) (ox := ox) (od := od) hK J c.hm (wpAny_pure ?_))))
  show wpAny _ _ (handedOut (.ref D)) _ _ _
  rw [handedOut_of (v := .ref D) rfl]
  first
    | exact wpAny_pure (wpAny_pure q)
    | exact wpAny_pure q
    | exact wpAny_pure (wpAny_bind (wpAny_pure (wpAny_pure q)))
theorem cls_obj {cd : ClassData} (h : clsIn K D = some cd) : ∃ c d sl, K.lookup D = some ⟨c, d, .cls cd, sl⟩ := by
  unfold clsIn at h
  split at h
  · rename_i e
    cases h
    exact ⟨_, _, _, e⟩
  · cases h
theorem kit_exc (c : L2.ExcC K D) : KitX K (.ref x) (.ref D) (fun h => InstAt h x ox D od) where
  ty := fun _ _ _ J => J.type
  it := fun _ _ hK _ => by
    obtain ⟨cd, hcd, _⟩ := any_some c.hd
    obtain ⟨_, _, _, e⟩ := cls_obj hcd
    intro A' Q' E' s' k q
    unfold isType loadHead
    exact wpAny_bind (wpAny_loadPart (k _ _ (hK _ _ e)) (wpAny_pure q))
  ne := fun h tp dd its n sl hK htp => by
    obtain ⟨cd, hcd, _⟩ := any_some c.hd
    obtain ⟨_, _, _, e⟩ := cls_obj hcd
    refine Bool.eq_false_iff.mpr fun q => ?_
    have same : D = tp := Value.ref.inj (beq_iff_eq.mp q)
    have two := (hK _ _ e).symm.trans (same ▸ htp)
    cases two
  ca := fun hK J q => asked_class c hK J q
end
end PlayL
set_option Elab.async false
set_option linter.all false
set_option maxRecDepth 100000
set_option maxHeartbeats 4000000
namespace L2
namespace Pl
open PySem PySem.Spec PyProof.Rows
/-! ### heaps in which one exception more stands: at a, its dict at d, its one attribute f -/
def exH (H : Hp) (a d C : Addr) (f : Str) (v : V) : Hp := upd (upd H d (exd d [(f, v)])) a (exo a C (some d))
section
variable {H : Hp} {a d C : Addr} {f : Str} {v : V}
theorem exH_at : exH H a d C f v a = some (exo a C (some d)) := upd_same
theorem exH_dict (h : d ≠ a) : exH H a d C f v d = some (exd d [(f, v)]) := (upd_ne h).trans upd_same
theorem exH_else {b : Addr} (h1 : b ≠ a) (h2 : b ≠ d) : exH H a d C f v b = H b := (upd_ne h1).trans (upd_ne h2)
theorem exH_same (h1 : H a = none) (h2 : H d = none) : Same H (exH H a d C f v) := fun b o e => (exH_else (ne_of_none e h1) (ne_of_none e h2)).trans e
theorem exH_over {o : HO} (h : d ≠ a) : upd (upd (upd H a o) d (exd d [(f, v)])) a (exo a C (some d)) = exH H a d C f v := funext fun b => by
  by_cases hb : b = a
  · rw [hb, upd_same, exH_at]
  · by_cases hd : b = d
    · rw [hd, upd_ne h, upd_same, exH_dict h]
    · rw [exH_else hb hd, upd_ne hb, upd_ne hd, upd_ne hb]
end
/-- self.f = f and no more -/
def spIni (C : Addr) (f : Str) : Sp := fun vs H Q _ => ∃ (a : Addr) (v : V), vs = [.ref a, v] ∧ H a = some (exo a C none) ∧ ∀ d, H d = none → d ≠ a → Q .non (exH H a d C f v)
/-- an own exception class x at C, its __init__ at fI stores its one argument in f -/
structure ExV (P : Program) (w : World) (K : PySem.W.Frag) (mg : Str → Option Value) (base : Heap) (x f : Str) (C fI : Addr) : Prop where
  gC : mg x = some (.ref C)
  o : OexC K C
  e : ExcC K C
  nf : PySem.W.findIn K (.ref C) f = some none
  iC : PySem.W.findIn K (.ref C) "__init__" = some (some (.ref fI))
  tI : PySem.W.typeIn K (.ref fI) = some (.type "function")
  ini : ∃ fd, FnOk P w K mg base CX0 1 fI fd ["self", f] (spIni C f) ∧ Binds K fd ["self", f] [] ∧ KBn K fd ["self", f] 1 [f] (fun us ws => us ++ ws) (fun vs zs => vs ++ zs)
/-- a new exception of the one argument -/
def tEx (C : Addr) (f : Str) (t : TA) : TE := fun σ H Q => t σ H fun vs H1 => ∃ v, vs = [v] ∧ ∀ a d, H1 a = none → H1 d = none → d ≠ a → Q (.ref a) (exH H1 a d C f v)
section
variable {X : Cx} {x f : Str} {C fI : Addr} {p pos kpos : Pos} {e : Expr} {t : TA} {te : TE} {pins : List (Addr × Obj)} {σ : St} {H : Hp} {s : Shared} {Q : VK} {v : V} {u : Value}
theorem ex_made (T : ExV X.prog X.w X.K X.mg X.base x f C fI) (hr : Room 2 X.A) (I : Inv X pins σ H s) (r : RelV v u) (us : List Value) (kw : List (Str × Value)) (hus : us.length ≤ sizeLine) (one : us = [u] ∧ kw = [] ∨ us = [] ∧ kw = [(f, u)])
    (h : ∀ a d, H a = none → H d = none → d ≠ a → Q (.ref a) (exH H a d C f v)) : wpAny (model X.prog X.w) X.A (call (.ref C) us kw) (EP X pins σ Q) X.xe s := by
  obtain ⟨cn, cq, cN, cb, cm, slotn, subs, abst, coll, cdoc, z0, z1, z2, z3, z5, hC, hm⟩ := T.o.cls
  obtain ⟨fd, ok1, bnd, kbnd⟩ := T.ini
  obtain ⟨hp, gs, dr, tk, os⟩ := s
  let e0 : Addr := hp.objs.size + 1
  have big : hp.objs.size ≤ e0 := Nat.le_succ _
  have he0 : H e0 = none := I.hok.fresh big
  let h2 : Heap := (hp.push (PySem.W.kdv_tup us)).push (PySem.HandSPX.excO C hp.objs.size)
  have laid : ∀ b o, hp.get? b = some o → h2.get? b = some o := fun b o q => Heap.get?_push_of_some _ (Heap.get?_push_of_some _ q)
  have at0 : h2.get? e0 = some (PySem.HandSPX.excO C hp.objs.size) := by
    show ((hp.push (PySem.W.kdv_tup us)).push (PySem.HandSPX.excO C hp.objs.size)).get? (hp.objs.size + 1) = _
    heap_get
  have J : Inv X pins σ (upd H e0 (exo e0 C none)) ⟨h2, gs, dr, tk, os⟩ := I.laid (t' := tk) laid big (exo_ok at0)
  have asks : spIni C f [V.ref e0, v] (upd H e0 (exo e0 C none)) (fun y H2 => y = .non ∧ Q (.ref e0) H2) (fun _ _ _ => False) :=
    ⟨_, _, rfl, upd_same, fun d hd hne => ⟨rfl, by
      have q := h e0 d he0 ((upd_ne hne).symm.trans hd) hne
      rw [← exH_over (o := exo e0 C none) hne] at q
      exact q⟩⟩
  have bt : ∀ s' : Shared, X.K.In s'.heap → BindsTo s' fd ⟨Value.ref e0 :: us, kw⟩ ((["self", f] : List Str).zip [Value.ref e0, u]) := fun s' hK => by
    rcases one with ⟨rfl, rfl⟩ | ⟨rfl, rfl⟩
    · exact bnd s' [.ref e0, u] hK rfl
    · exact kbnd.to s' [.ref e0] [u] hK rfl rfl
  have run := ok1.run (X.A.under (.builtin "type.__call__" ⟨.ref C :: us, kw⟩)) X.stack _ _ ⟨Value.ref e0 :: us, kw⟩ [Value.ref e0, u] _ _ (fun _ _ _ => False) (hr.make C us kw) (J.env0.make C us kw) (bt _ J.kIn) (show Vals [V.ref e0, v] [Value.ref e0, u] from .cons rfl (.cons r .nil)) asks
  have back := codeAny_mono (R' := PySem.W.InitBack e0 fun r s' => match r with | .ok (.ret y) => EP X pins σ Q y s' | .ok _ => False | .error er => X.xe er s') run fun r s' y => by
    match r, y with
    | .error _, y => exact y.elim
    | .ok .next, y => exact y.elim
    | .ok .brk, y => exact y.elim
    | .ok .cont, y => exact y.elim
    | .ok (.ret _), y =>
      obtain ⟨_, H3, I3, rv, rfl, q⟩ := J.after y
      exact ⟨rv, V.ref e0, H3, I3, rfl, q⟩
  have f1 := PySem.W.looks_findIn (M := model X.prog X.w) I.kIn T.iC
  have f2 : ∀ me, PySem.W.Looks (model X.prog X.w) hp (bindSpecial (.ref fI) me) (.ref fI, [me]) := fun me => PySem.W.bind_fn I.kIn me T.tI
  rcases one with ⟨rfl, rfl⟩ | ⟨rfl, rfl⟩
  · exact wpAny_call (PySem.HandSPX.call_own F.excBase_ValueError (fun Y => PySem.HandSPX.refsVE_contains Y cm hm) (I.kIn _ _ hC) f1 f2 hus back)
  · exact wpAny_call (PlayL.called_by_kw hm (I.kIn _ _ hC) f1 f2 back)
theorem pe_ex (T : ExV X.prog X.w X.K X.mg X.base x f C fI) (hr : Room 2 X.A) (hg : Gl X x) (ha : PA X [e] t)
    (hdb : (x == ("__debug__" : Str)) = false := by decide) (he : starEach [e] X.env = (false, eval e X.env) :: starEach [] X.env := by rfl) (hpl : (backTo pos (starEach [] X.env)).any (·.1) = false := by rfl) :
    PE X (.Call (.Name x p) [e] [] pos) (tEx C f t) := by
  refine ⟨fun pins s σ H Q I h => wpAny_Call_Name_kw (ld_glob I hg T.gC ?_ hdb)⟩
  refine PySem.W.callWith_K (h₀ := X.base) I.ok.mod.kin T.o.kC (thn (ha.run pos pins s σ H _ I h) fun us s1 ⟨vs, H1, I1, r, v, ev, q⟩ => ⟨I1.kIn, ?_⟩) he hpl
  subst ev
  obtain ⟨u, rfl, ru⟩ := vals1 r
  exact ex_made T hr I1 ru [u] [] (by show 1 ≤ sizeLine; rw [sizeLine_eq]; omega) (.inl ⟨rfl, rfl⟩) q
/-- C(f = e) -/
theorem pe_exK (T : ExV X.prog X.w X.K X.mg X.base x f C fI) (hr : Room 2 X.A) (hg : Gl X x) (he : PE X e te)
    (hdb : (x == ("__debug__" : Str)) = false := by decide) (hall : (backToKw pos (keywordEach [⟨some f, e, kpos⟩] X.env)).all (·.1.isSome) = true := by rfl) (hks : (backToKw pos (keywordEach [⟨some f, e, kpos⟩] X.env)).filterMap (·.1) = [f] := by rfl)
    (hpl : ((backTo pos (starEach [] X.env)).any (·.1) || (backToKw pos (keywordEach [⟨some f, e, kpos⟩] X.env)).any (·.1.isNone)) = false := by rfl) :
    PE X (.Call (.Name x p) [] [⟨some f, e, kpos⟩] pos) (tEx C f (tCons te tNil)) := by
  refine ⟨fun pins s σ H Q I h => wpAny_Call_Name_kw (ld_glob I hg T.gC ?_ hdb)⟩
  refine PySem.W.callWith_KW0 (h₀ := X.base) I.ok.mod.kin T.o.kC hall (thn ((pk_cons he pk_nil).run pos pins s σ H _ I h) fun ws s1 ⟨zs, H1, I1, r, v, ev, q⟩ => ⟨I1.kIn, ?_⟩) hpl
  rw [hks]
  subst ev
  obtain ⟨u, rfl, ru⟩ := vals1 r
  exact ex_made T hr I1 ru [] [(f, u)] (Nat.zero_le _) (.inr ⟨rfl, rfl⟩) q
end
/-! ### reading it, asking its class -/
/-- e.f, e an exception of the class at C that is tracked -/
def tXv (K : PySem.W.Frag) (f : Str) (te : TE) : TE := fun σ H Q => te σ H fun x H1 => ∃ (a C d : Addr) (fs : List (Str × V)) (v : V), x = .ref a ∧ H1 a = some (exo a C (some d)) ∧ H1 d = some (exd d fs) ∧ ExcC K C ∧ PySem.W.findIn K (.ref C) f = some none ∧ fs.lookup f = some v ∧ Q v H1
section
variable {X : Cx} {e : Expr} {te : TE} {f : Str} {pos : Pos}
theorem inst_at {pins : List (Addr × Obj)} {σ : St} {H : Hp} {s : Shared} {a C d : Addr} {fs : List (Str × V)} (I : Inv X pins σ H s) (ea : H a = some (exo a C (some d))) (ed : H d = some (exd d fs)) :
    ∃ (ox od : Obj), PySem.W.InstAt s.heap a ox C (some od) ∧ ∃ mA : Str → Option Value, (∀ f : Str, RelO (fs.lookup f) (mA f)) ∧ ∀ f : Str, PySem.W.lookIn f od = some (mA f) := by
  obtain ⟨t1, ho⟩ := exo_at I.hok ea
  obtain ⟨mA, hns, hrel⟩ := exd_at I.hok ed
  obtain ⟨od, hod, hl⟩ := lookIn_ns hns
  exact ⟨_, od, ⟨ho, rfl, rfl, hod⟩, mA, hrel, hl⟩
theorem pe_xv (he : PE X e te) (hb : attributeBase e f X.env (eval e X.env) = eval e X.env := by rfl) : PE X (.Attribute e f pos) (tXv X.K f te) := by
  refine ⟨fun pins s σ H Q I h => attr_of hb (thn (he.run pins s σ H _ I h) fun u s1 ⟨x, H1, I1, rx, a, C, d, fs, v, ex, ea, ed, c, no, l, q⟩ => ?_)⟩
  subst ex
  obtain rfl : u = Value.ref a := rx
  obtain ⟨ox, od, J, mA, hrel, hl⟩ := inst_at I1 ea ed
  obtain ⟨y, hy, ry⟩ := RelO.some_of (v := v) (o := mA f) (by rw [← l]; exact hrel f)
  exact PySem.HandSPX.exc_get I1.kIn J c.hg c.hk c.hs (PySem.W.findObj_own c.hd no rfl (by rw [hl, hy])) (handed_of ry) ⟨v, H1, I1.tok _, ry, q⟩
/-- isinstance(e, c) -/
def rIsV (K : PySem.W.Frag) : List V → Hp → VK → Prop := fun xs H Q => ∃ (a C d : Addr) (fs : List (Str × V)) (c : V) (cv : Value) (b : Bool), xs = [.ref a, c] ∧ H a = some (exo a C (some d)) ∧ H d = some (exd d fs) ∧ ExcC K C ∧ ClsV c cv ∧ PySem.W.kitOne K (.ref C) cv = some b ∧ Q (.bl b) H
theorem call_isV : CallR X (.builtin "isinstance") (rIsV X.K) := by
  intro pins s σ H xs us Q I r h
  obtain ⟨a, C, d, fs, c, cv, b, rfl, ea, ed, cc, kc, kit, q⟩ := h
  obtain ⟨u1, u2, rfl, r1, r2⟩ := vals2 r
  obtain rfl : u1 = Value.ref a := r1
  have e2 := kc.eq r2
  subst e2
  obtain ⟨ox, od, J, _⟩ := inst_at I ea ed
  exact PySem.W.kia_one (PlayL.kit_exc cc) I.kIn J kit (fun z => nomatch z) fun tk => ⟨.bl b, H, I.tok tk, rfl, q⟩
end
end Pl
end L2
set_option Elab.async false
set_option linter.all false
set_option maxRecDepth 100000
set_option maxHeartbeats 4000000
namespace L2
namespace Pl
open PySem PySem.Spec PyProof.Rows
/-! ### data: none, bools, ints, texts, lists, tuples, dicts with int and text keys -/
def keyD : Key → PyData
  | .inl i => .int i
  | .inr x => .str x
mutual
inductive Dq (K : PySem.W.Frag) (H : Hp) : V → PyData → Prop
  | non : Dq K H .non .none
  | bl (b : Bool) : Dq K H (.bl b) (.bool b)
  | int (i : Int) : Dq K H (.int i) (.int i)
  | str (x : Str) : Dq K H (.str x) (.str x)
  | lst {a : Addr} {xs : List V} {ds : List PyData} : H a = some (.lst xs) → DqAll K H xs ds → Dq K H (.ref a) (.list ds)
  | tup {a : Addr} {xs : List V} {ds : List PyData} : H a = some (.tup xs) → DqAll K H xs ds → Dq K H (.ref a) (.tuple ds)
  | dic {a : Addr} {kvs : List (Key × V)} {es : List (PyData × PyData)} : H a = some (.dK kvs) → DqKv K H kvs es → Dq K H (.ref a) (.dict es)
inductive DqAll (K : PySem.W.Frag) (H : Hp) : List V → List PyData → Prop
  | nil : DqAll K H [] []
  | cons {v : V} {vs : List V} {d : PyData} {ds : List PyData} : Dq K H v d → DqAll K H vs ds → DqAll K H (v :: vs) (d :: ds)
inductive DqKv (K : PySem.W.Frag) (H : Hp) : List (Key × V) → List (PyData × PyData) → Prop
  | nil : DqKv K H [] []
  | cons {k : Key} {v : V} {r : List (Key × V)} {d : PyData} {es : List (PyData × PyData)} : Dq K H v d → DqKv K H r es → DqKv K H ((k, v) :: r) ((keyD k, d) :: es)
end
/-- sys.modules stands in the written part -/
def SysK (K : PySem.W.Frag) : Prop := ∃ o, K.lookup sysModules = some o ∧ o.cls = .type "dict"
section
variable {X : Cx} {pins : List (Addr × Obj)} {σ : St} {H : Hp} {s : Shared}
theorem not_sys (hK : SysK X.K) (I : Inv X pins σ H s) {a : Addr} {o : Obj} (h : s.heap.get? a = some o) (hc : o.cls ≠ .type "dict") : sysModules ≠ a := fun e => by
  obtain ⟨u, hu, hd⟩ := hK
  have q := I.kIn _ _ hu
  rw [e, h] at q
  exact hc (by rw [Option.some.inj q, hd])
theorem pairs_of : ∀ {kvs : List (Key × V)} {vs : List (Key × Value)} {es : List (PyData × PyData)}, KV kvs vs → (∀ (i : Nat) (v : V) (d : PyData) (u : Value), (kvs[i]?.map (·.2)) = some v → (es[i]?.map (·.2)) = some d → RelV v u → ∃ as, Reads s.heap u d as ∧ sysModules ∉ as) →
    es.map (·.1) = kvs.map (fun p => keyD p.1) → ∃ bs, PyProof.V.PairsRead s.heap keyD vs es bs ∧ sysModules ∉ bs
  | [], _, [], .nil, _, _ => ⟨[], .nil, fun h => nomatch h⟩
  | _ :: _, _, [], _, _, e => by cases e
  | [], _, _ :: _, _, _, e => by cases e
  | (k, v) :: r, (k', u) :: us, (kd, d) :: es, .cons h1 h2, hr, e => by
    obtain ⟨e1, e2⟩ := List.cons.inj (show kd :: es.map (·.1) = keyD k :: r.map (fun p => keyD p.1) from e)
    obtain ⟨k1, k2⟩ := h1
    obtain ⟨bs, p, nb⟩ := pairs_of h2 (fun i v d u q1 q2 => hr (i + 1) v d u (by simpa using q1) (by simpa using q2)) e2
    obtain ⟨as, q, na⟩ := hr 0 v d u rfl rfl k2
    have k3 : k = k' := k1
    subst k3 e1
    exact ⟨_, .cons q p, fun h => (List.mem_append.mp h).elim na nb⟩
mutual
theorem Dq.reads (hK : SysK X.K) (I : Inv X pins σ H s) : ∀ (d : PyData) (v : V) (u : Value), Dq X.K H v d → RelV v u → ∃ as, Reads s.heap u d as ∧ sysModules ∉ as
  | .none, _, _, h, r => by
    cases h
    cases r
    exact ⟨_, Reads.none, fun h => nomatch h⟩
  | .bool b, _, _, h, r => by
    cases h
    cases r
    exact ⟨_, Reads.bool b, fun h => nomatch h⟩
  | .int i, _, _, h, r => by
    cases h
    obtain ⟨t, rfl⟩ := r
    exact ⟨_, Reads.int i t, fun h => nomatch h⟩
  | .str x, _, _, h, r => by
    cases h
    obtain ⟨t, rfl⟩ := r
    exact ⟨_, Reads.str x t, fun h => nomatch h⟩
  | .list ds, _, _, h, r => by
    cases h with
    | lst ha hx =>
      cases r
      obtain ⟨its, rv, ⟨o, n, ho, hc, _, hd⟩, _⟩ := I.list (.inl (.inl ha))
      obtain ⟨as, q, na⟩ := Dq.readsAll hK I ds _ its hx rv
      refine ⟨_, Reads.list ho hc hd q, fun h => ?_⟩
      rcases List.mem_cons.mp h with e | h
      · exact not_sys hK I ho (by rw [hc]; decide +kernel) e
      · exact na h
  | .tuple ds, _, _, h, r => by
    cases h with
    | tup ha hx =>
      cases r
      obtain ⟨its, rv, ⟨o, ho, hc, n, hd⟩, _⟩ := I.tuple (.inl (.inl ha))
      obtain ⟨as, q, na⟩ := Dq.readsAll hK I ds _ its hx rv
      exact ⟨_, Reads.tuple ho hc hd q, na⟩
  | .dict es, _, _, h, r => by
    cases h with
    | dic ha hx =>
      cases r
      rename_i a kvs
      obtain ⟨_, hS, vs, rel, hD⟩ := (show ObjOk X.prog X.w H s.heap a (.dK kvs) from I.hok a _ ha)
      obtain ⟨bs, p, nb⟩ := pairs_of (s := s) (es := es) rel (Dq.readsKv hK I es kvs hx).1 (Dq.readsKv hK I es kvs hx).2
      refine ⟨_, PyProof.V.reads_dictOf (fun k key hk => ?_) hD p, fun h => ?_⟩
      · rcases keyIs_shape (show keyIs k key = true from hk) with ⟨i, t, rfl, rfl⟩ | ⟨x, t, rfl, rfl⟩
        · exact Reads.int i t
        · exact Reads.str x t
      · rcases List.mem_cons.mp h with e | h
        · rw [← e] at hS
          exact absurd hS (by decide)
        · exact nb h
theorem Dq.readsAll (hK : SysK X.K) (I : Inv X pins σ H s) : ∀ (ds : List PyData) (vs : List V) (us : List Value), DqAll X.K H vs ds → Vals vs us → ∃ as, ReadsAll s.heap us ds as ∧ sysModules ∉ as
  | [], _, _, h, r => by
    cases h
    cases r
    exact ⟨_, ReadsAll.nil, fun h => nomatch h⟩
  | d :: ds, _, _, h, r => by
    cases h with
    | cons h1 h2 =>
      cases r with
      | cons r1 r2 =>
        obtain ⟨as, q1, n1⟩ := Dq.reads hK I d _ _ h1 r1
        obtain ⟨bs, q2, n2⟩ := Dq.readsAll hK I ds _ _ h2 r2
        exact ⟨_, ReadsAll.cons q1 q2, fun h => (List.mem_append.mp h).elim n1 n2⟩
theorem Dq.readsKv (hK : SysK X.K) (I : Inv X pins σ H s) : ∀ (es : List (PyData × PyData)) (kvs : List (Key × V)), DqKv X.K H kvs es → (∀ (i : Nat) (v : V) (d : PyData) (u : Value), (kvs[i]?.map (·.2)) = some v → (es[i]?.map (·.2)) = some d → RelV v u → ∃ as, Reads s.heap u d as ∧ sysModules ∉ as) ∧ es.map (·.1) = kvs.map (fun p => keyD p.1)
  | [], _, h => by
    cases h
    exact ⟨fun i v d u q1 _ _ => by simp at q1, rfl⟩
  | (kd, d) :: es, _, h => by
    cases h with
    | cons h1 h2 =>
      obtain ⟨q, e⟩ := Dq.readsKv hK I es _ h2
      refine ⟨fun i v d' u q1 q2 r => ?_, by rw [List.map_cons, List.map_cons, e]⟩
      cases i with
      | zero =>
        cases q1
        cases q2
        exact Dq.reads hK I d _ _ h1 r
      | succ i => exact q i v d' u (by simpa using q1) (by simpa using q2) r
end
end
/-- what a repr is told of -/
structure Shows (K : PySem.W.Frag) (H : Hp) (v : V) (d : PyData) : Prop where
  dat : Dq K H v d
  can : d.showable = true
  dep : d.depth ≤ 100
  len : d.shown.length ≤ sizeLine
/-- repr(x), x a list, a tuple or a dict of data -/
def rRepr (K : PySem.W.Frag) : List V → Hp → VK → Prop := fun xs H Q => ∃ (a : Addr) (d : PyData), xs = [.ref a] ∧ Shows K H (.ref a) d ∧ Q (.str d.shown) H
theorem call_reprD {X : Cx} {k : Nat} (hK : SysK X.K) (hg : X.A.guards = some []) (hr : Room k X.A) : CallR X (.builtin "repr") (rRepr X.K) := by
  intro pins s σ H xs us Q I r h
  obtain ⟨a, d, rfl, S, q⟩ := h
  obtain ⟨u, rfl, ru⟩ := vals1 r
  obtain rfl : u = Value.ref a := ru
  obtain ⟨as, rd, ns⟩ := Dq.reads hK I d _ _ S.dat rfl
  have z := hr.un
  have z2 := S.dep
  exact repr_of_reads' rd S.can (fun _ => ns) hg (by omega) (fun _ _ e => e) (fun h' t tk k => ⟨.str d.shown, H, I.kept (t' := tk) k, ⟨t, rfl⟩, q⟩) S.len
/-! ### powers of great ints -/
def CPowW (i j : Int) : Prop := 0 ≤ j ∧ (Builtin.Int.intBits i : Int) * j ≤ 2 ^ 27
theorem op_powW {X : Cx} : OpR X (binaryOp .Pow) (rI CPowW fun i j => .int (i ^ j.toNat)) := opI fun _ _ _ _ _ _ _ hc q => pow_int hc.1 hc.2 q
/-! ### defs that are called where no repr runs -/
structure FnG (P : Program) (w : World) (K : PySem.W.Frag) (mg : Str → Option Value) (base : Heap) (CX : CXT) (k : Nat) (f : Addr) (fd : FuncData) (ps : List Str) (sp : Sp) : Prop where
  len : ∀ vs H Q E, sp vs H Q E → vs.length = ps.length
  run : ∀ (A : Around), A.guards = some [] → ∀ (outer : List Env) (s : Shared) (H : Hp) (args : Args) (us : List Value) (vs : List V) (Q : VK) (E : XK), Room k A → Env0 P w K mg base A outer s H → BindsTo s fd args (ps.zip us) → Vals vs us → sp vs H Q E →
    codeAny (model P w) A (.call (.ref f) args) (CR CX outer P w H s Q E) s
section
variable {CX : CXT} {P : Program} {w : World} {K : PySem.W.Frag} {mg : Str → Option Value} {base : Heap} {k : Nat} {f : Addr}
theorem fnG_of {name qual : Str} {params : Arguments} {body : List Stmt} {scope : Scope} {dvs : List V} {kws : List (Str × V)} {fd : FuncData} {N ps : List Str} {sp : Sp} (F : FunD K name qual params body scope dvs kws f fd) (S : FnScope N ps scope)
    (len : ∀ vs H Q E, sp vs H Q E → vs.length = ps.length)
    (does : ∀ (cdv : Value) (A : Around), A.guards = some [] → ∀ (outer : List Env) (s : Shared) (H : Hp) (vs : List V) (Q : VK) (E : XK), Room k (A.deeper (envOfC qual scope s.heap.objs.size f cdv)) → sp vs H Q E →
      ∃ t, PSs (cxOf CX P w K mg base N qual scope f cdv A outer s H E) body t ∧ t { nx := fun _ H' => Q .non H', rt := Q } (start N vs) H) : FnG P w K mg base CX (k + 1) f fd ps sp := by
  obtain ⟨oc, od, dV, kV, doc, pm, an, cdv, ct, osl, rfl, lk, hcd, _, _⟩ := F.ex
  refine ⟨len, fun A hg outer s H args us vs Q E hr e0 hb r hsp => ?_⟩
  have old : ∀ b o, base.get? b = some o → s.heap.get? b = some o := fun b o e => (e0.bs b o e).1
  have hK : K.In s.heap := e0.mod.kin.keeps old
  refine codeAny_call_function hr.depth (hK _ _ lk) rfl S.co S.gen rfl (PySem.W.codeRec_of hK hcd) (hb _ _ _ _ (wpAny_newFunctionEnv_cells S.kind (fun y hy => ?_) fun env he s1 x => ?_))
  · rcases S.par y.1 (List.of_mem_zip (b := y.2) hy).1 with q | q
    · exact .inl q
    · exact .inr ⟨q, PySem.W.cellsFrom_some _ _ _ (.inl q)⟩
  · subst he
    obtain ⟨t, ht, hq⟩ := does cdv A hg outer s H vs Q E (hr.deeper _) hsp
    refine ⟨(e0.mod.nolimit.keeps old).keeps x.toInCall.keep, codeAny_func (wpAny_mono (ht.run [] s1 (start N vs) H _ (inv_start S hr.hd e0 (len _ _ _ _ hsp) r x) hq) (fun fl s' hs => ?_) fun _ _ hs => hs)⟩
    match fl, hs with
    | .ret u, ⟨v, _, H', J, rv, q⟩ => exact ⟨v, H', J.os, J.bare, J.base, J.hok, rv, q⟩
    | .next, ⟨_, H', J, q⟩ => exact ⟨.non, H', J.os, J.bare, J.base, J.hok, rfl, q⟩
    | .brk, ⟨_, _, _, q⟩ => exact q.elim
    | .cont, ⟨_, _, _, q⟩ => exact q.elim
end
end Pl
end L2
set_option Elab.async false
set_option linter.all false
set_option maxRecDepth 100000
set_option maxHeartbeats 4000000
namespace L2
namespace Pl
open PySem PySem.Spec PyProof.Rows
/-! ### the end of a law whose def may show things -/
section
variable {P : Program} {w : World} {K : PySem.W.Frag} {mg mb : Str → Option Value} {CX : CXT} {k : Nat} {fa a : Addr} {fd : FuncData} {x : Str} {sp : Sp} {s₁ : Shared} {vs : List Value} {ns : List Int}
abbrev scrO (vs : List Value) : Obj := { cls := .type "list", data := .seq vs.toArray }
/-- what is tracked at the law's entry: the script, if it is not of the written part -/
def entryH (K : PySem.W.Frag) (a : Addr) (vs : List Value) (ns : List Int) : Hp := fun b => if b = a ∧ K.lookup a = none then some (.frz (scrO vs) (.lst (ns.map V.int))) else none
theorem entryH_some {b : Addr} {u : HO} (h : entryH K a vs ns b = some u) : b = a ∧ K.lookup a = none ∧ u = .frz (scrO vs) (.lst (ns.map V.int)) := by
  unfold entryH at h
  split at h
  · rename_i e
    exact ⟨e.1, e.2, (Option.some.inj h).symm⟩
  · cases h
theorem law_runs (hK : K.In s₁.heap) (hns : s₁.heap.Ns mainGlobals mg) (hb : s₁.heap.Ns builtinsNs mb) (hbb : ∀ x : Str, x ≠ "__name__" → mb x = bootBuiltins x) (hlim : s₁.heap.NoLimit) (hg : s₁.gens = #[])
    (ha : s₁.heap.get? a = some (scrO vs)) (hi : IntsAre vs ns) (hl : ns.length ≤ sizeLine) (hr : Room k callerA)
    (F : ∀ base : Heap, K.In base → base.Ns mainGlobals mg → FnG P w K mg base CX k fa fd [x] sp) (hbind : ∀ (s : Shared) (u : Value), BindsTo s fd ⟨[u], []⟩ [(x, u)])
    (hsp : ∀ H : Hp, Only H → SqL K H a (ns.map V.int) → sp [.ref a] H (fun v _ => v = .bl true) fun _ _ _ => False)
    (hCX : ∀ H e s', CX [] H s₁ (fun _ _ _ => False) e s' → False) :
    codeAny (model P w) callerA (.call (.ref fa) ⟨[.ref a], []⟩) (fun r s' => r = .ok (.ret (.bool true)) ∧ OldK s₁.heap s'.heap ∧ s'.os = s₁.os ∧ AllBare s'.gens) s₁ := by
  let H : Hp := entryH K a vs ns
  have rel := vals_ints hi
  have short : (ns.map V.int).length ≤ sizeLine := by rw [List.length_map]; exact hl
  have only : Only H := fun b => by
    cases q : H b with
    | none => exact .inl rfl
    | some u => exact .inr ⟨_, _, by rw [(entryH_some q).2.2]⟩
  have held : HOk P w H s₁.heap := fun b u q => by
    obtain ⟨rfl, _, rfl⟩ := entryH_some q
    exact ⟨ha, short, vs, _, rel, ha⟩
  have script : SqL K H a (ns.map V.int) := by
    cases q : K.lookup a with
    | none => exact .inl (.inr ⟨scrO vs, if_pos ⟨rfl, q⟩⟩)
    | some o =>
      have e := (hK a o q).symm.trans ha
      have e2 : o = scrO vs := Option.some.inj e
      subst e2
      refine .inr ⟨_, vs.toArray, _, q, rfl, rfl, rfl, ?_, by simpa using rel⟩
      rw [List.size_toArray, hi.length]
      exact hl
  have stays : ∀ {b : Addr} {o : Obj}, s₁.heap.get? b = some o → (b = a → K.lookup a ≠ none) → (hidT s₁.heap H).get? b = some o := fun {b o} e n => hidT_get e (by
    cases q : H b with
    | none => rfl
    | some u =>
      obtain ⟨e1, e2, _⟩ := entryH_some q
      exact absurd e2 (n e1))
  have ofNs : ∀ {b : Addr} {m : Str → Option Value}, s₁.heap.Ns b m → (hidT s₁.heap H).Ns b m := fun {b m} ⟨o, es, ep, e, dd, rr⟩ => ⟨o, es, ep, stays e (fun z => by
    rw [z, ha] at e
    have e2 := Option.some.inj e
    rw [← e2] at dd
    cases dd), dd, rr⟩
  have ofK : K.In (hidT s₁.heap H) := fun b o e => stays (hK b o e) fun z q => by
    rw [z, q] at e
    cases e
  have modu : Mod K mg (hidT s₁.heap H) := ⟨ofK, ofNs hns, ⟨mb, ofNs hb, hbb⟩, hlim.elim fun c hc => ⟨c, ofNs hc.1, hc.2⟩⟩
  have env : Env0 P w K mg (hidT s₁.heap H) callerA [] s₁ H := ⟨rfl, modu, fun b o e => of_hidT e, Nat.le_of_eq (hidT_size _ _), trivial, (fun b hb => by cases hb), held, .of_eq hg⟩
  refine codeAny_mono ((F _ ofK (ofNs hns)).run callerA rfl [] s₁ H ⟨[.ref a], []⟩ [.ref a] [.ref a] _ _ hr env (hbind s₁ (.ref a)) (.cons rfl .nil) (hsp H only script)) fun r s' y => ?_
  match r, y with
  | .error e, y => exact (hCX H e s' y).elim
  | .ok .next, y => exact y.elim
  | .ok .brk, y => exact y.elim
  | .ok .cont, y => exact y.elim
  | .ok (.ret u), ⟨v, H', os, bare, un, held', ru, q⟩ =>
    subst q
    obtain rfl : u = Value.bool true := ru
    refine ⟨rfl, OldK.of_keep fun b o e => ?_, os, bare⟩
    cases q : H b with
    | none => exact un.keep b o e q (fun z => by cases z) (fun z => by cases z)
    | some t =>
      obtain ⟨rfl, _, rfl⟩ := entryH_some q
      have there := un.frzs b _ _ q
      have now := held' b _ there
      rw [ha] at e
      rw [← Option.some.inj e]
      exact now.1
end
/-- a law: F gives the written part, the function object, the promise; the script's bits are told, and that no repr runs around -/
theorem walk_G {l : PySem.W.OpenLaw} {n k : Nat} {q : Program} {loose : List Str} {XP : (Str → Option Value) → Heap → Prop} {YP : World → Heap → Prop} {d : DefRec} {CX : World → CXT} {x : Str}
    (hn : l.most = some n) (hn2 : n ≤ sizeLine) (hdf : d.params.defaults = []) (hr : Room k callerA)
    (F : ∀ (w : World) (mg : Str → Option Value) (fa : Addr) (h : Heap), YP w h → h.Ns mainGlobals mg → mg d.name = some (.ref fa) →
      ∃ (K : PySem.W.Frag) (fd : FuncData) (sp : Sp), K.In h ∧ (∀ (s : Shared) (u : Value), BindsTo s fd ⟨[u], []⟩ [(x, u)]) ∧
        (∀ (H : Hp) (a : Addr) (ns : List Int), ns.length ≤ n → (∀ z ∈ ns, Builtin.Int.intBits z ≤ 1048576) → Only H → SqL K H a (ns.map V.int) → sp [.ref a] H (fun v _ => v = .bl true) fun _ _ _ => False) ∧
        ∀ base : Heap, K.In base → base.Ns mainGlobals mg → FnG l.prog w K mg base (CX w) k fa fd [x] sp)
    (hCX : ∀ (w : World) (H : Hp) (s : Shared) (e : Value) (s' : Shared), CX w [] H s (fun _ _ _ => False) e s' → False) :
    PySem.W.WalkO q loose XP YP l.row.toRowW d [] (fun f vs => PySem.call f vs) :=
  Att.attach_callB hn hdf fun w s₀ s₁ mg mb fa o pm cd doc a vs ns G Y ho hd hcd hmg hobj hints hlen hbits hg => by
    obtain ⟨K, fd, sp, hK, hb, hsp, hF⟩ := F w mg fa _ Y G.T.g hmg
    exact law_runs hK G.T.g G.T.b G.T.builtins G.T.nolimit hg hobj hints (Nat.le_trans hlen hn2) hr hF hb (fun H hO hS => hsp H a ns hlen hbits hO hS) fun H e s' => hCX w H s₁ e s'
end Pl
end L2
set_option Elab.async false
set_option linter.all false
set_option maxRecDepth 100000
set_option maxHeartbeats 4000000
namespace L2
namespace Pl
open PySem PySem.Spec PyProof.Rows
/-! ### facts of the head by one Bool -/
abbrev Fr := PySem.W.Frag
def isB (a b : Option (Option Value)) : Bool := decide (a = b)
/-- the class object at C is one of an own exception over ValueError -/
def klsB (K : Fr) (C : Addr) : Bool := match K.lookup C with
  | some ⟨.type t, _, .cls cd, sl⟩ => (match cd.mro, sl.toList with
    | .ref c :: bm, [_, _, _, _, some (.builtin n), _] => decide (t = "type") && (decide (c = C) && (decide (n = "ValueError.__new__") && (!cd.hasDel && (cd.hasDict && PySem.HandSPX.refsVE bm))))
    | _, _ => false)
  | _ => false
theorem kls_ok {K : Fr} {C : Addr} (h : klsB K C = true) : ∃ nm q N bs bm sn sub ab col dd k0 k1 k2 k3 k5, K.lookup C = some (excClassObj nm q C N bs bm true sn sub ab col dd k0 k1 k2 k3 k5 "ValueError.__new__") ∧ PySem.HandSPX.refsVE bm = true := by
  unfold klsB at h
  split at h
  · rename_i t dd cd sl found
    split at h
    · rename_i c bm y0 y1 y2 y3 n y5 em es
      obtain ⟨h1, h⟩ := He.ba h
      obtain ⟨h2, h⟩ := He.ba h
      obtain ⟨h3, h⟩ := He.ba h
      obtain ⟨h4, h⟩ := He.ba h
      obtain ⟨h5, h6⟩ := He.ba h
      have e1 := of_decide_eq_true h1
      have e2 := of_decide_eq_true h2
      have e3 := of_decide_eq_true h3
      obtain ⟨cn, cb, cm, cns, cq, chd, csn, csub, cab, ccol, cdel⟩ := cd
      dsimp only at em h4 h5
      have e4 : cdel = false := by simpa using h4
      obtain ⟨l⟩ := sl
      dsimp only at es
      subst e1 e2 e3 e4 em h5 es
      exact ⟨cn, cq, cns, cb, bm, csn, csub, cab, ccol, dd, y0, y1, y2, y3, y5, found, h6⟩
    · cases h
  · cases h
/-- all that ExV asks of the class x, but its __init__'s promise -/
def excB (K : Fr) (x f : Str) : Bool :=
  let C := He.ga K x
  isB (PySem.W.nsIn K mainGlobals x) (some (some (.ref C))) && (klsB K C && (isB (PySem.W.findIn K (.ref C) "__setattr__") (some (some (.builtin "object.__setattr__"))) && (decide (PySem.W.subIn K (.ref C) (.type "BaseException") = some true) && (decide (PySem.W.typeIn K (.ref C) = some (.type "type")) && (PySem.W.keepIn K (.ref C) &&
  (isB (PySem.W.findIn K (.ref C) "__getattribute__") (some (some (.builtin "BaseException.__getattribute__"))) && (isB (PySem.W.findIn K (.ref C) "__getattr__") (some none) && (PySem.W.hasDictIn K C && (isB (PySem.W.findIn K (.ref C) "__class__") (some (some (.builtin "object.__class__"))) && (isB (PySem.W.specialIn K (.builtin "object.__class__") "__get__") (some (some (.builtin "getset_descriptor.__get__"))) &&
  (decide (PySem.W.takesIn K (.builtin "object.__class__") = some true) && (decide (PySem.W.mroIn K C (.type "object") = some true) && (isB (PySem.W.findIn K (.ref C) f) (some none) && (isB (PySem.W.findIn K (.ref C) "__init__") (some (some (.ref (He.ma K C "__init__")))) && decide (PySem.W.typeIn K (.ref (He.ma K C "__init__")) = some (.type "function"))))))))))))))))
structure ExF (K : Fr) (x f : Str) : Prop where
  gl : PySem.W.nsIn K mainGlobals x = some (some (.ref (He.ga K x)))
  o : OexC K (He.ga K x)
  e : ExcC K (He.ga K x)
  nf : PySem.W.findIn K (.ref (He.ga K x)) f = some none
  iC : PySem.W.findIn K (.ref (He.ga K x)) "__init__" = some (some (.ref (He.ma K (He.ga K x) "__init__")))
  tI : PySem.W.typeIn K (.ref (He.ma K (He.ga K x) "__init__")) = some (.type "function")
theorem exc_ok {K : Fr} {x f : Str} (h : excB K x f = true) : ExF K x f := by
  obtain ⟨h1, h⟩ := He.ba h
  obtain ⟨h2, h⟩ := He.ba h
  obtain ⟨h3, h⟩ := He.ba h
  obtain ⟨h4, h⟩ := He.ba h
  obtain ⟨h5, h⟩ := He.ba h
  obtain ⟨h6, h⟩ := He.ba h
  obtain ⟨h7, h⟩ := He.ba h
  obtain ⟨h8, h⟩ := He.ba h
  obtain ⟨h9, h⟩ := He.ba h
  obtain ⟨h10, h⟩ := He.ba h
  obtain ⟨h11, h⟩ := He.ba h
  obtain ⟨h12, h⟩ := He.ba h
  obtain ⟨h13, h⟩ := He.ba h
  obtain ⟨h14, h⟩ := He.ba h
  obtain ⟨h15, h16⟩ := He.ba h
  exact ⟨of_decide_eq_true h1, ⟨kls_ok h2, of_decide_eq_true h3, of_decide_eq_true h4, of_decide_eq_true h5, h6⟩,
    ⟨of_decide_eq_true h7, of_decide_eq_true h8, of_decide_eq_true h4, h9, of_decide_eq_true h10, of_decide_eq_true h11, of_decide_eq_true h12, of_decide_eq_true h13⟩, of_decide_eq_true h14, of_decide_eq_true h15, of_decide_eq_true h16⟩
/-- sys.modules is looked at, too -/
def sysB (K : Fr) : Bool := match K.lookup sysModules with
  | some ⟨.type t, _, _, _⟩ => decide (t = "dict")
  | _ => false
theorem sys_ok {K : Fr} (h : sysB K = true) : SysK K := by
  unfold sysB at h
  split at h
  · rename_i t _ _ _ e
    exact ⟨_, e, congrArg Value.type (of_decide_eq_true h)⟩
  · cases h
/-! ### the Hook: the defs, and a Bool of one's own -/
def fragP (n : Nat) (g : Addr → Option Obj) : Fr := He.frG g (sysModules :: He.asD g n)
abbrev AlP : Type := He.AlD × Bool
def obsP (n : Nat) (fa : List He.Fa) (fn : List He.DefD) (ex : Fr → Bool) (g : Addr → Option Obj) : AlP := (He.obsD fa fn (fragP n g), ex (fragP n g))
structure SaysP (fa : List He.Fa) (fn : List He.DefD) (ex : Fr → Bool) (K : Fr) : Prop where
  d : He.SaysD fa fn K
  more : ex K = true
def hookP (n : Nat) (fa : List He.Fa) (fn : List He.DefD) (ex : Fr → Bool) : PySem.W.Hook where
  α := AlP
  obs := fun s => obsP n fa fn ex s.heap.get?
  val := fun _ => (He.valD fn, true)
  says := fun _ h => ∃ K : Fr, K.In h ∧ SaysP fa fn ex K
  of := fun _ _ e => ⟨_, He.frG_in, congrArg (fun z : AlP => z.1) e, congrArg (fun z : AlP => z.2) e⟩
  keeps := fun _ _ _ ⟨K, hK, c⟩ k => ⟨K, PySem.W.Frag.In.keeps hK k, c⟩
theorem obsP_eq {n : Nat} {fa : List He.Fa} {fn : List He.DefD} {ex : Fr → Bool} {g : Addr → Option Obj} {s : Shared} (h : ∀ a, g a = s.heap.get? a) : obsP n fa fn ex g = (hookP n fa fn ex).obs s := by
  have e : g = s.heap.get? := funext h
  rw [e] <;> rfl
end Pl
end L2
set_option Elab.async false
set_option linter.all false
set_option maxRecDepth 100000
set_option maxHeartbeats 4000000
namespace PlayL
open PySem PySem.Spec PyProof.Rows
/-! ### the different ones of a row of texts, and set(xs) of a list of texts -/
def metS (xs : List Str) : List Str := xs.foldl (fun a x => if x ∈ a then a else a ++ [x]) []
theorem metS_snoc (xs : List Str) (x : Str) : metS (xs ++ [x]) = if x ∈ metS xs then metS xs else metS xs ++ [x] := by
  unfold metS
  rw [List.foldl_append]
  rfl
theorem metS_mem : ∀ (n : Nat) (xs : List Str), xs.length = n → ∀ y, y ∈ metS xs ↔ y ∈ xs := by
  intro n
  induction n with
  | zero =>
    intro xs e y
    rw [List.length_eq_zero_iff.mp e]
    exact Iff.rfl
  | succ n ih =>
    intro xs e y
    obtain ⟨zs, z, rfl⟩ : ∃ zs z, xs = zs ++ [z] := ⟨_, _, (List.dropLast_concat_getLast (by intro h; rw [h] at e; cases e)).symm⟩
    have hz : zs.length = n := by
      rw [List.length_append] at e
      exact Nat.succ.inj e
    have q := ih zs hz
    rw [metS_snoc]
    split
    · rename_i hm
      rw [q y, List.mem_append, List.mem_singleton]
      exact ⟨.inl, fun c => c.elim id fun c => c ▸ (q z).mp hm⟩
    · rw [List.mem_append, List.mem_append, q y]
theorem metS_le : ∀ (n : Nat) (xs : List Str), xs.length = n → (metS xs).length ≤ n := by
  intro n
  induction n with
  | zero =>
    intro xs e
    rw [List.length_eq_zero_iff.mp e]
    exact Nat.le_refl _
  | succ n ih =>
    intro xs e
    obtain ⟨zs, z, rfl⟩ : ∃ zs z, xs = zs ++ [z] := ⟨_, _, (List.dropLast_concat_getLast (by intro h; rw [h] at e; cases e)).symm⟩
    have hz : zs.length = n := by
      rw [List.length_append] at e
      exact Nat.succ.inj e
    have q := ih zs hz
    rw [metS_snoc]
    split
    · omega
    · rw [List.length_append, List.length_singleton]
      omega
theorem metS_nd : ∀ (n : Nat) (xs : List Str), xs.length = n → ((metS xs).length = n ↔ xs.Nodup) := by
  intro n
  induction n with
  | zero =>
    intro xs e
    rw [List.length_eq_zero_iff.mp e]
    exact ⟨fun _ => .nil, fun _ => rfl⟩
  | succ n ih =>
    intro xs e
    obtain ⟨zs, z, rfl⟩ : ∃ zs z, xs = zs ++ [z] := ⟨_, _, (List.dropLast_concat_getLast (by intro h; rw [h] at e; cases e)).symm⟩
    have hz : zs.length = n := by
      rw [List.length_append] at e
      exact Nat.succ.inj e
    have q := ih zs hz
    have le := metS_le n zs hz
    rw [metS_snoc, List.nodup_append]
    split
    · rename_i hm
      refine ⟨fun c => by omega, fun c => ?_⟩
      exact absurd rfl (c.2.2 z ((metS_mem n zs hz z).mp hm) z (List.mem_singleton.mpr rfl))
    · rename_i hm
      rw [List.length_append, List.length_singleton]
      refine ⟨fun c => ⟨q.mp (by omega), List.nodup_cons.mpr ⟨by simp, .nil⟩, fun a ha b hb e2 => hm ?_⟩, fun c => by rw [q.mpr c.1]⟩
      rw [← List.mem_singleton.mp hb, ← e2]
      exact (metS_mem n zs hz a).mpr ha
theorem metS_has (xs : List Str) (y : Str) : (metS xs).any (· == y) = decide (y ∈ xs) := by
  by_cases h : y ∈ xs
  · rw [decide_eq_true h, List.any_eq_true]
    exact ⟨y, (metS_mem _ xs rfl y).mpr h, beq_self_eq_true y⟩
  · rw [decide_eq_false h, List.any_eq_false]
    intro z hz c
    have := beq_iff_eq.mp c
    rw [this] at hz
    exact h ((metS_mem _ xs rfl y).mp hz)
section
variable {prog : Program} {w : World} {A : Around} {R : Result → Shared → Prop} {I : Addr} {fp wr : List Addr} {G : Array GenState → Array GenState → Prop} {n : Nat} {P : Nat → Value → Prop} {St : Nat → Shared → Prop}
/-- where the set of texts is at s -/
abbrev SetAtS (prog : Program) (w : World) (S : Addr) (xs : List Str) (s : Shared) : Prop := s.heap.SetOf (PySem.strKind prog w) S (fun y => decide (y ∈ xs)) (metS xs).length
theorem setAtS_keep {S : Addr} {xs : List Str} {s s' : Shared} (h : SetAtS prog w S xs s) (k : ∀ o, s.heap.get? S = some o → s'.heap.get? S = some o) : SetAtS prog w S xs s' :=
  let ⟨o, es, ep, tb, ho, r⟩ := h
  ⟨o, es, ep, tb, k o ho, r⟩
theorem loop_strs (W : WalksS prog w A.in1 I fp wr G n P St) (S : Addr) (free : S ∉ fp) (xs : List Str) (room : n + 1 < scanBound) (len : xs.length = n)
    (val : ∀ i v, P i v → ∃ t x, xs[i]? = some x ∧ v = .str x t) : ∀ (m i : Nat) (s : Shared), n - i = m → i ≤ n → St i s → SetAtS prog w S (xs.take i) s →
      (∀ s', Moved (S :: wr) G s s' → SetAtS prog w S xs s' → R (.ok (.ret .none)) s') →
      codeAny (model prog w) A (.builtin "set.update.loop" ⟨[.ref S, .ref I], []⟩) R s := by
  have fw : S ∉ wr := fun h => free (W.sub _ h)
  intro m
  induction m with
  | zero =>
    intro i s e hi st at_ fin
    obtain rfl : i = n := by omega
    refine codeAny_builtin F.entry_set_update_loop ?_
    rw [Around.under_plainId F.plain_set_update_loop _]
    refine wpAny_bind (m := pyNext (.ref I)) (W.done s _ _ st fun s1 mv => ?_)
    refine wpAny_pure (fin s1 (mv.mono fun b hb => .tail _ hb) ?_)
    rw [List.take_of_length_le (Nat.le_of_eq len)] at at_
    exact setAtS_keep at_ fun o => mv.heap S o fw
  | succ m ih =>
    intro i s e hi st at_ fin
    have lt : i < n := by omega
    refine codeAny_builtin F.entry_set_update_loop ?_
    rw [Around.under_plainId F.plain_set_update_loop _]
    refine wpAny_bind (m := pyNext (.ref I)) (W.item i s _ _ lt st fun v s1 hv st1 mv => ?_)
    obtain ⟨tk, x, hx, rfl⟩ := val i v hv
    have at1 := setAtS_keep at_ fun o => mv.heap S o fw
    refine wpAny_bind (m := holding [Value.str x tk] (setAdd S (.str x tk))) (wpAny_holding ?_)
    unfold setAdd
    refine wpAny_holding (wpAny_bind ((PySem.strKind prog w).pyHash (k := x) (strKind_is _ _ _ _) ?_))
    have few : (metS (xs.take i)).length ≤ i := by
      have := metS_le _ (xs.take i) rfl
      rw [List.length_take] at this
      omega
    refine wpAny_setAddHashed_of (knd := PySem.strKind prog w) (s := { s1 with toks := s1.toks + 1 }) (strKind_is _ _ _ _) rfl at1 (by omega) fun h2 only at2 => ?_
    have tk1 : xs.take (i + 1) = xs.take i ++ [x] := by
      rw [List.take_succ, hx]
      rfl
    have at3 : h2.SetOf (PySem.strKind prog w) S (fun y => decide (y ∈ xs.take (i + 1))) (metS (xs.take (i + 1))).length := by
      refine SetOf_congr at2 (fun y => ?_) ?_
      · rw [tk1, Bool.eq_iff_iff, Bool.or_eq_true, decide_eq_true_iff, decide_eq_true_iff, decide_eq_true_iff, List.mem_append, List.mem_singleton]
      · rw [tk1, metS_snoc]
        have q := metS_mem _ (xs.take i) rfl x
        by_cases c : x ∈ xs.take i
        · rw [if_pos (decide_eq_true c), if_pos (q.mpr c)]
        · rw [if_neg (by rw [decide_eq_false c]; decide), if_neg fun z => c (q.mp z), List.length_append]
          rfl
    have other : ∀ b o, b ≠ S → s1.heap.get? b = some o → h2.get? b = some o := fun b o hb z => (only.2 b hb).trans z
    refine wpAny_pure ⟨plainId_quiet F.plain_set_update_loop _, ih (i + 1) _ (by omega) lt (W.frame _ s1 _ _ st1 (Nat.le_succ _) fun b hb o z => other b o (fun c => free (c ▸ hb)) z) at3 fun s3 mv3 at4 => fin s3 (Moved.trans W.gtrans (Moved.then_heap (mv.mono fun b hb => .tail _ hb) (Nat.le_succ _) fun b o hb z => other b o (fun c => hb (c ▸ .head _)) z) mv3) at4⟩
end
section
variable {prog : Program} {w : World} {A : Around} {E : Value → Shared → Prop} {s : Shared}
/-- a set that was just made -/
abbrev set0 (led : Bool) : Obj := { cls := .type "set", dict := none, data := .set #[] 0 (.fresh 0 0 led) }
abbrev withSet (s : Shared) (led : Bool) : Shared := { s with heap := s.heap.push (set0 led) }
theorem set_init_list {l : Addr} {items : Array Value} {xs : List Str} {led : Bool} (free : A.handled = none) (isL : s.heap.IsList l items) (are : StrsAre items.toList xs) (room : xs.length + 1 < scanBound) {Q : Value → Shared → Prop}
    (fin : ∀ (h' : Heap) (tk : Nat), h'.SetOf (PySem.strKind prog w) s.heap.objs.size (fun y => decide (y ∈ xs)) (metS xs).length → (∀ b o, s.heap.get? b = some o → h'.get? b = some o) → Q .none { s with heap := h', toks := tk }) :
    codeAny (model prog w) A (.call (.builtin "set.__init__") ⟨[.ref s.heap.objs.size, .ref l], []⟩) (wants Q E) (withSet s led) := by
  have new : (withSet s led).heap.get? s.heap.objs.size = some (set0 led) := Heap.get?_push_size _ rfl
  refine codeAny_call_builtin F.called_set.init.plain F.entry_set_init (check_set_init_1 ⟨_, new, rfl⟩ ?_)
  obtain ⟨ol, hol, hcl, nl, hdl⟩ := isL
  obtain ⟨c, dd, data, sl⟩ := ol
  dsimp only at hcl hdl
  subst hcl hdl
  have at2 : (withSet s led).heap.get? l = some { cls := .type "list", dict := dd, data := .seq items nl, slots := sl } := Heap.get?_push_of_some _ hol
  have n1 := F.sub_list_set
  have n2 := F.sub_list_frozenset
  have n3 : (Value.type "list" == Value.type "dict") = false := by decide
  unfold Builtin.«set.__init__» noKeywords Builtin.Frozenset.updateFrom
  generalize eP : pyIter = PI
  wp_walk
  subst eP
  have isL2 : (withSet s led).heap.IsList l items := ⟨_, at2, rfl, nl, rfl⟩
  refine wpAny_pyIter_list isL2 (wpAny_bind (wpAny_runValue ?_))
  have lt : l < s.heap.objs.size := Heap.lt_size hol
  have sz : (withSet s led).heap.objs.size = s.heap.objs.size + 1 := Heap.size_push _ _
  have apart : s.heap.objs.size ∉ [(withSet s led).heap.objs.size, l] := fun c => by
    rcases List.mem_cons.mp c with c | c
    · exact absurd (c.trans sz) (Nat.ne_of_lt (Nat.lt_succ_self _))
    · exact absurd (List.mem_singleton.mp c).symm (Nat.ne_of_lt lt)
  have at3 : ((withSet s led).heap.push { cls := .type "list_iterator", data := .fields #[.ref l, .int 0 0] }).get? s.heap.objs.size = some (set0 led) := Heap.get?_push_of_some _ new
  have len : xs.length = items.size := by
    have := StrsAre.len_eq are
    rw [← this, Array.length_toList]
  have val : ∀ (i : Nat) (v : Value), items[i]? = some v → ∃ t x, xs[i]? = some x ∧ v = .str x t := fun i v hv => by
    have lt : i < xs.length := len ▸ (Array.getElem?_eq_some_iff.mp hv).1
    obtain ⟨t, e⟩ := SS.strs_at are i v (by rw [Array.getElem?_toList]; exact hv)
    exact ⟨t, xs[i], List.getElem?_eq_getElem lt, by rw [e, List.getD_eq_getElem?_getD, List.getElem?_eq_getElem lt]; rfl⟩
  refine loop_strs ((Walks.list (by simp [free]) _ l (fun c => absurd (c.trans sz) (Nat.ne_of_lt (Nat.lt_succ_of_lt lt))) items).toS) s.heap.objs.size apart xs (by rw [← len]; exact room) len val items.size 0 _ (by omega) (Nat.zero_le _) ⟨⟨_, Heap.get?_push_size _ rfl, rfl, rfl⟩, isL2.push _⟩ ?_ fun s1 mv at4 => ?_
  · exact SetOf_congr ((setObjOf_fresh (knd := PySem.strKind prog w) led).setOf at3 (by unfold scanBound; omega)) (fun _ => rfl) rfl
  · obtain ⟨h1, g1, d1, t1, o1⟩ := s1
    obtain rfl : g1 = s.gens := mv.gens
    obtain rfl : d1 = s.drawn := mv.drawn
    obtain rfl : o1 = s.os := mv.os
    refine wpAny_pure (wpAny_pure (fin h1 t1 at4 fun b o hb => ?_))
    have ltb : b < s.heap.objs.size := Heap.lt_size hb
    refine mv.heap b o (fun c => ?_) (Heap.get?_push_of_some _ (Heap.get?_push_of_some _ hb))
    rcases List.mem_cons.mp c with c | c
    · exact absurd c (Nat.ne_of_lt ltb)
    · exact absurd ((List.mem_singleton.mp c).trans sz) (Nat.ne_of_lt (Nat.lt_succ_of_lt ltb))
theorem set_of_list {l : Addr} {items : Array Value} {xs : List Str} (free : A.handled = none) (isL : s.heap.IsList l items) (are : StrsAre items.toList xs) (room : xs.length + 1 < scanBound) {Q : Value → Shared → Prop}
    (fin : ∀ (h' : Heap) (tk : Nat), h'.SetOf (PySem.strKind prog w) s.heap.objs.size (fun y => decide (y ∈ xs)) (metS xs).length → (∀ b o, s.heap.get? b = some o → h'.get? b = some o) → Q (.ref s.heap.objs.size) { s with heap := h', toks := tk }) :
    wpAny (model prog w) A (call (.type "set") [.ref l]) Q E s := by
  obtain ⟨head, tail, mro⟩ := F.called_set.mro
  refine wpAny_call (codeAny_of_tree ?_)
  change wpAny _ _ (callAny (Value.type "set") _) _ _ s
  refine wpAny_pure ⟨Code.quiet_builtin _ (by decide +kernel), codeAny_builtin F.entry_type_call (?_ : wpAny _ _ _ _ _ _)⟩
  rw [Around.under_plain (weight_type_call_type "set" [.ref l] []) rfl]
  have c1 := F.called_set.made
  have c2 := F.called_set.sub
  have c3 := F.called_set.notType
  have c4 := F.called_set.canCreate
  have c5 := F.typeCall_set_1 (.ref l)
  repeat (any_goals (first | assumption | wp_step))
  refine codeAny_mono (code_set_new_1 (.ref l) (E := E) (Q₁ := fun o s1 => ∃ led : Bool, o = .ref s.heap.objs.size ∧ s1 = withSet s led) fun led => ⟨led, rfl, rfl⟩) fun r s1 hr => ?_
  match r, hr with
  | .error e, hr => exact hr
  | .ok (.ret o), hr =>
    obtain ⟨led, rfl, rfl⟩ := hr
    have new : (withSet s led).heap.get? s.heap.objs.size = some (set0 led) := Heap.get?_push_size _ rfl
    have isS : (withSet s led).TypeIs (.ref s.heap.objs.size) "set" := ⟨_, new, rfl⟩
    have c6 := F.called_set.init.lookup
    have c7 := F.called_set.init.bind (.ref s.heap.objs.size)
    repeat (any_goals (first | assumption | wp_step))
    refine codeAny_mono (set_init_list (A := A.in1) (led := led) (E := E) (Q := fun r s2 => r = .none ∧ ∃ h' tk, s2 = { s with heap := h', toks := tk } ∧ h'.SetOf (PySem.strKind prog w) s.heap.objs.size (fun y => decide (y ∈ xs)) (metS xs).length ∧ ∀ b o, s.heap.get? b = some o → h'.get? b = some o) (by simp [free]) isL are room fun h' tk a b => ⟨rfl, h', tk, rfl, a, b⟩) fun r2 s2 hr2 => ?_
    match r2, hr2 with
    | .error e, hr2 => exact hr2
    | .ok (.ret r3), hr2 =>
      obtain ⟨rfl, h', tk, rfl, isSet, keep⟩ := hr2
      repeat (any_goals (first | assumption | wp_step))
      exact fin _ _ isSet keep
end
end PlayL
namespace L2
open PySem PySem.Spec PyProof.Rows
/-- len(set(xs)), xs a list of texts -/
def tLenSetS (K : PySem.W.Frag) (ta : TE) : TE := fun σ H Q => ta σ H fun x H1 => ∃ l, ∃ xs : List Str, x = .ref l ∧ SqL K H1 l (xs.map V.str) ∧ xs.length ≤ 1000 ∧ Q (.int ((PlayL.metS xs).length : Nat)) H1
section
variable {X : Cx}
theorem pe_lenSetS {a : Expr} {ta : TE} {p p2 q pos : Pos} (hc : X.calm = true) (hg : Gl X "len") (hm : X.mg "len" = none) (hg2 : Gl X "set") (hm2 : X.mg "set" = none) (ha : PE X a ta)
    (one : starEach [a] X.env = (false, eval a X.env) :: starEach [] X.env := by rfl) : PE X (.Call (.Name "len" p) [.Call (.Name "set" p2) [a] [] q] [] pos) (tLenSetS X.K ta) := by
  refine ⟨fun pins s σ H Q I h => Call_ (ld_blt I hg hm boot_len (callWith_builtin1 (args_cons (Call_ (ld_blt I hg2 hm2 boot_set ?_)) rfl) rfl rfl))⟩
  refine callWith_type1 (args_cons (thn (ha.run pins s σ H _ I h) fun v s1 ⟨x, H1, I1, r1, q1⟩ => args_nil ?_) one) one rfl
  obtain ⟨l, xs, rfl, hl, few, q1⟩ := q1
  cases r1
  obtain ⟨its, r, pl, _⟩ := I1.list hl
  refine PlayL.set_of_list (I1.ok.hd hc) pl.isList (by simpa using strsAre_of r) (by unfold scanBound; omega) fun h' tk isS keep => args_nil ?_
  obtain ⟨o, es, ep, t, ho, hex, hd, _, _, _, hf, hn⟩ := isS
  have le := PlayL.metS_le _ xs rfl
  have I2 : Inv X pins σ H1 { s1 with heap := h', toks := tk } := I1.kept keep
  exact call_len_set ho hex hd hf (by rw [hn]; omega) ⟨.int ((PlayL.metS xs).length : Nat), H1, I2.tok _, ⟨_, by rw [hn]⟩, q1⟩
end
end L2
set_option Elab.async false
set_option linter.all false
set_option maxRecDepth 100000
set_option maxHeartbeats 4000000
namespace PlayL
open PySem PySem.Spec PyProof.Rows RZ
/-! ### list(zip(..)) of two tuples: the first pair is kept, so all others are laid anew -/
section
variable {prog : Program} {w : World} {A : Around} {E : Value → Shared → Prop} {s : Shared}
/-- the zip at z, behind k pairs; T, its first pair, is held -/
structure ZipAt (h : Heap) (z TI TO i1 i2 l1 l2 T : Addr) (f : Bool) (k : Nat) (xs ys : Array Value) : Prop where
  zip : IsZipHeld h z TI TO T f
  kept : ∃ o, h.get? T = some o
  both : IsPair h TI (.ref i1) (.ref i2)
  one : h.IsTupleIter i1 l1 k
  two : h.IsTupleIter i2 l2 k
  left : h.IsTuple l1 xs
  right : h.IsTuple l2 ys
theorem zip_alive {z TI TO i1 i2 l1 l2 T k : Addr} {f : Bool} {xs ys : Array Value} {x y : Value} {Q : Option Value → Shared → Prop} (D : ZipApart z TI TO i1 i2 l1 l2) (Z : ZipAt s.heap z TI TO i1 i2 l1 l2 T f k xs ys) (hx : xs[k]? = some x) (hy : ys[k]? = some y) (nT : T ≠ z ∧ T ≠ i1 ∧ T ≠ i2)
    (q : ∀ h', ZipAt h' z TI TO i1 i2 l1 l2 T true (k + 1) xs ys → IsPair h' s.heap.objs.size x y → (∀ c o, c ≠ z → c ≠ i1 → c ≠ i2 → s.heap.get? c = some o → h'.get? c = some o) → Q (some (.ref s.heap.objs.size)) { s with heap := h' }) :
    wpAny (model prog w) A (pyNext (.ref z)) Q E s := by
  obtain ⟨hz, ⟨oT, hT⟩, hTI, h1, h2, hl1, hl2⟩ := Z
  have isZ : s.TypeIs (.ref z) "zip" := ⟨_, hz, rfl⟩
  unfold pyNext
  refine wpAny_bind (wpAny_attempt (wpAny_callSpecial?_slot (name := Str.ofString "__next__") isZ F.slot_zip_next (wpAny_call_entry F.slot_zip_next isZ F.entry_zip_next ?_ (F.args_zip_next_1 _))))
  change wpAny _ _ (field (.ref z) 2 >>= _) _ _ s
  refine wpAny_bind (wpAny_field hz rfl (x := .bool false) rfl ?_)
  change wpAny _ _ (field (.ref z) 3 >>= _) _ _ s
  refine wpAny_bind (wpAny_field hz rfl (x := .ref TI) rfl (wpAny_bind (wpAny_seqItems hTI rfl ?_)))
  change wpAny _ _ (Builtin.SmallTypes.ownedTupleIsFree (.ref z) >>= _) _ _ s
  refine wpAny_bind (wpAny_tupleHeld_zip hz hT fun ha hza sa => ?_)
  rw [if_neg Bool.false_ne_true]
  dsimp only
  refine wpAny_bind ?_
  rw [← Array.forIn_toList]
  dsimp only
  rw [List.forIn_cons]
  refine wpAny_bind (wpAny_bind (wpAny_holding ?_))
  change wpAny _ _ (Builtin.SmallTypes.nextOf (.ref i1) >>= _) _ _ _
  refine wpAny_bind (nextOf_tuple_item (s := { s with heap := ha }) (h1.extBut sa.extBut D.i1z) (hl1.extBut sa.extBut D.l1z) hx fun hb h1b sb => wpAny_pure (wpAny_pure ?_))
  dsimp only
  rw [List.forIn_cons]
  refine wpAny_bind (wpAny_bind (wpAny_holding ?_))
  change wpAny _ _ (Builtin.SmallTypes.nextOf (.ref i2) >>= _) _ _ _
  refine wpAny_bind (nextOf_tuple_item (s := { s with heap := hb }) ((h2.extBut sa.extBut D.i2z).extBut sb.extBut D.i12.symm) ((hl2.extBut sa.extBut D.l2z).extBut sb.extBut D.l2i1) hy fun hc h2c sc => wpAny_pure (wpAny_pure (wpAny_pure ?_)))
  change wpAny _ _ (newTuple [x, y] >>= _) _ _ _
  refine wpAny_bind (wpAny_newTuple (wpAny_pure ⟨_, rfl, ?_⟩))
  have keep : ∀ c o, c ≠ z → c ≠ i1 → c ≠ i2 → s.heap.get? c = some o → hc.get? c = some o := fun c o n1 n2 n3 e => sc.extBut _ _ n3 (sb.extBut _ _ n2 (sa.extBut _ _ n1 e))
  have size : hc.objs.size = s.heap.objs.size := by rw [sc.1, sb.1, sa.1]
  have up : ∀ {c o}, hc.get? c = some o → (hc.push { cls := .type "tuple", data := .seq #[x, y] }).get? c = some o := fun e => Heap.get?_push_of_some _ e
  have new : IsPair (hc.push { cls := .type "tuple", data := .seq #[x, y] }) hc.objs.size x y := Heap.get?_push_size _ rfl
  refine wpAny_pure ?_
  rw [size] at new
  show Q (some (.ref hc.objs.size)) _
  rw [size]
  refine q _ ⟨up (sc.extBut _ _ D.i2z.symm (sb.extBut _ _ D.i1z.symm hza)), ⟨oT, up (keep T oT nT.1 nT.2.1 nT.2.2 hT)⟩, up (keep TI _ D.TIz D.TIi1 D.TIi2 hTI), (h1b.extBut sc.extBut D.i12).at fun o e => up e, h2c.at fun o e => up e,
    hl1.at fun o e => up (keep l1 o D.l1z D.l1i1 D.l1i2 e), hl2.at fun o e => up (keep l2 o D.l2z D.l2i1 D.l2i2 e)⟩ new fun c o n1 n2 n3 e => up (keep c o n1 n2 n3 e)
theorem zip_done {z TI TO i1 i2 l1 l2 T k : Addr} {f : Bool} {xs ys : Array Value} {Q : Option Value → Shared → Prop} (free : A.handled = none) (D : ZipApart z TI TO i1 i2 l1 l2) (Z : ZipAt s.heap z TI TO i1 i2 l1 l2 T f k xs ys) (hx : xs[k]? = none)
    (q : ∀ h', (∀ c o, c ≠ z → c ≠ i1 → c ≠ i2 → s.heap.get? c = some o → h'.get? c = some o) → Q none { s with heap := h' }) : wpAny (model prog w) A (pyNext (.ref z)) Q E s := by
  obtain ⟨hz, ⟨oT, hT⟩, hTI, h1, h2, hl1, hl2⟩ := Z
  have isZ : s.TypeIs (.ref z) "zip" := ⟨_, hz, rfl⟩
  unfold pyNext
  refine wpAny_bind (wpAny_attempt (wpAny_callSpecial?_slot (name := Str.ofString "__next__") isZ F.slot_zip_next (wpAny_call_entry F.slot_zip_next isZ F.entry_zip_next ?_ (F.args_zip_next_1 _))))
  change wpAny _ _ (field (.ref z) 2 >>= _) _ _ s
  refine wpAny_bind (wpAny_field hz rfl (x := .bool false) rfl ?_)
  change wpAny _ _ (field (.ref z) 3 >>= _) _ _ s
  refine wpAny_bind (wpAny_field hz rfl (x := .ref TI) rfl (wpAny_bind (wpAny_seqItems hTI rfl ?_)))
  change wpAny _ _ (Builtin.SmallTypes.ownedTupleIsFree (.ref z) >>= _) _ _ s
  refine wpAny_bind (wpAny_tupleHeld_zip hz hT fun ha hza sa => ?_)
  rw [if_neg Bool.false_ne_true]
  dsimp only
  refine wpAny_bind ?_
  rw [← Array.forIn_toList]
  dsimp only
  rw [List.forIn_cons]
  refine wpAny_bind (wpAny_bind (wpAny_holding ?_))
  change wpAny _ _ (Builtin.SmallTypes.nextOf (.ref i1) >>= _) _ _ _
  refine wpAny_bind (nextOf_tuple_end (s := { s with heap := ha }) free (h1.extBut sa.extBut D.i1z) (hl1.extBut sa.extBut D.l1z) hx fun hb e eb ⟨o, ho, hc⟩ => ?_)
  refine wpAny_bind (wpAny_isInstance (T := "StopIteration") (b := true) ⟨o, ho, hc⟩ isSubtype_stop (wpAny_pure (q _ fun c o n1 n2 _ e => eb _ _ n2 (sa.extBut _ _ n1 e))))
/-- the turns of list.extend over it -/
theorem extend_zip {R : Result → Shared → Prop} {z TI TO i1 i2 l1 l2 T S : Addr} {xs ys : Array Value} {res : Value} (free : A.handled = none) (D : ZipApart z TI TO i1 i2 l1 l2) (nT : T ≠ z ∧ T ≠ i1 ∧ T ≠ i2) (nS : S ≠ z ∧ S ≠ TI ∧ S ≠ i1 ∧ S ≠ i2 ∧ S ≠ l1 ∧ S ≠ l2 ∧ S ≠ T)
    (same : xs.size = ys.size) (few : xs.size ≤ 1000) (lo : Addr) (hlo : lo ≤ z) (P0 : Addr → Prop) (h00 : ∀ c, P0 c → c ≠ z ∧ c ≠ i1 ∧ c ≠ i2 ∧ c ≠ S) : ∀ (m k : Nat) (s : Shared) (f : Bool) (ts : List Addr) (c0 : Nat), xs.size - k = m → k ≤ xs.size → ZipAt s.heap z TI TO i1 i2 l1 l2 T f k xs ys →
      s.heap.get? S = some { cls := .type "list", dict := none, data := .seq (ts.map Value.ref).toArray c0, slots := #[] } → ts.length = k → (∀ (i : Nat) (t : Addr), ts[i]? = some t → ∃ x y, xs[i]? = some x ∧ ys[i]? = some y ∧ IsPair s.heap t x y ∧ t ≠ z ∧ t ≠ i1 ∧ t ≠ i2 ∧ t ≠ S) → ts.Nodup → (∀ t ∈ ts, lo ≤ t) →
      (∀ h' (ts : List Addr) c1, h'.get? S = some { cls := .type "list", dict := none, data := .seq (ts.map Value.ref).toArray c1, slots := #[] } → ts.length = xs.size → (∀ (i : Nat) (t : Addr), ts[i]? = some t → ∃ x y, xs[i]? = some x ∧ ys[i]? = some y ∧ IsPair h' t x y) → ts.Nodup → (∀ t ∈ ts, lo ≤ t) →
        (∀ c o, P0 c → s.heap.get? c = some o → h'.get? c = some o) → R (.ok (.ret res)) { s with heap := h' }) →
      codeAny (model prog w) A (.builtin "list.extend.loop" ⟨[.ref S, .ref z, res], []⟩) R s := by
  intro m
  induction m with
  | zero =>
    intro k s f ts c0 e hk Z hS hl ht nd low fin
    obtain rfl : k = xs.size := by omega
    refine codeAny_builtin F.entry_extend_loop ?_
    rw [Around.under_plainId F.plain_extend_loop _]
    change wpAny _ A.in1 (pyNext (.ref z) >>= _) _ _ s
    refine wpAny_bind (zip_done (A := A.in1) free D Z (Array.getElem?_eq_none (Nat.le_refl _)) fun h' keep => ?_)
    refine wpAny_pure (fin h' ts c0 (keep S _ nS.1 nS.2.2.1 nS.2.2.2.1 hS) hl (fun i t hi => ?_) nd low fun c o hc e => ?_)
    · obtain ⟨x, y, a1, a2, a3, a4, a5, a6, _⟩ := ht i t hi
      exact ⟨x, y, a1, a2, keep t _ a4 a5 a6 a3⟩
    · obtain ⟨b1, b2, b3, _⟩ := h00 c hc
      exact keep c o b1 b2 b3 e
  | succ m ih =>
    intro k s f ts c0 e hk Z hS hl ht nd low fin
    have lt : k < xs.size := by omega
    refine codeAny_builtin F.entry_extend_loop ?_
    rw [Around.under_plainId F.plain_extend_loop _]
    change wpAny _ A.in1 (pyNext (.ref z) >>= _) _ _ s
    refine wpAny_bind (zip_alive (A := A.in1) D Z (x := xs[k]) (y := ys[k]) (Array.getElem?_eq_getElem lt) (Array.getElem?_eq_getElem (by omega)) nT fun h' Z' new keep => ?_)
    have hS' := keep S _ nS.1 nS.2.2.1 nS.2.2.2.1 hS
    change wpAny _ A.in1 (updateSeq S (·.push (.ref s.heap.objs.size)) >>= _) _ _ _
    refine wpAny_bind (wpAny_updateSeq hS' rfl (wpAny_pure ⟨plainId_quiet F.plain_extend_loop _, ?_⟩) (by rw [List.size_toArray, List.length_map, hl, sizeLine_eq]; omega) (by rw [Array.size_push, List.size_toArray, List.length_map, hl, sizeLine_eq]; omega))
    have at2 := Heap.get?_update_self (Obj.mapSeq (·.push (.ref s.heap.objs.size))) hS' rfl
    have oth : ∀ c o, c ≠ S → h'.get? c = some o → (h'.update S (Obj.mapSeq (·.push (.ref s.heap.objs.size)))).get? c = some o := fun c o n e => (Heap.get?_update_other _ _ (Ne.symm n)).trans e
    have big : ∀ {c o}, s.heap.get? c = some o → s.heap.objs.size ≠ c := fun e => Nat.ne_of_gt (Heap.lt_size e)
    obtain ⟨_, z1, _⟩ := Z.one
    obtain ⟨_, z2, _⟩ := Z.two
    obtain ⟨hz, ⟨oT, hT⟩, hTI, h1, h2, hl1, hl2⟩ := Z'
    obtain ⟨c2, at3⟩ : ∃ c2, (h'.update S (Obj.mapSeq (·.push (.ref s.heap.objs.size)))).get? S = some { cls := .type "list", dict := none, data := .seq ((ts ++ [s.heap.objs.size]).map Value.ref).toArray c2, slots := #[] } := by
      have push : (ts.map Value.ref).toArray.push (.ref s.heap.objs.size) = ((ts ++ [s.heap.objs.size]).map Value.ref).toArray := by simp
      have at3 := at2
      unfold Obj.mapSeq at at3
      dsimp only at at3
      rw [push] at at3
      exact ⟨_, at3⟩
    refine ih (k + 1) _ true (ts ++ [s.heap.objs.size]) c2 (by omega) lt ⟨oth _ _ nS.1.symm hz, ⟨oT, oth _ _ nS.2.2.2.2.2.2.symm hT⟩, oth _ _ nS.2.1.symm hTI, h1.at fun o e => oth _ o nS.2.2.1.symm e, h2.at fun o e => oth _ o nS.2.2.2.1.symm e, hl1.at fun o e => oth _ o nS.2.2.2.2.1.symm e, hl2.at fun o e => oth _ o nS.2.2.2.2.2.1.symm e⟩ at3 (by rw [List.length_append, hl]; rfl) (fun i t hi => ?_) (List.nodup_append.mpr ⟨nd, List.nodup_cons.mpr ⟨fun z => (by cases z), .nil⟩, fun a ha b hb e2 => ?_⟩) (fun t hm => ?_) fun h3 us c1 a1 a2 a3 a5 a6 a4 => fin h3 us c1 a1 a2 a3 a5 a6 fun c o hc e => ?_
    · by_cases hik : i < ts.length
      · rw [List.getElem?_append_left hik] at hi
        obtain ⟨x, y, b1, b2, b3, b4, b5, b6, b7⟩ := ht i t hi
        exact ⟨x, y, b1, b2, oth _ _ b7 (keep t _ b4 b5 b6 b3), b4, b5, b6, b7⟩
      · have hlt := (List.getElem?_eq_some_iff.mp hi).1
        rw [List.length_append, List.length_singleton] at hlt
        obtain rfl : i = ts.length := by omega
        rw [List.getElem?_append_right (Nat.le_refl _), Nat.sub_self] at hi
        obtain rfl : s.heap.objs.size = t := Option.some.inj hi
        rw [hl]
        exact ⟨_, _, Array.getElem?_eq_getElem lt, Array.getElem?_eq_getElem (by omega), oth _ _ (big hS) new, big Z.zip, big z1, big z2, big hS⟩
    · obtain ⟨i, hi⟩ := List.mem_iff_getElem?.mp ha
      obtain ⟨x, y, _, _, b3, _⟩ := ht i a hi
      rw [e2, List.mem_singleton.mp hb] at b3
      exact big b3 rfl
    · rcases List.mem_append.mp hm with hm | hm
      · exact low t hm
      · rw [List.mem_singleton.mp hm]
        exact Nat.le_of_lt (Nat.lt_of_le_of_lt hlo (Heap.lt_size Z.zip))
    · obtain ⟨b1, b2, b3, b4⟩ := h00 c hc
      exact a4 c o hc (oth c o b4 (keep c o b1 b2 b3 e))
theorem zip_no_len : typeLookup (.type "zip") "__len__" = pure none := am_miss_of_fast (by decide +kernel)
theorem zip_no_hint : typeLookup (.type "zip") "__length_hint__" = pure none := am_miss_of_fast (by decide +kernel)
theorem hint_zip {z : Addr} {Q : Bool → Shared → Prop} (isZ : s.TypeIs (.ref z) "zip") (h : Q true s) : wpAny (model prog w) A (Builtin.List.listLengthHint (.ref z)) Q E s := by
  unfold Builtin.List.listLengthHint
  refine wpAny_bind (wpAny_specialOf isZ zip_no_len ?_)
  refine wpAny_bind (wpAny_specialOf isZ zip_no_hint ?_)
  exact wpAny_pure h
theorem with_zip {R : Result → Shared → Prop} {z TI TO i1 i2 l1 l2 S lo : Addr} {xs ys : Array Value} {res a b : Value} {c0 : Nat} (free : A.handled = none) (D : ZipApart z TI TO i1 i2 l1 l2) (nS : S ≠ z ∧ S ≠ TI ∧ S ≠ i1 ∧ S ≠ i2 ∧ S ≠ l1 ∧ S ≠ l2 ∧ S ≠ TO)
    (same : xs.size = ys.size) (few : xs.size ≤ 1000) (some1 : 0 < xs.size) (hlo : lo ≤ z ∧ lo ≤ TO ∧ lo ≤ i1 ∧ lo ≤ i2 ∧ lo ≤ S) (hz : IsZip s.heap z TI TO .none) (hTI : IsPair s.heap TI (.ref i1) (.ref i2)) (hTO : IsPair s.heap TO a b)
    (h1 : s.heap.IsTupleIter i1 l1 0) (h2 : s.heap.IsTupleIter i2 l2 0) (hl1 : s.heap.IsTuple l1 xs) (hl2 : s.heap.IsTuple l2 ys) (hS : s.heap.get? S = some { cls := .type "list", dict := none, data := .seq #[] c0, slots := #[] })
    (fin : ∀ h' (ts : List Addr) c1, h'.get? S = some { cls := .type "list", dict := none, data := .seq (ts.map Value.ref).toArray c1, slots := #[] } → ts.length = xs.size → (∀ (i : Nat) (t : Addr), ts[i]? = some t → ∃ x y, xs[i]? = some x ∧ ys[i]? = some y ∧ IsPair h' t x y) → ts.Nodup → (∀ t ∈ ts, lo ≤ t ∧ t ≠ S) →
        (∀ c o, c < lo → s.heap.get? c = some o → h'.get? c = some o) → R (.ok (.ret res)) { s with heap := h' }) :
    wpAny (model prog w) A.in1 (Builtin.List.listExtendWith (.ref S) (.ref z) res)
      (fun fin s' => match fin with | .done f => R (.ok f) s' | .again c' => c'.quiet = true ∧ codeAny (model prog w) A c' R s') (fun e s' => R (.error e) s') s := by
  have isZ : s.TypeIs (.ref z) "zip" := ⟨_, hz, rfl⟩
  unfold Builtin.List.listExtendWith
  refine wpAny_bind (wpAny_typeOf isZ ?_)
  have d1 : Builtin.List.listSameRef (.ref S) (.ref z) = false := by simp [Builtin.List.listSameRef, nS.1]
  have d2 : (Value.type "zip" == Value.type "list") = false := by decide
  have d3 : (Value.type "zip" == Value.type "tuple") = false := by decide
  rw [d1, d2, d3, if_neg (show ¬((false || false || false) = true) from Bool.false_ne_true)]
  refine wpAny_bind (wpAny_pyIter_zip hz ?_)
  refine wpAny_bind (wpAny_holding (hint_zip isZ ?_))
  rw [if_pos (by rfl)]
  refine wpAny_bind (wpAny_rule (wpAny_bind ?_))
  change wpAny _ _ (updateSeq S (·.push .none) >>= fun _ => updateSeq S (·.pop)) _ _ _
  refine wpAny_bind (wpAny_updateSeq hS rfl ?_)
  have g1 := Heap.get?_update_self (Obj.mapSeq (·.push Value.none)) hS rfl
  refine wpAny_updateSeq (hz := by seq_fits) g1 rfl ?_
  have g2 := Heap.get?_update_self (Obj.mapSeq (·.pop)) g1 rfl
  have oth : ∀ c o, c ≠ S → s.heap.get? c = some o → ((s.heap.update S (Obj.mapSeq (·.push Value.none))).update S (Obj.mapSeq (·.pop))).get? c = some o := fun c o n e => (Heap.get?_update_other _ _ (Ne.symm n)).trans ((Heap.get?_update_other _ _ (Ne.symm n)).trans e)
  obtain ⟨c2, g3⟩ : ∃ c2, ((s.heap.update S (Obj.mapSeq (·.push Value.none))).update S (Obj.mapSeq (·.pop))).get? S = some { cls := .type "list", dict := none, data := .seq #[] c2, slots := #[] } := by
    have e := g2
    unfold Obj.mapSeq at e
    dsimp only at e
    rw [Array.pop_push] at e
    exact ⟨_, e⟩
  generalize (s.heap.update S (Obj.mapSeq (·.push Value.none))).update S (Obj.mapSeq (·.pop)) = h4 at g2 g3 oth
  refine wpAny_pure ⟨plainId_quiet F.plain_extend_loop _, ?_⟩
  -- the first pair
  have hz4 : IsZip h4 z TI TO .none := oth _ _ nS.1.symm hz
  have hTI4 : IsPair h4 TI (.ref i1) (.ref i2) := oth _ _ nS.2.1.symm hTI
  have hTO4 : IsPair h4 TO a b := oth _ _ nS.2.2.2.2.2.2.symm hTO
  have h14 : h4.IsTupleIter i1 l1 0 := h1.at fun o e => oth _ o nS.2.2.1.symm e
  have h24 : h4.IsTupleIter i2 l2 0 := h2.at fun o e => oth _ o nS.2.2.2.1.symm e
  have hl14 : h4.IsTuple l1 xs := hl1.at fun o e => oth _ o nS.2.2.2.2.1.symm e
  have hl24 : h4.IsTuple l2 ys := hl2.at fun o e => oth _ o nS.2.2.2.2.2.1.symm e
  refine codeAny_builtin F.entry_extend_loop ?_
  rw [Around.under_plainId F.plain_extend_loop _]
  change wpAny _ A.in1 (pyNext (.ref z) >>= _) _ _ _
  refine wpAny_bind (pyNext_zipT_item (A := A.in1) (s := { s with heap := h4 }) D hz4 hTI4 hTO4 h14 h24 hl14 hl24 (x := xs[0]) (y := ys[0]) (Array.getElem?_eq_getElem some1) (Array.getElem?_eq_getElem (by omega)) fun h5 a1 a2 a3 a4 a5 a6 keep => ?_)
  dsimp only at a1 a5 a6 keep
  have big : ∀ {c o}, h4.get? c = some o → h4.objs.size ≠ c := fun e => Nat.ne_of_gt (Heap.lt_size e)
  obtain ⟨o1, w1, _⟩ := h14
  obtain ⟨o2, w2, _⟩ := h24
  have hS5 := keep S _ nS.1 nS.2.2.2.2.2.2 nS.2.2.1 nS.2.2.2.1 g3
  change wpAny _ A.in1 (updateSeq S (·.push (.ref h4.objs.size)) >>= _) _ _ _
  refine wpAny_bind (wpAny_updateSeq hS5 rfl (wpAny_pure ⟨plainId_quiet F.plain_extend_loop _, ?_⟩) (Nat.zero_le _) (by rw [sizeLine_eq]; exact Nat.le_of_ble_eq_true rfl))
  have at2 := Heap.get?_update_self (Obj.mapSeq (·.push (.ref h4.objs.size))) hS5 rfl
  have oth2 : ∀ c o, c ≠ S → h5.get? c = some o → (h5.update S (Obj.mapSeq (·.push (.ref h4.objs.size)))).get? c = some o := fun c o n e => (Heap.get?_update_other _ _ (Ne.symm n)).trans e
  have nTS : h4.objs.size ≠ S := big g3
  refine extend_zip free D (T := h4.objs.size) ⟨big hz4, big w1, big w2⟩ ⟨nS.1, nS.2.1, nS.2.2.1, nS.2.2.2.1, nS.2.2.2.2.1, nS.2.2.2.2.2.1, nTS.symm⟩ same few lo hlo.1 (fun c => c < lo) (fun c hc => ?_) (xs.size - 1) 1 _ false [h4.objs.size] _ rfl some1
    ⟨oth2 _ _ nS.1.symm a1, ⟨_, oth2 _ _ nTS a5⟩, oth2 _ _ nS.2.1.symm (keep TI _ D.TIz D.TITO D.TIi1 D.TIi2 hTI4), a3.at fun o e => oth2 _ o nS.2.2.1.symm e, a4.at fun o e => oth2 _ o nS.2.2.2.1.symm e, (hl14.at fun o e => keep l1 o D.l1z D.l1TO D.l1i1 D.l1i2 e).at fun o e => oth2 _ o nS.2.2.2.2.1.symm e, (hl24.at fun o e => keep l2 o D.l2z D.l2TO D.l2i1 D.l2i2 e).at fun o e => oth2 _ o nS.2.2.2.2.2.1.symm e⟩
    at2 rfl (fun i t hi => ?_) (List.nodup_cons.mpr ⟨fun z => (by cases z), .nil⟩) (fun t ht => ?_) fun h6 ts c3 b1 b2 b3 b4 b5 b6 => fin h6 ts c3 b1 b2 b3 b4 (fun t ht => ⟨b5 t ht, fun c => ?_⟩) fun c o hc e => ?_
  · exact ⟨fun z => absurd (z ▸ hc) (Nat.not_lt.mpr hlo.1), fun z => absurd (z ▸ hc) (Nat.not_lt.mpr hlo.2.2.1), fun z => absurd (z ▸ hc) (Nat.not_lt.mpr hlo.2.2.2.1), fun z => absurd (z ▸ hc) (Nat.not_lt.mpr hlo.2.2.2.2)⟩
  · have hlt := (List.getElem?_eq_some_iff.mp hi).1
    obtain rfl : i = 0 := Nat.lt_one_iff.mp hlt
    obtain rfl : h4.objs.size = t := Option.some.inj hi
    exact ⟨_, _, Array.getElem?_eq_getElem some1, Array.getElem?_eq_getElem (by omega), oth2 _ _ nTS a5, big hz4, big w1, big w2, nTS⟩
  · rw [List.mem_singleton.mp ht]
    exact Nat.le_of_lt (Nat.lt_of_le_of_lt hlo.1 (Heap.lt_size hz4))
  · obtain ⟨i, hi⟩ := List.mem_iff_getElem?.mp ht
    obtain ⟨x, y, _, _, e⟩ := b3 i t hi
    rw [c] at e
    have z := congrArg (Option.map Obj.cls) (b1.symm.trans e)
    simp at z
  · have n1 : c ≠ S := fun z => absurd (z ▸ hc) (Nat.not_lt.mpr hlo.2.2.2.2)
    exact b6 c o hc (oth2 c o n1 (keep c o (fun z => absurd (z ▸ hc) (Nat.not_lt.mpr hlo.1)) (fun z => absurd (z ▸ hc) (Nat.not_lt.mpr hlo.2.1)) (fun z => absurd (z ▸ hc) (Nat.not_lt.mpr hlo.2.2.1)) (fun z => absurd (z ▸ hc) (Nat.not_lt.mpr hlo.2.2.2.1)) (oth c o n1 e)))
theorem list_of_zip {z TI TO i1 i2 l1 l2 lo : Addr} {xs ys : Array Value} {a b : Value} {Q : Value → Shared → Prop} (free : A.handled = none) (D : ZipApart z TI TO i1 i2 l1 l2) (same : xs.size = ys.size) (few : xs.size ≤ 1000) (some1 : 0 < xs.size)
    (hlo : lo ≤ z ∧ lo ≤ TO ∧ lo ≤ i1 ∧ lo ≤ i2) (hz : IsZip s.heap z TI TO .none) (hTI : IsPair s.heap TI (.ref i1) (.ref i2)) (hTO : IsPair s.heap TO a b) (h1 : s.heap.IsTupleIter i1 l1 0) (h2 : s.heap.IsTupleIter i2 l2 0) (hl1 : s.heap.IsTuple l1 xs) (hl2 : s.heap.IsTuple l2 ys)
    (fin : ∀ h' (ts : List Addr) c1, h'.get? s.heap.objs.size = some { cls := .type "list", dict := none, data := .seq (ts.map Value.ref).toArray c1, slots := #[] } → ts.length = xs.size → (∀ (i : Nat) (t : Addr), ts[i]? = some t → ∃ x y, xs[i]? = some x ∧ ys[i]? = some y ∧ IsPair h' t x y) → ts.Nodup → (∀ t ∈ ts, lo ≤ t ∧ t ≠ s.heap.objs.size) →
        (∀ c o, c < lo → s.heap.get? c = some o → h'.get? c = some o) → Q (.ref s.heap.objs.size) { s with heap := h' }) :
    wpAny (model prog w) A (call (.type "list") [.ref z]) Q E s := by
  refine callType_codes (Q₁ := fun o s1 => o = .ref s.heap.objs.size ∧ s1 = { s with heap := s.heap.push { cls := .type "list", data := .seq #[] } }) F.called_list (F.typeCall_list_1 _) F.entry_list_init (code_list_new _ ⟨rfl, rfl⟩) fun o s1 e => ?_
  obtain ⟨rfl, rfl⟩ := e
  have new : (s.heap.push { cls := .type "list", data := .seq #[] }).get? s.heap.objs.size = some { cls := .type "list", dict := none, data := .seq #[], slots := #[] } := Heap.get?_push_size _ rfl
  refine ⟨⟨_, new, rfl⟩, F.args_list_init_2 _ _, ?_⟩
  change wpAny _ _ (Builtin.List.listItems (.ref s.heap.objs.size) >>= fun old => Builtin.List.listUpdate (.ref s.heap.objs.size) (fun _ => #[]) >>= fun _ => letGo old.toList.reverse >>= fun _ => Builtin.List.listExtendWith (.ref s.heap.objs.size) (.ref z) .none) _ _ _
  unfold Builtin.List.listItems
  refine wpAny_bind (wpAny_bind (wpAny_seqItems new rfl (wpAny_pure ?_)))
  change wpAny _ _ (updateSeq s.heap.objs.size (fun _ => #[]) >>= _) _ _ _
  refine wpAny_bind (wpAny_updateSeq new rfl ?_)
  have g2 := Heap.get?_update_self (Obj.mapSeq (fun _ => (#[] : Array Value))) new rfl
  have up : ∀ c o, s.heap.get? c = some o → ((s.heap.push { cls := .type "list", data := .seq #[] }).update s.heap.objs.size (Obj.mapSeq (fun _ => (#[] : Array Value)))).get? c = some o := fun c o e => (Heap.get?_update_other _ _ (Nat.ne_of_gt (Heap.lt_size e))).trans (Heap.get?_push_of_some _ e)
  have big : ∀ {c o}, s.heap.get? c = some o → s.heap.objs.size ≠ c := fun e => Nat.ne_of_gt (Heap.lt_size e)
  obtain ⟨o1, w1, r1⟩ := h1
  obtain ⟨o2, w2, r2⟩ := h2
  obtain ⟨o3, w3, r3⟩ := hl1
  obtain ⟨o4, w4, r4⟩ := hl2
  refine wpAny_bind (wpAny_letGo (with_zip (A := A.in1) (S := s.heap.objs.size) (lo := lo) free D ⟨big hz, big hTI, big w1, big w2, big w3, big w4, big hTO⟩ same few some1 ⟨hlo.1, hlo.2.1, hlo.2.2.1, hlo.2.2.2, Nat.le_of_lt (Nat.lt_of_le_of_lt hlo.1 (Heap.lt_size hz))⟩ (up _ _ hz) (up _ _ hTI) (up _ _ hTO) ⟨o1, up _ _ w1, r1⟩ ⟨o2, up _ _ w2, r2⟩ ⟨o3, up _ _ w3, r3⟩ ⟨o4, up _ _ w4, r4⟩ g2
    fun h' ts c1 b1 b2 b3 b4 b5 b6 => ⟨rfl, fin h' ts c1 b1 b2 b3 b4 b5 fun c o hc e => b6 c o hc (up c o e)⟩))
end
end PlayL
set_option Elab.async false
set_option linter.all false
set_option maxRecDepth 100000
set_option maxHeartbeats 1000000
namespace L2
open PySem PySem.Spec PyProof.Rows RZ
/-- list(zip(a, b)), two tuples of one length, not empty: a new list of new pairs -/
def tListZip (K : PySem.W.Frag) (ta : TA) : TE := fun σ H Q => ta σ H fun vs H1 => ∃ a b xs ys, vs = [.ref a, .ref b] ∧ SqT K H1 a xs ∧ SqT K H1 b ys ∧ xs.length = ys.length ∧ 0 < xs.length ∧ xs.length ≤ 1000 ∧
  ∀ H2 p (ts : List Addr), Same H1 H2 → H1 p = none → H2 p = some (.lst (ts.map V.ref)) → Paired (fun t (q : V × V) => H2 t = some (.tup [q.1, q.2])) ts (xs.zip ys) → Q (.ref p) H2
theorem paired_of_ix {α β : Type} {F : α → β → Prop} : ∀ {xs : List α} {ys : List β}, xs.length = ys.length → (∀ (i : Nat) a b, xs[i]? = some a → ys[i]? = some b → F a b) → Paired F xs ys
  | [], [], _, _ => .nil
  | [], _ :: _, h, _ => by cases h
  | _ :: _, [], h, _ => by cases h
  | a :: xs, b :: ys, h, f => .cons (f 0 a b rfl rfl) (paired_of_ix (Nat.succ.inj h) fun i x y hx hy => f (i + 1) x y hx hy)
section
variable {X : Cx}
theorem pe_listZip {e1 e2 : Expr} {ta : TA} {p p2 q pos : Pos} (hc : X.calm = true) (hg : Gl X "list") (hm : X.mg "list" = none) (hg2 : Gl X "zip") (hm2 : X.mg "zip" = none) (ha : PA X [e1, e2] ta)
    (hs : starEach [e1, e2] X.env = (false, eval e1 X.env) :: starEach [e2] X.env := by rfl) (hpl : (backTo q (starEach [e2] X.env)).any (·.1) = false := by rfl)
    (na : starEach [.Call (.Name "zip" p2) [e1, e2] [] q] X.env = (false, eval (.Call (.Name "zip" p2) [e1, e2] [] q) X.env) :: starEach [] X.env := by rfl) :
    PE X (.Call (.Name "list" p) [.Call (.Name "zip" p2) [e1, e2] [] q] [] pos) (tListZip X.K ta) := by
  refine ⟨fun pins s σ H Q I h => ?_⟩
  refine Call_ (ld_blt I hg hm boot_list ?_)
  refine callWith_type1 (args_cons ?_ na) na rfl
  refine Call_ (ld_blt I hg2 hm2 boot_zip ?_)
  refine callWith_type1 ?_ hs hpl
  refine thn (ha.run q pins s σ H _ I h) fun us s1 ⟨vs, H1, I1, r1, q1⟩ => ?_
  obtain ⟨a, b, xs, ys, rfl, hx, hy, same, pos1, few, q1⟩ := q1
  obtain ⟨u1, us, rfl, ra, rr⟩ : ∃ u1 us', us = u1 :: us' ∧ RelV (.ref a) u1 ∧ Vals [.ref b] us' := by
    cases r1 with
    | cons r rr => exact ⟨_, _, rfl, r, rr⟩
  obtain ⟨u2, rfl, rb⟩ := vals1 rr
  obtain rfl : u1 = .ref a := ra
  obtain rfl : u2 = .ref b := rb
  obtain ⟨its, rv, p1, _⟩ := I1.tuple hx
  obtain ⟨its2, rv2, p2, _⟩ := I1.tuple hy
  obtain ⟨o1, ho1, t1⟩ := id p1
  obtain ⟨o2, ho2, t2⟩ := id p2
  have l1 := rv.length
  have l2 := rv2.length
  refine call_zipT (show s1.heap.IsTuple a its.toArray from p1) (show s1.heap.IsTuple b its2.toArray from p2) fun h' hz hTI hTO h1 h2 hsz hk => args_nil ?_
  have D := PySem.W.ktu_apart s1.heap.objs.size a b (Heap.lt_size ho1) (Heap.lt_size ho2)
  refine PlayL.list_of_zip (s := { s1 with heap := h' }) (lo := s1.heap.objs.size) (I1.ok.hd hc) D (xs := its.toArray) (ys := its2.toArray) (by rw [List.size_toArray, List.size_toArray]; omega) (by rw [List.size_toArray]; omega) (by rw [List.size_toArray]; omega) ⟨Nat.le_add_right _ _, Nat.le_add_right _ _, Nat.le_refl _, Nat.le_add_right _ _⟩ hz hTI hTO h1 h2 ⟨o1, hk _ _ ho1, t1⟩ ⟨o2, hk _ _ ho2, t2⟩ fun h3 ts c1 e1 e2 e3 e4 e5 e6 => ?_
  have keep : ∀ c o, s1.heap.get? c = some o → h3.get? c = some o := fun c o e => e6 c o (Heap.lt_size e) (hk c o e)
  have low : s1.heap.objs.size ≤ h'.objs.size := by rw [hsz]; exact Nat.le_add_right _ _
  have few2 : ts.length ≤ 1000 := by rw [e2, List.size_toArray]; omega
  have I2 : Inv X pins σ (upd H1 h'.objs.size (.lst (ts.map V.ref))) { s1 with heap := h3, toks := s1.toks } := I1.laid keep low ⟨by rw [List.length_map, sizeLine_eq]; omega, ts.map Value.ref, c1, LiI.vals_refs ts, e1⟩
  have f0 : H1 h'.objs.size = none := I1.hok.fresh low
  obtain ⟨H2, I3, g, qt⟩ := DX.takeT (P := fun t vs => ∃ (i : Nat) (x y : V), ts[i]? = some t ∧ xs[i]? = some x ∧ ys[i]? = some y ∧ vs = [x, y]) I1 ts _ I2 e4 fun t ht => by
    obtain ⟨lo, ne⟩ := e5 t ht
    obtain ⟨i, hi⟩ := List.mem_iff_getElem?.mp ht
    obtain ⟨u1, u2, w1, w2, pr⟩ := e3 i t hi
    have hlt : i < its.length := by
      have := (List.getElem?_eq_some_iff.mp hi).1
      rw [e2, List.size_toArray] at this
      exact this
    obtain ⟨x, hx1⟩ : ∃ x, xs[i]? = some x := ⟨_, List.getElem?_eq_getElem (by omega)⟩
    obtain ⟨y, hy1⟩ : ∃ y, ys[i]? = some y := ⟨_, List.getElem?_eq_getElem (by omega)⟩
    obtain ⟨v1, a1, r1⟩ := L2.paired_get rv hx1
    obtain ⟨v2, a2, r2⟩ := L2.paired_get rv2 hy1
    rw [List.getElem?_toArray, a1] at w1
    rw [List.getElem?_toArray, a2] at w2
    obtain rfl := Option.some.inj w1
    obtain rfl := Option.some.inj w2
    exact ⟨lo, by rw [upd_ne ne]; exact I1.hok.fresh lo, [x, y], ⟨i, x, y, hi, hx1, hy1, rfl⟩, fun H2 => ⟨by show 2 ≤ sizeLine; decide, [v1, v2], .cons r1 (.cons r2 .nil), ⟨_, pr, rfl, _, rfl⟩⟩⟩
  refine ⟨.ref h'.objs.size, H2, I3, rfl, q1 H2 h'.objs.size ts (fun c o e => g c o ((upd_ne (ne_of_none e f0)).trans e)) f0 (g _ _ upd_same) ?_⟩
  refine paired_of_ix (by rw [List.length_zip, e2, List.size_toArray]; omega) fun i t p hi hp => ?_
  obtain ⟨vs, ⟨j, x, y, b1, b2, b3, rfl⟩, b4⟩ := qt t (List.mem_of_getElem? hi)
  obtain rfl : i = j := (List.getElem?_inj (List.getElem?_eq_some_iff.mp hi).1 e4).mp (hi.trans b1.symm)
  have z := List.getElem?_zip_eq_some.mp hp
  rw [b2, b3] at z
  obtain rfl := Option.some.inj z.1
  obtain rfl := Option.some.inj z.2
  exact b4
end
end L2
set_option Elab.async false
set_option linter.all false
set_option maxRecDepth 100000
set_option maxHeartbeats 2000000
namespace PlayL
open PySem PySem.Spec PyProof.Rows L2
section
variable {prog : Program} {w : World} {A : Around} {E : Value → Shared → Prop} {s : Shared} {T : String} {r d : Addr} {n : Nat} {P : Nat → Value → Prop} {OK : Heap → Prop}
/-- what a walk gives, gathered -/
theorem gather {Q : List Value → Shared → Prop} (K : W.KdlSrc prog w T r d n P OK) (free : A.handled = none) (ok : OK s.heap) (hn : n ≤ sizeLine)
    (q : ∀ (h' : Heap) (tk : Nat) (acc : Array Value), (∀ b o, s.heap.get? b = some o → h'.get? b = some o) → ItemsOf P acc n → Q acc.toList { s with heap := h', toks := tk }) : wpAny (model prog w) A (collect (.ref r)) Q E s := by
  unfold collect
  refine wpAny_bind (wpAny_runValue (codeAny_builtin F.entry_proto_collect ?_))
  rw [Around.under_plainId F.plain_proto_collect _]
  change wpAny _ A.in1 (newList [] >>= fun l => again (Code.builtin "list.__iadd__" ⟨[l, .ref r], []⟩)) _ _ s
  refine wpAny_bind (wpAny_newObj_type (wpAny_pure ⟨plainId_quiet F.plain_list_iadd _, codeAny_builtin F.entry_list_iadd ?_⟩))
  rw [Around.under_plainId F.plain_list_iadd _]
  change wpAny _ A.in1 (Builtin.List.listExtendWith (.ref s.heap.objs.size) (.ref r) (.ref s.heap.objs.size)) _ _ _
  have new : (s.heap.push { cls := .type "list", data := .seq ([] : List Value).toArray }).get? s.heap.objs.size = some { cls := .type "list", data := .seq #[] 0 } := Heap.get?_push_size _ rfl
  have lt := K.there _ ok
  refine wpAny_mono (W.kdl_extend (A := A) (R := fun rr s' => rr = .ok (.ret (.ref s.heap.objs.size)) ∧ ∃ (h' : Heap) (tk : Nat) (acc : Array Value) (c : Nat), s' = { s with heap := h', toks := tk } ∧ (∀ b o, s.heap.get? b = some o → h'.get? b = some o) ∧ h'.get? s.heap.objs.size = some { cls := .type "list", dict := none, data := .seq acc c, slots := #[] } ∧ ItemsOf P acc n)
    (s := { s with heap := s.heap.push { cls := .type "list", data := .seq ([] : List Value).toArray } }) K free (K.keep _ _ ok fun b _ o e => Heap.get?_push_of_some _ e) _ (Nat.ne_of_gt lt.1) (Nat.ne_of_gt lt.2) _ 0 new
    (fun h' tk acc c k e it => ⟨rfl, h', tk, acc, c, rfl, fun b o z => k b o (Nat.ne_of_lt (Heap.lt_size z)) (Heap.get?_push_of_some _ z), e, it⟩) hn) (fun f s' h => ?_) (fun e s' h => (nomatch h.1))
  match f, h with
  | .done f, ⟨e, h', tk, acc, c, e2, k, at_, it⟩ =>
    cases e
    cases e2
    change wpAny _ A (load s.heap.objs.size >>= _) _ _ _
    exact wpAny_bind (wpAny_load at_ (wpAny_pure (q h' tk acc k it)))
  | .again c', ⟨quiet, h⟩ =>
    refine ⟨quiet, codeAny_mono h fun rr s2 h2 => ?_⟩
    obtain ⟨rfl, h', tk, acc, c, rfl, k, at_, it⟩ := h2
    change wpAny _ A (load s.heap.objs.size >>= _) _ _ _
    exact wpAny_bind (wpAny_load at_ (wpAny_pure (q h' tk acc k it)))
theorem tuple_of_dict {Q : Value → Shared → Prop} (K : W.KdlSrc prog w "dict" d d n P OK) (free : A.handled = none) (ok : OK s.heap) (hn : n ≤ sizeLine)
    (q : ∀ (h' : Heap) (tk : Nat) (acc : Array Value), (∀ b o, s.heap.get? b = some o → h'.get? b = some o) → ItemsOf P acc n → Q (.ref h'.objs.size) { s with heap := h'.push { cls := .type "tuple", data := .seq acc }, toks := tk }) :
    wpAny (model prog w) A (call (.type "tuple") [.ref d]) Q E s := by
  refine callType_codes (Q₁ := fun o s1 => s1.TypeIs o "tuple" ∧ Q o s1) F.called_tuple (F.typeCall_tuple_1 _) F.entry_object_init (codeAny_of_tree ?_) fun o s1 h1 => ⟨h1.1, F.args_object_init_2 o _, object_init_meets F.called_tuple.init.lookup F.called_tuple.made (by decide) prog w A.in1 _ s1 ⟨h1.1, rfl, h1.2⟩⟩
  change wpAny _ A.in1.in1 (checkBuiltinCall "tuple.__new__" ⟨[.type "tuple", .ref d], []⟩ >>= fun _ => again (Code.builtin "tuple.__new__" ⟨[.type "tuple", .ref d], []⟩)) _ _ s
  refine wpAny_bind (wpAny_of_eq (F.newCall_tuple_1 _) (wpAny_pure ⟨plainId_quiet F.plain_tuple_new _, codeAny_builtin F.entry_tuple_new ?_⟩))
  rw [Around.under_plainId F.plain_tuple_new _]
  have f1 := sub_tuple_self
  have f2 := init_tuple_lookup
  have f3 := madeHere_tuple
  have isD := K.type s ok
  have free2 : A.in1.in1.handled = none := free
  wp_walk using wpAny_typeOf isD, gather K free2 ok hn
  intro h' tk acc keep it
  change wpAny _ _ (Builtin.Tuple.tupleExact acc.toList.toArray >>= fun v => ret v) _ _ _
  unfold Builtin.Tuple.tupleExact
  rw [Array.toArray_toList]
  refine wpAny_bind (wpAny_newObj_type (wpAny_pure ?_) (by show acc.size ≤ sizeLine; rw [it.1]; exact hn))
  exact ⟨⟨_, Heap.get?_push_size _ rfl, rfl⟩, q h' tk acc keep it⟩
end
end PlayL
namespace L2
open PySem PySem.Spec PyProof.Rows
section
variable {X : Cx}
/-- tuple(d): its keys -/
def rTupD : List V → Hp → VK → Prop := fun xs H Q => ∃ (a : Addr) (kvs : List (Key × V)), xs = [.ref a] ∧ Rd H a (.dK kvs) ∧ ∀ p, H p = none → Q (.ref p) (upd H p (.tup (kvs.map fun kv => kV kv.1)))
theorem call_tupD (hc : X.calm = true) : CallR X (.type "tuple") rTupD := by
  intro pins s σ H xs us Q I r q
  obtain ⟨a, kvs, rfl, hd, q⟩ := q
  obtain ⟨u, rfl, rx⟩ := vals1 r
  obtain rfl : u = .ref a := rx
  obtain ⟨z, lo, vs, rel, dd⟩ := dk_rd I.hok hd
  obtain ⟨ep, hat⟩ := dd.dictAt
  have ek : (kvs.map fun kv => kV kv.1) = vs.map fun p => kV p.1 := by
    have e := congrArg (List.map kV) rel.keys
    rwa [List.map_map, List.map_map] at e
  refine PlayL.tuple_of_dict (PySem.W.kdl_dict (knd := mixKind X.prog X.w) (kvs := vs) (ep := ep) lo) (I.ok.hd hc) hat (rel.length ▸ z) fun h' tk acc keep it => ?_
  have hv : Vals (vs.map fun p => kV p.1) acc.toList := keys_at (by rw [Array.length_toList]; exact it.1) fun j v e => it.2 j v (by rw [← Array.getElem?_toList]; exact e)
  have I1 : Inv X pins σ H { s with heap := h', toks := tk } := I.kept keep
  have f0 := I1.hok.fresh (Nat.le_refl h'.objs.size)
  refine ⟨.ref h'.objs.size, upd H h'.objs.size (.tup (kvs.map fun kv => kV kv.1)), I1.laid (t' := tk) (fun b o e => Heap.get?_push_of_some _ e) (Nat.le_refl _) ?_, rfl, q _ f0⟩
  exact ⟨by rw [List.length_map]; exact z, acc.toList, by rw [ek]; exact hv, _, Heap.get?_push_size _ rfl, rfl, 0, by rw [Array.toArray_toList]⟩
/-- the view d.values() at p -/
def valuesO (p d : Addr) : HO := .ext fun h => h.IsValuesView p d
/-- d.values() -/
def rVals : V → List V → Hp → VK → Prop := fun x xs H Q => ∃ (a : Addr) (kvs : List (Key × V)), x = .ref a ∧ xs = [] ∧ H a = some (.dK kvs) ∧ ∀ p, H p = none → Q (.ref p) (upd H p (valuesO p a))
theorem mt_values : MtR X "dict.values" rVals := by
  intro pins s σ H x xs v us Q I rx rxs h
  obtain ⟨a, kvs, rfl, rfl, ha, q⟩ := h
  obtain rfl : v = .ref a := rx
  cases rxs
  obtain ⟨z, lo, vs, rel, dd⟩ := dk_of I.hok ha
  refine call_meetsIn PySem.F.slot_dict_values dd.typeIs PySem.F.entry_dict_values (PySem.F.args_dict_values_1 _) (meets_dict_values (mixKind X.prog X.w) a lo) ⟨⟨vs, dd⟩, ?_⟩
  have f0 := I.hok.fresh (Nat.le_refl s.heap.objs.size)
  have at_ : (s.heap.push { cls := .type "dict_values", data := .fields #[.ref a] }).get? s.heap.objs.size = some { cls := .type "dict_values", data := .fields #[.ref a] } := Heap.get?_push_size _ rfl
  exact ⟨.ref s.heap.objs.size, upd H s.heap.objs.size (valuesO s.heap.objs.size a), I.laid (t' := s.toks) (fun b o e => Heap.get?_push_of_some _ e) (Nat.le_refl _) ⟨⟨_, at_, rfl, rfl⟩, ⟨_, at_⟩, fun h1 h2 ⟨o, ho, r⟩ k => ⟨o, k o ho, r⟩⟩, rfl, q _ f0⟩
/-- list(d.values()) -/
def rListV : List V → Hp → VK → Prop := fun xs H Q => ∃ (p a : Addr) (kvs : List (Key × V)), xs = [.ref p] ∧ H p = some (valuesO p a) ∧ H a = some (.dK kvs) ∧ ∀ q, H q = none → Q (.ref q) (upd H q (.lst (kvs.map (·.2))))
theorem call_listV (hc : X.calm = true) : CallR X (.type "list") rListV := by
  intro pins s σ H xs us Q I r q
  obtain ⟨p, a, kvs, rfl, hp, ha, q⟩ := q
  obtain ⟨u, rfl, rx⟩ := vals1 r
  obtain rfl : u = .ref p := rx
  obtain ⟨z, lo, vs, rel, dd⟩ := dk_of I.hok ha
  obtain ⟨ep, hat⟩ := dd.dictAt
  have hv : s.heap.IsValuesView p a := (I.hok p _ hp).1
  refine PySem.W.kdl_call (PySem.W.kdl_values (knd := mixKind X.prog X.w) (kvs := vs) (ep := ep)) (I.ok.hd hc) ⟨hv, hat⟩ (rel.length ▸ z) fun h' tk acc c' keep at_ it => ?_
  have len : acc.toList.length = kvs.length := by rw [Array.length_toList, it.1, rel.length]
  have vals : Vals (kvs.map (·.2)) acc.toList := paired_of_ix (by rw [List.length_map, len]) fun i x y hx hy => by
    rw [List.getElem?_map] at hx
    cases e : kvs[i]? with
    | none =>
      rw [e] at hx
      cases hx
    | some kv =>
      rw [e] at hx
      obtain rfl := Option.some.inj hx
      obtain ⟨k, w1⟩ := it.2 i y (by rw [← Array.getElem?_toList]; exact hy)
      obtain ⟨q1, w2, w3⟩ := L2.paired_get rel e
      rw [w1] at w2
      obtain rfl := Option.some.inj w2
      exact w3.2
  refine ⟨.ref s.heap.objs.size, upd H s.heap.objs.size (.lst (kvs.map (·.2))), I.laid (t' := tk) keep (Nat.le_refl _) ⟨by rw [List.length_map]; exact z, acc.toList, c', vals, by rw [Array.toArray_toList]; exact at_⟩, rfl, q _ (I.hok.fresh (Nat.le_refl _))⟩
end
end L2
set_option Elab.async false
set_option linter.all false
set_option maxRecDepth 100000
set_option maxHeartbeats 1000000
namespace L2
open PySem PySem.Spec PyProof.Rows
section
variable {X : Cx}
/-- {(.., ..): v}, a dict of one entry whose key is a tuple -/
def tDispT (tk tv : TE) : TE := fun σ H Q => ∀ p, H p = none → tk σ (upd H p (.dT [])) fun kx H1 => tv σ H1 fun vx H2 => H2 p = some (.dT []) ∧ ∃ b k, kx = .ref b ∧ H2 b = some (.tup (k.map kV)) ∧ Q (.ref p) (upd H2 p (.dT [(k, vx)]))
theorem pe_dispT {ke ve : Expr} {tk tv : TE} {pos : Pos} (hu : X.A.units + 1 < cLine) (hk : PE X ke tk) (hv : PE X ve tv) : PE X (.Dict [some ke] [ve] pos) (tDispT tk tv) := by
  refine ⟨fun pins s σ H Q I q => ?_⟩
  have f0 := I.hok.fresh (Nat.le_refl s.heap.objs.size)
  have I1 := I.laid (a := s.heap.objs.size) (o := .dT []) (h' := s.heap.push { cls := .type "dict", data := .dict #[] }) (t' := s.toks) (fun _ _ q => Heap.get?_push_of_some _ q) (Nat.le_refl _) (dt_empty s.heap I.big)
  have shape := zip_pairTrees [some ke] [ve] X.env pos rfl rfl
  have len := pairTrees_length [some ke] [ve] X.env pos rfl rfl
  rw [arm_eval_Dict, shape, dictDisplay_pairs _ (fun z => by rw [z] at len; cases len) (len ▸ (by decide : (1 : Nat) < 17))]
  refine wpAny_bind (wpAny_standAt (wpAny_bind ?_))
  unfold subDict
  refine wpAny_bind (wpAny_alloc (wpAny_bind (wpAny_holding ?_)))
  rw [if_pos (len ▸ (by decide : (1 : Nat) ≤ 15))]
  refine wpAny_bind (pairTrees_cons_walk (thn (hk.run pins _ σ _ _ I1 (q _ f0)) fun kv s1 ⟨kx, H1, I1, rk, q1⟩ => thn (hv.run pins s1 σ H1 _ I1 q1) fun vv s2 ⟨vx, H2, I2, rv, at_, b, k, ek, hb, q2⟩ => pairTrees_nil_walk ?_))
  subst ek
  obtain rfl : kv = .ref b := rk
  refine wpAny_holding ?_
  rw [List.forIn_cons]
  refine wpAny_bind (wpAny_bind (wpAny_bind ?_))
  obtain ⟨z, hd, xs, rel, dd⟩ := dt_of I2.hok at_
  have hz : xs.length ≤ sizeLine := by
    have := Paired.length rel
    rw [← this]
    exact Nat.zero_le _
  refine wpAny_dictSet_heap (hsz := hz) (knd := tupleKind (mixKind X.prog X.w)) (Nat.lt_of_succ_lt hu) (key_of I2.hok hb) dd fun h' dd' hs => wpAny_pure ?_
  dsimp only
  rw [List.forIn_nil]
  refine wpAny_pure (wpAny_pure (wpAny_pure (wpAny_pure ⟨.ref s.heap.objs.size, _, ?_, rfl, q2⟩)))
  obtain ⟨o, es, ep, ho, h2, h3, h4, _, h5⟩ := dd'
  refine d_write I2 (by rw [at_]; exact True.intro) hs ⟨o, ho⟩ ⟨by show 1 ≤ sizeLine; decide, hd, _, (rel.put k hb rv).keeps fun c ys ec => ?_, o, es, ep, ho, h2, h3, h4, h5⟩
  rw [upd_ne (ne_of ec at_ (fun z => nomatch z))]
  exact ec
end
end L2
set_option Elab.async false
set_option linter.all false
set_option maxRecDepth 100000
set_option maxHeartbeats 2000000
namespace L2
namespace Pl
open PySem PySem.Spec PyProof.Rows
section
variable {P : Program} {w : World} {K : PySem.W.Frag} {mg : Str → Option Value} {base : Heap}
/-- a def without defaults, called by position and by keyword -/
theorem kbn_of {x qual : Str} {params : Arguments} {body : List Stmt} {scope : Scope} {f : Addr} {fd : FuncData} {ps : List Str} (F : FunD K x qual params body scope [] [] f fd) (n : Nat) (ks : List Str)
    (h : ∀ (kV doc pm : Value) (an : Option Addr) (cdv ct : Value) (us ws : List Value), us.length = n → ws.length = ks.length → bindArgs (PySem.W.fnOf x qual params body scope .none kV doc pm an cdv ct) ⟨us, ks.zip ws⟩ = pure (ps.zip (us ++ ws))) :
    KBn K fd ps n ks (fun us ws => us ++ ws) (fun vs zs => vs ++ zs) := by
  obtain ⟨oc, od, dV, kV, doc, pm, an, cdv, ct, osl, rfl, _, _, hD, _⟩ := F.ex
  rcases hD with ⟨_, rfl⟩ | ⟨e, _⟩
  · exact ⟨fun s us ws _ h1 h2 => .of_eq (h kV doc pm an cdv ct us ws h1 h2), fun r1 r2 => r1.append r2⟩
  · exact absurd rfl e
/-- the whole of such an __init__ -/
theorem ini_ok {qual f : Str} {params : Arguments} {scope : Scope} {C fI : Addr} {fd : FuncData} {q1 q2 q3 q4 : Pos} (F : FunD K "__init__" qual params [.Assign [.Attribute (.Name "self" q1) f q2] (.Name f q3) q4] scope [] [] fI fd) (S : FnScope ["self", f] ["self", f] scope)
    (v1 : scope.names.lookup ("self" : Str) = some NameKind.local) (v2 : scope.names.lookup f = some NameKind.local) (d1 : (f == ("__debug__" : Str)) = false) (d2 : (f == ("__classdict__" : Str)) = false) (T : OexC K C) (nf : PySem.W.findIn K (.ref C) f = some none) : FnOk P w K mg base CX0 1 fI fd ["self", f] (spIni C f) := by
  refine F.ok S (fun vs H Q E h => ?_) (fun cdv A outer s H vs Q E hr h => ?_)
  · obtain ⟨_, _, rfl, _⟩ := h
    rfl
  · obtain ⟨a, v, rfl, ha, q⟩ := h
    refine ⟨_, PSs.nox (pss_one (ps_ost (pe_var (i := 0) rfl (.inl v1)) (pe_var (i := 1) rfl (.inl v2) d1 d2))), ?_⟩
    exact ⟨_, rfl, _, rfl, a, C, rfl, T, nf, .inl ⟨ha, fun d hd hne => q d hd hne⟩⟩
end
end Pl
end L2
namespace L2
namespace Pl
open PySem PySem.Spec PyProof.Rows
/-- an own error class x, made by place, its field f -/
structure RaF (P : Program) (w : World) (K : PySem.W.Frag) (mg : Str → Option Value) (base : Heap) (x f : Str) (C : Addr) : Prop where
  o : OexC K C
  xf : XfC K C
  nf : PySem.W.findIn K (.ref C) f = some none
  g : mg x = some (.ref C)
  ini : ∃ fI fd, PySem.W.findIn K (.ref C) "__init__" = some (some (.ref fI)) ∧ PySem.W.typeIn K (.ref fI) = some (.type "function") ∧ FnOk P w K mg base CX0 1 fI fd ["self", f] (spIni C f) ∧ L2.Binds K fd ["self", f] []
theorem raised_heap {H : Hp} {a d C : Addr} {f : Str} {v : V} (h : H a = none) (n : d ≠ a) : upd (del (exH (upd H a (exo a C none)) a d C f v) a) d (.xd [(f, v)]) = upd H d (.xd [(f, v)]) := by
  funext b
  by_cases hd : b = d
  · rw [hd, upd_same, upd_same]
  · rw [upd_ne hd, upd_ne hd]
    by_cases ha : b = a
    · rw [ha, del_same, h]
    · rw [del_ne ha]
      unfold exH
      simp only [upd, ha, hd, if_false]
end Pl
end L2
set_option Elab.async false
set_option linter.all false
set_option maxRecDepth 100000
set_option maxHeartbeats 1000000
/-! a dict that is made where it is walked over -/
namespace L2
open PySem PySem.Spec PyProof.Rows
/-- e, a dict, shut from here on -/
def tShut (td : TE) : TE := fun σ H Q => td σ H fun x H1 => ∃ d kvs, x = .ref d ∧ H1 d = some (.dK kvs) ∧ ∀ o, Q (.ref d) (upd H1 d (.frz o (.dK kvs)))
theorem pe_shut {X : Cx} {e : Expr} {td : TE} (he : PE X e td) : PE X e (tShut td) := by
  refine ⟨fun pins s σ H Q I q => wpAny_mono (he.run pins s σ H _ I q) (fun v s1 ⟨x, H1, I1, rv, d, kvs, ex, hd, k⟩ => ?_) fun _ _ z => z⟩
  obtain ⟨od, I2⟩ := I1.lock hd True.intro
  subst ex
  exact ⟨.ref d, _, I2, rv, k od⟩
end L2
set_option Elab.async false
set_option linter.all false
set_option maxRecDepth 100000
set_option maxHeartbeats 2000000
/-! texts beside dicts; whether any value stands in a row of texts -/
namespace PlayL
open PySem PySem.SeqAt PySem.MeetsSeq PySem.AutoSeq1
section
variable {A : Around} {s : Shared}
theorem str_declines_dict (b : Str) (u : Tok) (o : Obj) (l : Addr) (ho : o.cls = .type "dict") {es : Array DictEntry} {ep : Nat} (hd : o.data = .dict es ep) :
    Meets (Builtin.«str.__eq__» ⟨[.str b u, .ref l], []⟩) (fun _ R s => s.heap.get? l = some o ∧ R (.ok (.ret .notImplemented)) s) := by
  obtain ⟨cls, dd, data, sl⟩ := o
  dsimp only at ho hd
  subst ho hd
  exact .of_wp fun prog w A R s h => by
    obtain ⟨hp, g, d, tk, os⟩ := s
    obtain ⟨hl, h⟩ := h
    wp_walk using wpAny_loadPart' hl, wpAny_load hl
    exact ⟨_, rfl, h⟩
theorem dict_declines_str (l : Addr) (o : Obj) (b : Str) (u : Tok) (ho : o.cls = .type "dict") :
    Meets (Builtin.«dict.__eq__» ⟨[.ref l, .str b u], []⟩) (fun _ R s => s.heap.get? l = some o ∧ R (.ok (.ret .notImplemented)) s) := by
  obtain ⟨cls, dd, data, sl⟩ := o
  dsimp only at ho
  subst ho
  exact .of_wp fun prog w A R s h => by
    obtain ⟨hp, g, d, tk, os⟩ := s
    obtain ⟨hl, h⟩ := h
    have f1 := F.sub_str_dict
    wp_walk using wpAny_loadPart' hl, wpAny_load hl
    exact ⟨_, rfl, h⟩
theorem eq_str_dict {l : Addr} {o : Obj} (b : Str) (u : Tok) (hl : s.heap.get? l = some o) (hc : o.cls = .type "dict") {es : Array DictEntry} {ep : Nat} (hd : o.data = .dict es ep) (hu : A.units < cLine) : EqAt A s (.str b u) (.ref l) false := fun prog w E Q h => by
  unfold eqBool
  refine wpAny_holding ?_
  refine wpAny_ite_split (fun hab => absurd (eq_of_beq hab) nofun) (fun _ => ?_)
  refine wpAny_bind (rc_eq_decline_or (k := false) (typeIs_str s b u) ⟨_, hl, hc⟩ (by decide) F.sub_dict_str F.slot_str_eq F.slot_dict_eq_refl ?_ ?_ (fun _ hq => wpAny_of_eq (rfl : isSame (.str b u) (.ref l) = pure false) hq) (.inr hu) (wpAny_truthy_bool h))
  · exact fun _ hq => call_meets F.slot_str_eq (typeIs_str s b u) F.entry_str_eq (F.args_str_eq_2 _ _) (str_declines_dict b u o l hc hd) ⟨hl, hq⟩
  · exact fun _ hq => call_meets F.slot_dict_eq_refl ⟨_, hl, hc⟩ F.entry_dict_eq (F.args_dict_eq_2 _ _) (dict_declines_str l o b u hc) ⟨hl, hq⟩
end
end PlayL
namespace L2
namespace Pl
open PySem PySem.Spec PyProof.Rows
section
variable {X : Cx}
/-- a list, a tuple or a dict -/
def BoxV (K : PySem.W.Frag) (H : Hp) (v : V) : Prop := ∃ a, v = .ref a ∧ ((∃ xs, SqL K H a xs) ∨ (∃ xs, SqT K H a xs) ∨ ∃ kvs, Rd H a (.dK kvs))
theorem box_eq {pins : List (Addr × Obj)} {σ : St} {H : Hp} {s : Shared} {v : V} {u : Value} (I : Inv X pins σ H s) (h : BoxV X.K H v) (r : RelV v u) (z : Str) (t : Tok) (A : Around) (hu : A.units < cLine) : SeqAt.EqAt A s (.str z t) u false := by
  obtain ⟨a, rfl, h⟩ := h
  obtain rfl : u = .ref a := r
  rcases h with ⟨xs, h⟩ | ⟨xs, h⟩ | ⟨kvs, h⟩
  · obtain ⟨its, r, p, _⟩ := I.list h
    exact SeqAt.EqAt.str_list z t p.isList hu
  · obtain ⟨its, r, p, _⟩ := I.tuple h
    exact SeqAt.EqAt.str_tuple z t p hu
  · obtain ⟨_, _, vs, _, o, es, ep, h1, h2, h3, _⟩ := dk_rd I.hok h
    exact PlayL.eq_str_dict z t h1 h2.1 h3 hu
/-- x in a row of texts: x a list, a tuple or a dict -/
def rInB (K : PySem.W.Frag) (neg : Bool) : R2 := fun x y H Q => ∃ (p : Addr) (ws : List Str), y = .ref p ∧ (SqL K H p (ws.map V.str) ∨ SqT K H p (ws.map V.str)) ∧ BoxV K H x ∧ Q (.bl neg) H
theorem no_eq {pins : List (Addr × Obj)} {σ : St} {H : Hp} {s : Shared} {v : V} {u : Value} (I : Inv X pins σ H s) (h : BoxV X.K H v) (r : RelV v u) {A : Around} (hu : A.units < cLine) : ∀ {ws : List Str} {us : List Value}, Vals (ws.map V.str) us → ∀ y ∈ us, SeqAt.EqAt A s y u false
  | [], _, .nil, _, hy => by cases hy
  | w :: ws, y0 :: us, .cons q t, y, hy => by
    rcases List.mem_cons.mp hy with rfl | hy
    · obtain ⟨t, rfl⟩ : ∃ t, y = .str w t := q
      exact box_eq I h r w t A hu
    · exact no_eq I h r hu t y hy
theorem op_inB (hu : X.A.in1.units < cLine) : OpR X (compareOp .In) (rInB X.K false) := by
  intro pins s σ H x y v u Q I rx ry h
  obtain ⟨p, ws, rfl, hq, bx, q⟩ := h
  cases ry
  rcases hq with hq | hq
  · obtain ⟨its, r, pl, hz⟩ := I.list hq
    refine SeqAt.in_listAt (fun _ => false) pl.isList (fun w hw => no_eq I bx rx hu r w (by simpa using hw)) ⟨.bl _, H, I, rfl, ?_⟩
    rw [Array.any_eq_false.mpr (fun _ _ => Bool.false_ne_true)]
    exact q
  · obtain ⟨its, r, pl, hz⟩ := I.tuple hq
    refine SeqAt.in_tupleAt (fun _ => false) pl (fun w hw => no_eq I bx rx hu r w (by simpa using hw)) ⟨.bl _, H, I, rfl, ?_⟩
    rw [Array.any_eq_false.mpr (fun _ _ => Bool.false_ne_true)]
    exact q
theorem op_notInB (hu : X.A.in1.units < cLine) : OpR X (compareOp .NotIn) (rInB X.K true) := by
  intro pins s σ H x y v u Q I rx ry h
  obtain ⟨p, ws, rfl, hq, bx, q⟩ := h
  cases ry
  rcases hq with hq | hq
  · obtain ⟨its, r, pl, hz⟩ := I.list hq
    refine SeqAt.notIn_listAt (fun _ => false) pl.isList (fun w hw => no_eq I bx rx hu r w (by simpa using hw)) ⟨.bl _, H, I, rfl, ?_⟩
    rw [Array.any_eq_false.mpr (fun _ _ => Bool.false_ne_true)]
    exact q
  · obtain ⟨its, r, pl, hz⟩ := I.tuple hq
    refine SeqAt.notIn_tupleAt (fun _ => false) pl (fun w hw => no_eq I bx rx hu r w (by simpa using hw)) ⟨.bl _, H, I, rfl, ?_⟩
    rw [Array.any_eq_false.mpr (fun _ _ => Bool.false_ne_true)]
    exact q
/-- whichever of two rules fits -/
theorem op_or {op : CmpOp} {r1 r2 : R2} (h1 : OpR X (compareOp op) r1) (h2 : OpR X (compareOp op) r2) : OpR X (compareOp op) (fun x y H Q => r1 x y H Q ∨ r2 x y H Q) := fun pins s σ H x y v u Q I rx ry h => h.elim (h1 pins s σ H x y v u Q I rx ry) (h2 pins s σ H x y v u Q I rx ry)
end
end Pl
end L2
set_option Elab.async false
set_option linter.all false
set_option maxRecDepth 100000
set_option maxHeartbeats 2000000
namespace L2
namespace Pl
open PySem PySem.Spec PyProof.Rows
section
variable {X : Cx}
theorem count_eqU {x : V} {v : Value} (fx : flatV x = true) : ∀ {xs : List V} {us : List Value}, Vals xs us → xs.all flatV = true → us.countP (eqU x) = xs.countP (fun y => eqV y x)
  | _, _, .nil, _ => rfl
  | y :: xs, u :: us, .cons r t, f => by
    rw [List.all_cons, Bool.and_eq_true] at f
    rw [List.countP_cons, List.countP_cons, eqU_of r f.1, count_eqU (v := v) fx t f.2]
/-- xs.count(x), flat items -/
def rCntF (K : PySem.W.Frag) : V → List V → Hp → VK → Prop := fun x xs H Q => ∃ (p : Addr) (zs : List V) (k : V), x = .ref p ∧ xs = [k] ∧ SqL K H p zs ∧ flatV k = true ∧ zs.all flatV = true ∧ Q (.int ((zs.countP (fun y => eqV y k) : Nat) : Int)) H
theorem mt_countF : MtR X "list.count" (rCntF X.K) := by
  intro pins s σ H x xs v us Q I rx rxs h
  obtain ⟨p, zs, k, rfl, rfl, hs, fk, fz, q⟩ := h
  cases rx
  obtain ⟨u, rfl, ru⟩ := rxs.one
  obtain ⟨its, rv, ⟨⟨cls, dd, data, sl⟩, n, ho, hc, hdn, hd⟩, hlen⟩ := I.list hs
  simp only at hc hd
  subst hc hd
  refine call_meets PySem.F.slot_list_count ⟨_, ho, rfl⟩ PySem.F.entry_list_count (PySem.F.args_list_count_2 _ _)
    (SeqAt.list_countAt p its.toArray n dd sl u (eqU k)) ⟨ho, fun y hy => mem_eqAt ru fk rv fz y (by simpa using hy), ?_⟩
  refine ⟨.int ((zs.countP (fun y => eqV y k) : Nat) : Int), H, I.tok _, ⟨s.toks, ?_⟩, q⟩
  have ec : its.toArray.toList.countP (eqU k) = zs.countP (fun y => eqV y k) := count_eqU (v := u) fk rv fz
  show Value.int ((its.toArray.toList.countP (eqU k) : Nat) : Int) s.toks = _
  rw [ec]
end
end Pl
end L2
set_option Elab.async false
set_option linter.all false
set_option maxRecDepth 100000
set_option maxHeartbeats 2000000
/-! sorted(xs) and set(xs), xs a tuple of texts -/
namespace PlayL
open PySem PySem.Spec PyProof.Rows
section
variable {prog : Program} {w : World} {A : Around} {E : Value → Shared → Prop} {s : Shared}
theorem collect_tuple {l : Addr} {vs : List Value} {Q : List Value → Shared → Prop} (hl : s.heap.IsTuple l vs.toArray)
    (h : Q vs { s with heap := (s.heap.push (seqObj "list" #[] 0)).update s.heap.objs.size (Obj.mapSeq (· ++ vs.toArray)) }) (hsz : vs.length ≤ sizeLine) :
    wpAny (model prog w) A (collect (.ref l)) Q E s := by
  obtain ⟨o, ho, hc, n, hd⟩ := id hl
  unfold collect
  refine wpAny_bind (wpAny_runValue (codeAny_builtin entry_proto_collect' ?_))
  show wpAny _ _ (do again (.builtin "list.__iadd__" ⟨[← newList [], .ref l], []⟩)) _ _ s
  refine wpAny_bind (wpAny_newList (wpAny_pure ⟨Code.quiet_builtin _ (by decide +kernel), codeAny_builtin entry_list_iadd' ?_⟩))
  show wpAny _ _ (Builtin.List.listExtendWith (.ref s.heap.objs.size) (.ref l) (.ref s.heap.objs.size)) _ _ { s with heap := s.heap.push (seqObj "list" #[] 0) }
  unfold Builtin.List.listExtendWith
  have ho' : (s.heap.push (seqObj "list" #[] 0)).get? l = some o := Heap.get?_push_of_some _ ho
  refine wpAny_bind (wpAny_typeOf (T := "tuple") ⟨o, ho', hc⟩ ?_)
  have ht : (Value.type "tuple" == Value.type "tuple") = true := by rfl
  rw [if_pos (by rw [ht]; simp)]
  refine wpAny_bind (listItems_at ho' hd ?_)
  refine wpAny_bind (listItems_at (xs := #[]) (n := 0) (Heap.get?_push_size _ rfl) rfl ?_)
  rw [if_neg (by simp)]
  refine wpAny_bind (listUpdate_at (xs := #[]) (n := 0) (Heap.get?_push_size _ rfl) rfl ?_ (Nat.zero_le _) (by show (#[] ++ vs.toArray).size ≤ sizeLine + 1; simp only [Array.size_append, List.size_toArray, List.length_nil]; omega))
  refine wpAny_pure ?_
  show wpAny (model prog w) A (do
      let o ← load s.heap.objs.size
      match o.data with
      | .seq xs _ => pure xs.toList
      | _ => unsupported "internal:collect") Q E { s with heap := (s.heap.push (seqObj "list" #[] 0)).update s.heap.objs.size (Obj.mapSeq (· ++ vs.toArray)) }
  refine wpAny_bind (wpAny_load (get?_update_seq (Heap.get?_push_size _ rfl) _) ?_)
  show wpAny _ _ (pure ((#[] : Array Value) ++ vs.toArray).toList) Q E _
  rw [show ((#[] : Array Value) ++ vs.toArray).toList = vs by simp]
  exact wpAny_pure h
theorem sortedK_tup {κ : KeyKind} (hO : κ.OneLt) {l : Addr} {vs : List Value} {Q : Value → Shared → Prop} (hl : s.heap.IsTuple l vs.toArray) (h0 : KeysOf κ (pairsOf vs)) (hkk : ∀ v₁ v₂ rest, vs = v₁ :: v₂ :: rest → keyKind' (v₁ :: v₂ :: rest).toArray = pure oneType') (h64 : vs.length < 64)
    (h : ∀ st' : SortSt, (arrOf st').Perm (pairsOf vs) → SortedToK κ (arrOf st') (pairsOf vs).size → Q (.ref (s.heap.objs.size + 1)) { s with heap := sortedAll s.heap vs ((arrOf st').map (·.2)) }) :
    wpAny (model prog w) A (call (.builtin "sorted") [.ref l]) Q E s := by
  refine Calls.call_function_entry kind_sorted plain_sorted entry_sorted (args_sorted1 _) ?_
  unfold Builtin.«sorted»
  refine wpAny_bind (m := checkCount "sorted" 1 1 _) (wpAny_pure ?_)
  refine wpAny_bind (collect_tuple hl ?_ (by rw [sizeLine_eq]; omega))
  refine wpAny_bind (wpAny_newList ?_)
  have hsz : ((s.heap.push (seqObj "list" #[] 0)).update s.heap.objs.size (Obj.mapSeq (· ++ vs.toArray))).objs.size = s.heap.objs.size + 1 := by
    rw [Heap.size_update, size_push']
  have hoL : (((s.heap.push (seqObj "list" #[] 0)).update s.heap.objs.size (Obj.mapSeq (· ++ vs.toArray))).push (seqObj "list" vs.toArray 0)).get? (s.heap.objs.size + 1) = some (seqObj "list" vs.toArray 0) := by
    rw [← hsz]; exact Heap.get?_push_size _ rfl
  show wpAny _ _ _ _ _ { s with heap := ((s.heap.push (seqObj "list" #[] 0)).update s.heap.objs.size (Obj.mapSeq (· ++ vs.toArray))).push (seqObj "list" vs.toArray 0) }
  rw [hsz]
  refine wpAny_bind (wpAny_holding (wpAny_call_entry slot_list_sort ⟨_, hoL, rfl⟩ entry_list_sort (list_sort_treeK hO hoL h0 hkk h64 fun st' a1 a2 => ⟨_, rfl, ?_⟩) (args_list_sort _)))
  exact wpAny_pure ⟨_, rfl, h st' a1 a2⟩
theorem sorted_strs_tup {l : Addr} {vs : List Value} {ss : List Str} {Q : Value → Shared → Prop} (hl : s.heap.IsTuple l vs.toArray) (hS : StrsAre vs ss) (h64 : vs.length < 64)
    (h : ∀ (out : Array Value) (ss' : List Str), StrsAre out.toList ss' → ss'.Perm ss → sortedS ss' = true → Q (.ref (s.heap.objs.size + 1)) { s with heap := sortedAll s.heap vs out }) :
    wpAny (model prog w) A (call (.builtin "sorted") [.ref l]) Q E s := by
  refine sortedK_tup strKind_oneLt hl hS.keysOf (fun v₁ v₂ rest e => keyKind_strs (by rw [← e]; exact hS)) h64 fun st' hp hs => ?_
  obtain ⟨ss', h1, h2, h3⟩ := sorted_out_str hS hp hs
  exact h _ ss' h1 h2 h3
end
end PlayL
namespace L2
namespace Pl
open PySem PySem.Spec PyProof.Rows
section
variable {X : Cx}
/-- sorted(xs), xs a list or a tuple of texts -/
def rSortedB (K : PySem.W.Frag) : List V → Hp → VK → Prop := fun vs H Q => ∃ (a : Addr) (xs : List Str), vs = [V.ref a] ∧ (SqL K H a (xs.map V.str) ∨ SqT K H a (xs.map V.str)) ∧ xs.length < 64 ∧
  ∀ (ys : List Str) (p : Addr), ys.Perm xs → sortedS ys = true → H p = none → Q (.ref p) (upd H p (.lst (ys.map V.str)))
theorem cr_sortedB : CallR X (.builtin "sorted") (rSortedB X.K) := by
  intro pins s σ H vs us Q I r h
  obtain ⟨a, xs, rfl, hs, h64, q⟩ := h
  rcases hs with hs | hs
  · exact cr_sortedS pins s σ H _ us Q I r ⟨a, xs, rfl, hs, h64, q⟩
  · obtain ⟨its, rv, hl, _⟩ := I.tuple hs
    rw [Vals.ref1 r]
    have hlen0 := rv.length
    rw [List.length_map] at hlen0
    refine PlayL.sorted_strs_tup hl rv.strs (by rw [← hlen0]; exact h64) fun out ys h1 h2 h3 => ?_
    obtain ⟨ep, he'⟩ := PyProof.Rows.sortedAll_at s.heap its out
    have hlen : (ys.map V.str).length ≤ sizeLine := by rw [List.length_map, h2.length_eq]; exact small64 h64
    exact ⟨.ref _, upd H (s.heap.objs.size + 1) (.lst (ys.map V.str)), I.laid (t' := s.toks) (fun _ _ => PyProof.Rows.sortedAll_old) (Nat.le_succ _) ⟨hlen, out.toList, ep, vals_of_strs h1, he'⟩, rfl, q ys _ h2 h3 (I.hok.fresh (Nat.le_succ _))⟩
end
end Pl
end L2
set_option Elab.async false
set_option linter.all false
set_option maxRecDepth 100000
set_option maxHeartbeats 4000000
/-! len(set(xs)), xs a list or a tuple of texts -/
namespace PlayL
open PySem PySem.Spec PyProof.Rows
section
variable {prog : Program} {w : World} {A : Around} {E : Value → Shared → Prop} {s : Shared}
theorem set_init_tup {l : Addr} {items : Array Value} {xs : List Str} {led : Bool} (free : A.handled = none) (isT : s.heap.IsTuple l items) (are : StrsAre items.toList xs) (room : xs.length + 1 < scanBound) {Q : Value → Shared → Prop}
    (fin : ∀ (h' : Heap) (tk : Nat), h'.SetOf (PySem.strKind prog w) s.heap.objs.size (fun y => decide (y ∈ xs)) (metS xs).length → (∀ b o, s.heap.get? b = some o → h'.get? b = some o) → Q .none { s with heap := h', toks := tk }) :
    codeAny (model prog w) A (.call (.builtin "set.__init__") ⟨[.ref s.heap.objs.size, .ref l], []⟩) (wants Q E) (withSet s led) := by
  have new : (withSet s led).heap.get? s.heap.objs.size = some (set0 led) := Heap.get?_push_size _ rfl
  refine codeAny_call_builtin F.called_set.init.plain F.entry_set_init (check_set_init_1 ⟨_, new, rfl⟩ ?_)
  obtain ⟨ol, hol, hcl, nl, hdl⟩ := isT
  obtain ⟨c, dd, data, sl⟩ := ol
  dsimp only at hcl hdl
  subst hcl hdl
  have at2 : (withSet s led).heap.get? l = some { cls := .type "tuple", dict := dd, data := .seq items nl, slots := sl } := Heap.get?_push_of_some _ hol
  have n1 := F.sub_tuple_set
  have n2 := F.sub_tuple_frozenset
  have n3 : (Value.type "tuple" == Value.type "dict") = false := by decide
  unfold Builtin.«set.__init__» noKeywords Builtin.Frozenset.updateFrom
  generalize eP : pyIter = PI
  wp_walk
  subst eP
  have isT2 : (withSet s led).heap.IsTuple l items := ⟨_, at2, rfl, nl, rfl⟩
  refine wpAny_pyIter_tuple isT2 (wpAny_bind (wpAny_runValue ?_))
  have lt : l < s.heap.objs.size := Heap.lt_size hol
  have sz : (withSet s led).heap.objs.size = s.heap.objs.size + 1 := Heap.size_push _ _
  have apart : s.heap.objs.size ∉ [(withSet s led).heap.objs.size, l] := fun c => by
    rcases List.mem_cons.mp c with c | c
    · exact absurd (c.trans sz) (Nat.ne_of_lt (Nat.lt_succ_self _))
    · exact absurd (List.mem_singleton.mp c).symm (Nat.ne_of_lt lt)
  have at3 : ((withSet s led).heap.push { cls := .type "tuple_iterator", data := .fields #[.ref l, .int 0 0] }).get? s.heap.objs.size = some (set0 led) := Heap.get?_push_of_some _ new
  have len : xs.length = items.size := by
    have := StrsAre.len_eq are
    rw [← this, Array.length_toList]
  have val : ∀ (i : Nat) (v : Value), items[i]? = some v → ∃ t x, xs[i]? = some x ∧ v = .str x t := fun i v hv => by
    have lt : i < xs.length := len ▸ (Array.getElem?_eq_some_iff.mp hv).1
    obtain ⟨t, e⟩ := SS.strs_at are i v (by rw [Array.getElem?_toList]; exact hv)
    exact ⟨t, xs[i], List.getElem?_eq_getElem lt, by rw [e, List.getD_eq_getElem?_getD, List.getElem?_eq_getElem lt]; rfl⟩
  refine loop_strs ((Walks.tuple (by simp [free]) _ l (fun c => absurd (c.trans sz) (Nat.ne_of_lt (Nat.lt_succ_of_lt lt))) items).toS) s.heap.objs.size apart xs (by rw [← len]; exact room) len val items.size 0 _ (by omega) (Nat.zero_le _) ⟨⟨_, Heap.get?_push_size _ rfl, rfl, rfl⟩, isT2.push _⟩ ?_ fun s1 mv at4 => ?_
  · exact SetOf_congr ((setObjOf_fresh (knd := PySem.strKind prog w) led).setOf at3 (by unfold scanBound; omega)) (fun _ => rfl) rfl
  · obtain ⟨h1, g1, d1, t1, o1⟩ := s1
    obtain rfl : g1 = s.gens := mv.gens
    obtain rfl : d1 = s.drawn := mv.drawn
    obtain rfl : o1 = s.os := mv.os
    refine wpAny_pure (wpAny_pure (fin h1 t1 at4 fun b o hb => ?_))
    have ltb : b < s.heap.objs.size := Heap.lt_size hb
    refine mv.heap b o (fun c => ?_) (Heap.get?_push_of_some _ (Heap.get?_push_of_some _ hb))
    rcases List.mem_cons.mp c with c | c
    · exact absurd c (Nat.ne_of_lt ltb)
    · exact absurd ((List.mem_singleton.mp c).trans sz) (Nat.ne_of_lt (Nat.lt_succ_of_lt ltb))
theorem set_of_tup {l : Addr} {items : Array Value} {xs : List Str} (free : A.handled = none) (isT : s.heap.IsTuple l items) (are : StrsAre items.toList xs) (room : xs.length + 1 < scanBound) {Q : Value → Shared → Prop}
    (fin : ∀ (h' : Heap) (tk : Nat), h'.SetOf (PySem.strKind prog w) s.heap.objs.size (fun y => decide (y ∈ xs)) (metS xs).length → (∀ b o, s.heap.get? b = some o → h'.get? b = some o) → Q (.ref s.heap.objs.size) { s with heap := h', toks := tk }) :
    wpAny (model prog w) A (call (.type "set") [.ref l]) Q E s := by
  obtain ⟨head, tail, mro⟩ := F.called_set.mro
  refine wpAny_call (codeAny_of_tree ?_)
  change wpAny _ _ (callAny (Value.type "set") _) _ _ s
  refine wpAny_pure ⟨Code.quiet_builtin _ (by decide +kernel), codeAny_builtin F.entry_type_call (?_ : wpAny _ _ _ _ _ _)⟩
  rw [Around.under_plain (weight_type_call_type "set" [.ref l] []) rfl]
  have c1 := F.called_set.made
  have c2 := F.called_set.sub
  have c3 := F.called_set.notType
  have c4 := F.called_set.canCreate
  have c5 := F.typeCall_set_1 (.ref l)
  repeat (any_goals (first | assumption | wp_step))
  refine codeAny_mono (code_set_new_1 (.ref l) (E := E) (Q₁ := fun o s1 => ∃ led : Bool, o = .ref s.heap.objs.size ∧ s1 = withSet s led) fun led => ⟨led, rfl, rfl⟩) fun r s1 hr => ?_
  match r, hr with
  | .error e, hr => exact hr
  | .ok (.ret o), hr =>
    obtain ⟨led, rfl, rfl⟩ := hr
    have new : (withSet s led).heap.get? s.heap.objs.size = some (set0 led) := Heap.get?_push_size _ rfl
    have isS : (withSet s led).TypeIs (.ref s.heap.objs.size) "set" := ⟨_, new, rfl⟩
    have c6 := F.called_set.init.lookup
    have c7 := F.called_set.init.bind (.ref s.heap.objs.size)
    repeat (any_goals (first | assumption | wp_step))
    refine codeAny_mono (set_init_tup (A := A.in1) (led := led) (E := E) (Q := fun r s2 => r = .none ∧ ∃ h' tk, s2 = { s with heap := h', toks := tk } ∧ h'.SetOf (PySem.strKind prog w) s.heap.objs.size (fun y => decide (y ∈ xs)) (metS xs).length ∧ ∀ b o, s.heap.get? b = some o → h'.get? b = some o) (by simp [free]) isT are room fun h' tk a b => ⟨rfl, h', tk, rfl, a, b⟩) fun r2 s2 hr2 => ?_
    match r2, hr2 with
    | .error e, hr2 => exact hr2
    | .ok (.ret r3), hr2 =>
      obtain ⟨rfl, h', tk, rfl, isSet, keep⟩ := hr2
      repeat (any_goals (first | assumption | wp_step))
      exact fin _ _ isSet keep
end
end PlayL
namespace L2
namespace Pl
open PySem PySem.Spec PyProof.Rows
/-- len(set(xs)), xs a list or a tuple of texts -/
def tLenSetB (K : PySem.W.Frag) (ta : TE) : TE := fun σ H Q => ta σ H fun x H1 => ∃ l, ∃ xs : List Str, x = .ref l ∧ (SqL K H1 l (xs.map V.str) ∨ SqT K H1 l (xs.map V.str)) ∧ xs.length ≤ 1000 ∧ Q (.int ((PlayL.metS xs).length : Nat)) H1
section
variable {X : Cx}
theorem pe_lenSetB {a : Expr} {ta : TE} {p p2 q pos : Pos} (hc : X.calm = true) (hg : Gl X "len") (hm : X.mg "len" = none) (hg2 : Gl X "set") (hm2 : X.mg "set" = none) (ha : PE X a ta)
    (one : starEach [a] X.env = (false, eval a X.env) :: starEach [] X.env := by rfl) : PE X (.Call (.Name "len" p) [.Call (.Name "set" p2) [a] [] q] [] pos) (tLenSetB X.K ta) := by
  refine ⟨fun pins s σ H Q I h => Call_ (ld_blt I hg hm boot_len (callWith_builtin1 (args_cons (Call_ (ld_blt I hg2 hm2 boot_set ?_)) rfl) rfl rfl))⟩
  refine callWith_type1 (args_cons (thn (ha.run pins s σ H _ I h) fun v s1 ⟨x, H1, I1, r1, q1⟩ => args_nil ?_) one) one rfl
  obtain ⟨l, xs, rfl, hl, few, q1⟩ := q1
  cases r1
  have le := PlayL.metS_le _ xs rfl
  rcases hl with hl | hl
  · obtain ⟨its, r, pl, _⟩ := I1.list hl
    refine PlayL.set_of_list (I1.ok.hd hc) pl.isList (by simpa using strsAre_of r) (by unfold scanBound; omega) fun h' tk isS keep => args_nil ?_
    obtain ⟨o, es, ep, t, ho, hex, hd, _, _, _, hf, hn⟩ := isS
    have I2 : Inv X pins σ H1 { s1 with heap := h', toks := tk } := I1.kept keep
    exact call_len_set ho hex hd hf (by rw [hn]; omega) ⟨.int ((PlayL.metS xs).length : Nat), H1, I2.tok _, ⟨_, by rw [hn]⟩, q1⟩
  · obtain ⟨its, r, pl, _⟩ := I1.tuple hl
    refine PlayL.set_of_tup (I1.ok.hd hc) pl (by simpa using strsAre_of r) (by unfold scanBound; omega) fun h' tk isS keep => args_nil ?_
    obtain ⟨o, es, ep, t, ho, hex, hd, _, _, _, hf, hn⟩ := isS
    have I2 : Inv X pins σ H1 { s1 with heap := h', toks := tk } := I1.kept keep
    exact call_len_set ho hex hd hf (by rw [hn]; omega) ⟨.int ((PlayL.metS xs).length : Nat), H1, I2.tok _, ⟨_, by rw [hn]⟩, q1⟩
/-- for .. in xs, a list or a tuple -/
theorem pi_seq {tg l : Expr} {tl : TE} (hl : PE X l tl) : PI X tg l (fun σ H R => iList X.K tl σ H R ∨ iTup X.K tl σ H R) := by
  refine ⟨fun pins s σ H R I h => ?_⟩
  exact h.elim ((pi_list (tg := tg) hl).run pins s σ H R I) ((pi_tup (tg := tg) hl).run pins s σ H R I)
end
end Pl
end L2
set_option Elab.async false
set_option linter.all false
set_option maxRecDepth 100000
set_option maxHeartbeats 0
namespace Bs
open PySem PySem.Spec PyProof.Rows L2 L2.Pl
abbrev rw0 := PySem.Challenge.rw_playedlate_k15_plans_made
def top (i : Nat) : Stmt := PySem.Challenge.pw_playedlate_k15_plans_made.main.body.getD i (.Pass ⟨0, 0, 0, 0⟩)
abbrev sBetween : Stmt := top 4
abbrev sGuards : Stmt := top 9
abbrev sPlan (j : Nat) : Stmt := inClass (top 10) j
abbrev sSource : Stmt := top 12
abbrev sDraw : Stmt := top 13
abbrev sPick : Stmt := top 14
abbrev sDue : Stmt := top 15
abbrev sTold : Stmt := top 16
abbrev sLaw : Stmt := top 17
end Bs
set_option Elab.async false
set_option linter.all false
set_option maxRecDepth 100000
set_option maxHeartbeats 2000000
namespace L2
namespace Pl
open PySem PySem.Spec PyProof.Rows
/-! ### sizes of ints -/
theorem bits_of_lt {a : Int} {n : Nat} (h : a.natAbs < 2 ^ n) : Builtin.Int.intBits a ≤ n := by
  unfold Builtin.Int.intBits
  split
  · exact Nat.zero_le _
  · rename_i hz
    have h0 : a.natAbs ≠ 0 := by
      intro z
      have : a = 0 := by omega
      simp [this] at hz
    have := (Nat.log2_lt h0).mpr h
    omega
theorem lt_of_bits {a : Int} {n : Nat} (h : Builtin.Int.intBits a ≤ n) : a.natAbs < 2 ^ n := by
  refine Nat.lt_of_lt_of_le ?_ (Nat.pow_le_pow_right (by decide) h)
  unfold Builtin.Int.intBits
  split
  · rename_i hz
    have : a = 0 := by simpa using hz
    rw [this]
    decide
  · exact Nat.lt_log2_self
theorem bits_sum {a b : Int} {m : Nat} (ha : a.natAbs < 2 ^ m) (hb : Builtin.Int.intBits b ≤ m) : Builtin.Int.intBits (a + b) ≤ m + 1 := by
  refine bits_of_lt ?_
  have h2 := lt_of_bits hb
  have h3 : (a + b).natAbs ≤ a.natAbs + b.natAbs := by omega
  rw [Nat.pow_succ]
  omega
theorem cube_big {a b : Int} (m : Nat) (hm : 60 ≤ m) (h : a.natAbs < 2 ^ 60) (hb : Builtin.Int.intBits b ≤ m) : Builtin.Int.intBits (a + b) ≤ m + 1 := bits_sum (Nat.lt_of_lt_of_le h (Nat.pow_le_pow_right (by decide) hm)) hb
theorem cube_ok {a b : Int} (ha : -(2 ^ 60) < a ∧ a < 2 ^ 60) (hb : Builtin.Int.intBits b ≤ 1048576) : CPowW (a + b) 3 := by
  refine ⟨by decide, ?_⟩
  have h60 : a.natAbs < 2 ^ 60 := by omega
  have h2 := cube_big 1048576 (by decide) h60 hb
  have e : (2 : Int) ^ 27 = 134217728 := by decide
  rw [e]
  omega
/-! ### the free names of a law -/
structure Gn (mg : Str → Option Value) : Prop where
  len : mg "len" = none
  int : mg "int" = none
  isi : mg "isinstance" = none
  range : mg "range" = none
  max : mg "max" = none
  min : mg "min" = none
  enum : mg "enumerate" = none
  list : mg "list" = none
  dict : mg "dict" = none
  tuple : mg "tuple" = none
  zip : mg "zip" = none
  set : mg "set" = none
  all : mg "all" = none
  str : mg "str" = none
  repr : mg "repr" = none
theorem bInt : bootBuiltins "int" = some (.type "int") := by decide +kernel
theorem bLen : bootBuiltins "len" = some (.builtin "len") := by decide +kernel
theorem bIsi : bootBuiltins "isinstance" = some (.builtin "isinstance") := by decide +kernel
theorem bMax : bootBuiltins "max" = some (.builtin "max") := by decide +kernel
theorem bMin : bootBuiltins "min" = some (.builtin "min") := by decide +kernel
theorem bAll : bootBuiltins "all" = some (.builtin "all") := by decide +kernel
theorem bRepr : bootBuiltins "repr" = some (.builtin "repr") := by decide +kernel
theorem bList : bootBuiltins "list" = some (.type "list") := by decide +kernel
theorem bDict : bootBuiltins "dict" = some (.type "dict") := by decide +kernel
theorem bTuple : bootBuiltins "tuple" = some (.type "tuple") := by decide +kernel
theorem bSet : bootBuiltins "set" = some (.type "set") := by decide +kernel
theorem bZip : bootBuiltins "zip" = some (.type "zip") := by decide +kernel
theorem bStr : bootBuiltins "str" = some (.type "str") := by decide +kernel
theorem bRange : bootBuiltins "range" = some (.type "range") := by decide +kernel
/-! ### heaps -/
theorem same_new {H : Hp} {p : Addr} {o : HO} (h : H p = none) : Same H (upd H p o) := fun b x e => (upd_ne (ne_of_none e h)).trans e
theorem ne_new {H : Hp} {a b : Addr} {o : HO} (h : upd H b o a = none) : a ≠ b := fun z => by
  rw [z, upd_same] at h
  cases h
theorem new_old {H : Hp} {a b : Addr} {o : HO} (h : upd H b o a = none) : H a = none := (upd_ne (ne_new h)).symm.trans h
/-- a source: a list of two ints -/
def Src (H : Hp) (s : Addr) : Prop := ∃ own mixed : Int, H s = some (.lst [.int own, .int mixed])
theorem Src.some {H : Hp} {s : Addr} (h : Src H s) : ∃ o, H s = some o := let ⟨_, _, e⟩ := h; ⟨_, e⟩
/-- the heap moves: the source may be drawn from, all else stays -/
structure Mv (s : Addr) (H H' : Hp) : Prop where
  src : Src H' s
  same : Same (del H s) (del H' s)
theorem del_some {H : Hp} {s b : Addr} {o : HO} (h : del H s b = some o) : b ≠ s ∧ H b = some o := by
  by_cases e : b = s
  · rw [e, del_same] at h
    cases h
  · exact ⟨e, (del_ne e).symm.trans h⟩
theorem del_of {H : Hp} {s b : Addr} {o : HO} (n : b ≠ s) (h : H b = some o) : del H s b = some o := (del_ne n).trans h
theorem del_all {H : Hp} {s : Addr} : Same (del H s) H := fun _ _ e => (del_some e).2
theorem Mv.refl {H : Hp} {s : Addr} (h : Src H s) : Mv s H H := ⟨h, Same.refl _⟩
theorem Mv.trans {H H1 H2 : Hp} {s : Addr} (a : Mv s H H1) (b : Mv s H1 H2) : Mv s H H2 := ⟨b.src, a.same.trans b.same⟩
theorem Mv.of_same {H H' : Hp} {s : Addr} (h : Src H s) (e : Same H H') : Mv s H H' := by
  obtain ⟨own, mixed, q⟩ := h
  exact ⟨⟨own, mixed, e _ _ q⟩, fun b o z => by
    obtain ⟨n, z⟩ := del_some z
    exact del_of n (e _ _ z)⟩
theorem Mv.new {H : Hp} {s p : Addr} {o : HO} (h : Src H s) (hp : H p = none) : Mv s H (upd H p o) := .of_same h (same_new hp)
theorem Mv.draw {H : Hp} {s : Addr} {own mixed : Int} : Mv s H (upd H s (.lst [.int own, .int mixed])) := ⟨⟨own, mixed, upd_same⟩, fun b o z => by
  obtain ⟨n, z⟩ := del_some z
  exact del_of n ((upd_ne n).trans z)⟩
/-- an object of ours, not there at first, is changed -/
theorem Mv.write {H H' : Hp} {s p : Addr} {o : HO} (m : Mv s H H') (hp : H p = none) (n : p ≠ s) : Mv s H (upd H' p o) := by
  obtain ⟨own, mixed, q⟩ := m.src
  exact ⟨⟨own, mixed, (upd_ne (Ne.symm n)).trans q⟩, fun b o z => by
    have nb : b ≠ p := ne_of_none (del_some z).2 hp
    obtain ⟨n2, z2⟩ := del_some (m.same _ _ z)
    exact del_of n2 ((upd_ne nb).trans z2)⟩
theorem Mv.get {H H' : Hp} {s b : Addr} {o : HO} (m : Mv s H H') (n : b ≠ s) (h : H b = some o) : H' b = some o := (del_some (m.same _ _ (del_of n h))).2
theorem Mv.free {H H' : Hp} {s p : Addr} (m : Mv s H H') (hs : Src H s) (h : H' p = none) : H p = none := by
  by_cases e : p = s
  · obtain ⟨_, _, q⟩ := m.src
    rw [e, q] at h
    cases h
  · cases q : H p with
    | none => rfl
    | some o =>
      rw [m.get e q] at h
      cases h
theorem Src.ne {H : Hp} {s p : Addr} (h : Src H s) (hp : H p = none) : p ≠ s := fun e => by
  obtain ⟨_, _, q⟩ := h
  rw [e, q] at hp
  cases hp
/-! ### a list beside an empty one -/
theorem op_ne_nil {X : Cx} (hu : X.A.units < cLine) : OpR X (compareOp .NotEq) (fun x y H Q => ∃ l b xs, x = .ref l ∧ y = .ref b ∧ SqL X.K H l xs ∧ SqL X.K H b [] ∧ Q (.bl (!xs.isEmpty)) H) := by
  intro pins s σ H x y v u Q I rx ry h
  obtain ⟨l, b, xs, rfl, rfl, hx, hb, q⟩ := h
  cases rx
  cases ry
  obtain ⟨its, r1, p1, z1⟩ := I.list hx
  obtain ⟨its2, r2, p2, z2⟩ := I.list hb
  have l1 := r1.length
  have l2 := r2.length
  have s1 : its.toArray.size = xs.length := by rw [List.size_toArray, l1]
  have s2 : its2.toArray.size = 0 := by
    rw [List.size_toArray, ← l2]
    rfl
  by_cases h0 : xs = []
  · subst h0
    have z : its.toArray.size = 0 := s1
    refine SeqAt.RcNeAt.lists (e := fun _ => true) p1.isList p2.isList (by rw [z, s2]) hu (fun j h1 _ => ?_) _ _ _ _ ⟨.bl false, H, I, ?_, q⟩
    · rw [z] at h1
      exact absurd h1 (Nat.not_lt_zero _)
    · rw [z]
      rfl
  · refine SeqAt.RcNeAt.lists_lengths p1.isList p2.isList ?_ hu _ _ _ _ ⟨.bl (!xs.isEmpty), H, I, ?_, q⟩
    · rw [s1, s2]
      have : xs.length ≠ 0 := fun e => h0 (List.length_eq_zero_iff.mp e)
      simp [this]
    · cases xs with
      | nil => exact absurd rfl h0
      | cons _ _ => rfl
/-! ### what a pick is made of -/
def Items (K : PySem.W.Frag) (H : Hp) (v : V) (xs : List V) : Prop := (∃ l, v = .ref l ∧ SqL K H l xs) ∨ (∃ l, v = .ref l ∧ SqT K H l xs) ∨ ∃ z : Str, v = .str z ∧ z.length ≤ sizeLine ∧ xs = z.cps.toList.map fun c => V.str ⟨#[c]⟩
theorem Items.same {K : PySem.W.Frag} {H H' : Hp} {v : V} {xs : List V} (h : Items K H v xs) (e : Same H H') : Items K H' v xs := by
  rcases h with ⟨l, rfl, h⟩ | ⟨l, rfl, h⟩ | h
  · exact .inl ⟨l, rfl, e.seq h⟩
  · refine .inr (.inl ⟨l, rfl, ?_⟩)
    rcases h with (h | ⟨o, h⟩) | h
    · exact .inl (.inl (e _ _ h))
    · exact .inl (.inr ⟨o, e _ _ h⟩)
    · exact .inr h
  · exact .inr (.inr h)
theorem Items.len {K : PySem.W.Frag} {H : Hp} {v : V} {xs : List V} (h : Items K H v xs) : LenV K v H xs.length := by
  rcases h with ⟨l, rfl, h⟩ | ⟨l, rfl, h⟩ | ⟨z, rfl, hz, rfl⟩
  · exact .inl ⟨xs, h, rfl⟩
  · exact .inr ⟨xs, h, rfl⟩
  · refine ⟨hz, ?_⟩
    rw [List.length_map, Array.length_toList]
    rfl
theorem Items.ix {K : PySem.W.Frag} {H : Hp} {v x : V} {xs : List V} {j : Nat} {Q : VK} (h : Items K H v xs) (hx : xs[j]? = some x) (q : Q x H) : rIx K v (.int (j : Int)) H Q := by
  rcases h with ⟨l, rfl, h⟩ | ⟨l, rfl, h⟩ | ⟨z, rfl, hz, rfl⟩
  · exact .inl ⟨l, xs, _, x, rfl, rfl, h, atI_nat hx, q⟩
  · exact .inr (.inl ⟨l, xs, _, x, rfl, rfl, h, atI_nat hx, q⟩)
  · rw [List.getElem?_map] at hx
    cases e : z.cps.toList[j]? with
    | none =>
      rw [e] at hx
      cases hx
    | some c =>
      rw [e] at hx
      cases hx
      exact .inr (.inr ⟨z, _, c, rfl, rfl, hz, atI_nat e, q⟩)
/-! ### the draws: promises -/
section
variable {P : Program} {w : World} {K : PySem.W.Frag} {mg : Str → Option Value} {base : Heap}
abbrev FnP (K : PySem.W.Frag) (x : Str) (st : Stmt) (f : Addr) (fd : FuncData) : Prop := FunD K x x (defArgs st) (defBody st) (defScope st) [] [] f fd
/-- a def that others call -/
structure Has (P : Program) (w : World) (K : PySem.W.Frag) (mg : Str → Option Value) (base : Heap) (CX : CXT) (x : Str) (k : Nat) (ps : List Str) (sp : Sp) : Prop where
  ex : ∃ (f : Addr) (fd : FuncData), FnOk P w K mg base CX k f fd ps sp ∧ Binds K fd ps [] ∧ mg x = some (.ref f) ∧ PySem.W.keepIn K (.ref f) = true
def spSource (K : PySem.W.Frag) : Sp := fun vs H Q _ => ∃ (a : Addr) (ns : List Int) (st : Nat), vs = [.ref a, .int (st : Int)] ∧ SqL K H a (ns.map V.int) ∧ ns.length ≤ 63 ∧ (∀ z ∈ ns, Builtin.Int.intBits z ≤ 1048576) ∧ st < 100 ∧
  ∀ p own mixed, H p = none → Q (.ref p) (upd H p (.lst [.int own, .int mixed]))
def spDraw : Sp := fun vs H Q _ => ∃ (s : Addr) (span : Int), vs = [.ref s, .int span] ∧ Src H s ∧ 0 < span ∧ span < 1000000 ∧ ∀ H' found, Mv s H H' → (∀ b, b ≠ s → H' b = H b) → 0 ≤ found → found < span → Q (.int found) H'
def spPick (K : PySem.W.Frag) : Sp := fun vs H Q _ => ∃ (s : Addr) (v : V) (xs : List V), vs = [.ref s, v] ∧ Src H s ∧ Items K (del H s) v xs ∧ xs ≠ [] ∧ xs.length < 1000000 ∧ ∀ H' x, Mv s H H' → (∀ b, b ≠ s → H' b = H b) → x ∈ xs → Q x H'
def spMixed (K : PySem.W.Frag) : Sp := fun vs H Q _ => ∃ (s l : Addr) (xs : List V), vs = [.ref s, .ref l] ∧ Src H s ∧ SqL K (del H s) l xs ∧ xs.length ≤ 100 ∧ ∀ p H' ys, Mv s H H' → H p = none → H' p = some (.lst ys) → ys.Perm xs → Q (.ref p) H'
/-- a name: 1 to 8 letters -/
structure IsName (w : Str) : Prop where
  pos : 1 ≤ w.length
  len : w.length ≤ 8
  low : ∀ c ∈ w.cps.toList, 97 ≤ c ∧ c ≤ 122
def spWord : Sp := fun vs H Q _ => ∃ s, vs = [.ref s] ∧ Src H s ∧ ∀ H' x, Mv s H H' → IsName x → Q (.str x) H'
end
end Pl
end L2
namespace Bs
open PySem PySem.Spec PyProof.Rows L2 L2.Pl
section
variable {P : Program} {w : World} {K : PySem.W.Frag} {mg : Str → Option Value} {base : Heap} {f : Addr} {fd : FuncData}
theorem scSource : FnScope ["script", "start", "mixed", "cell", "own"] ["script", "start"] (defScope sSource) := ⟨rfl, rfl, rfl, by decide +kernel, rfl, by decide +kernel, by decide +kernel⟩
theorem ok_source (G : Gn mg) (F : FnP K "_law_source" sSource f fd) : FnOk P w K mg base CX0 1 f fd ["script", "start"] (spSource K) := by
  refine F.ok scSource (fun vs H Q E h => ?_) (fun cdv A outer s H vs Q E hr h => ?_)
  · obtain ⟨_, _, _, rfl, _⟩ := h
    rfl
  · obtain ⟨a, ns, st, rfl, hS, hlen, hbits, hst, q⟩ := h
    refine ⟨_, PSs.nox (pss_cons (ps_set (i := 2) scSource.nd rfl (.inl rfl) (pe_op op_add pe_int (pv 1)))
      (pss_cons (ps_for PassesOwn.never rfl (pi_list (pv 0)) (pg_name (i := 3) scSource.nd rfl (.inl rfl))
        (pss_one (ps_set (i := 2) scSource.nd rfl (.inl rfl) (pe_op op_add (pe_op op_mod (pe_callTy call_int1 (by rfl) G.int bInt (pa_cons (pe_op op_powW (pe_callTy call_int1 (by rfl) G.int bInt (pa_cons (pe_op op_add (pe_op op_mul (pv 2) pe_int) (pe_callTy call_int1 (by rfl) G.int bInt (pa_cons (pv 3) pa_nil))) pa_nil)) pe_int) pa_nil)) pe_int) pe_int))))
      (pss_cons (ps_set (i := 4) scSource.nd rfl (.inl rfl) pe_int)
      (pss_cons (ps_if (PW.pt (pw_and (pt_cmpR op_lt (pv 1) (pe_callB call_len_seq (by rfl) G.len bLen (pa_cons (pv 0) pa_nil)) (nomark _)) (pw_and1 (pt_cmpR op_ge (pe_ix ix_list (pv 0) (pv 1) (fun _ _ => rfl)) (pe_op op_pow pe_int pe_int) (nomark _)))))
          (pss_one (ps_set (i := 4) scSource.nd rfl (.inl rfl) (pe_op op_sub (pe_ix ix_list (pv 0) (pv 1) (fun _ _ => rfl)) (pe_op op_pow pe_int pe_int)))) pss_nil)
      (pss_one (ps_ret (pe_lst (pa_cons (pv 4) (pa_cons (pv 2) pa_nil))))))))), ?_⟩
    refine ⟨_, rfl, _, _, rfl, rfl, ?_⟩
    refine ⟨_, rfl, a, rfl, ⟨_, hS⟩, for_list (K := K) (a := a) (xs := ns.map V.int) (fun i σ H' => ∃ (m : Int) (c : Option V), σ = [some (.ref a), some (.int (st : Int)), some (.int m), c, none] ∧ H' = H ∧ 0 ≤ m ∧ m < 2 ^ 40)
      ⟨57 + (st : Int), none, rfl, rfl, by omega, by omega⟩ (fun i σ H' _ ⟨_, _, _, e, _⟩ => by rw [e]; exact hS) ?_ ?_⟩
    · rintro i y σ H' hi ⟨m, c, rfl, rfl, h0, h1⟩
      obtain ⟨z, rfl, hz⟩ : ∃ z, y = V.int z ∧ z ∈ ns := by
        rw [List.getElem?_map] at hi
        cases e : ns[i]? with
        | none =>
          rw [e] at hi
          cases hi
        | some u =>
          rw [e] at hi
          exact ⟨u, (Option.some.inj hi).symm, List.mem_of_getElem? e⟩
      refine ⟨_, rfl, _, _, rfl, rfl, .inr ⟨by decide, by decide⟩, _, rfl, .inl ⟨_, rfl, _, _, rfl, rfl, .inl ⟨_, rfl, _, _, rfl, rfl, cube_ok ⟨by omega, by omega⟩ (hbits z hz), .inl ⟨_, rfl, _, _, rfl, rfl, (by show (0 : Int) < 2147483563; decide), _, _, rfl, rfl, ?_⟩⟩⟩⟩
      have hm : 0 ≤ ((m * 70001 + z) ^ (3 : Int).toNat) % 2147483563 ∧ ((m * 70001 + z) ^ (3 : Int).toNat) % 2147483563 < 2147483563 := ⟨Int.emod_nonneg _ (by decide), Int.emod_lt_of_pos _ (by decide)⟩
      exact ⟨_, _, rfl, rfl, by omega, by omega⟩
    · rintro σ H' ⟨m, c, rfl, rfl, h0, h1⟩
      refine ⟨_, rfl, _, rfl, _, _, rfl, .inl hS, _, _, rfl, rfl, _, rfl, ?_⟩
      rw [List.length_map]
      refine ite2 (fun hlt => ?_) (fun _ => ?_)
      · have hl : st < ns.length := by
          have := of_decide_eq_true hlt
          omega
        have hx : (ns.map V.int)[st]? = some (.int ns[st]) := by
          rw [List.getElem?_map, List.getElem?_eq_getElem hl]
          rfl
        refine ⟨_, rfl, _, rfl, a, _, _, _, rfl, rfl, hS, atI_nat hx, _, _, rfl, rfl, ⟨by decide, by decide, by decide⟩, _, _, rfl, rfl, _, rfl, ite2 (fun _ => ?_) (fun _ => ?_)⟩
        · refine ⟨_, rfl, _, rfl, a, _, _, _, rfl, rfl, hS, atI_nat hx, _, _, rfl, rfl, ⟨by decide, by decide, by decide⟩, _, _, rfl, rfl, ?_⟩
          exact ⟨_, rfl, _, rfl, by show 2 ≤ sizeLine; decide, fun p hp => q p _ _ hp⟩
        · exact ⟨_, rfl, _, rfl, by show 2 ≤ sizeLine; decide, fun p hp => q p _ _ hp⟩
      · refine iteF ?_
        exact ⟨_, rfl, _, rfl, by show 2 ≤ sizeLine; decide, fun p hp => q p _ _ hp⟩
theorem scDraw : FnScope ["source", "span", "found"] ["source", "span"] (defScope sDraw) := ⟨rfl, rfl, rfl, by decide +kernel, rfl, by decide +kernel, by decide +kernel⟩
theorem ok_draw (G : Gn mg) (F : FnP K "_law_draw" sDraw f fd) : FnOk P w K mg base CX0 1 f fd ["source", "span"] spDraw := by
  refine F.ok scDraw (fun vs H Q E h => ?_) (fun cdv A outer s H vs Q E hr h => ?_)
  · obtain ⟨_, _, rfl, _⟩ := h
    rfl
  · obtain ⟨a, span, rfl, ⟨own, mixed, hS⟩, h0, h1, q⟩ := h
    refine ⟨_, PSs.nox (pss_cons (ps_if (pt_cmpR op_ge (pe_ix ix_list (pv 0) pe_int (fun _ _ => rfl)) (pv 1) (nomark _))
        (pss_cons (ps_set (i := 2) scDraw.nd rfl (.inl rfl) (pe_op op_mod (pe_callTy call_int1 (by rfl) G.int bInt (pa_cons (pe_ix ix_list (pv 0) pe_int (fun _ _ => rfl)) pa_nil)) (pv 1)))
        (pss_cons (ps_asg (pe_op op_fdivW (pe_ix ix_list (pv 0) pe_int (fun _ _ => rfl)) (pv 1)) (pg_sub (pv 0) pe_int set_list))
        (pss_one (ps_ret (pv 2))))) pss_nil)
      (pss_cons (ps_asg (pe_op op_mod (pe_callTy call_int1 (by rfl) G.int bInt (pa_cons (pe_op op_add (pe_op op_mul (pe_ix ix_list (pv 0) pe_int (fun _ _ => rfl)) pe_int) pe_int) pa_nil)) pe_int) (pg_sub (pv 0) pe_int set_list))
      (pss_one (ps_ret (pe_op op_mod (pe_callTy call_int1 (by rfl) G.int bInt (pa_cons (pe_op op_fdiv (pe_op op_mod (pe_callTy call_int1 (by rfl) G.int bInt (pa_cons (pe_op op_pow (pe_callTy call_int1 (by rfl) G.int bInt (pa_cons (pe_ix ix_list (pv 0) pe_int (fun _ _ => rfl)) pa_nil)) pe_int) pa_nil)) pe_int) pe_int) pa_nil)) (pv 1)))))), ?_⟩
    have hL : SqL K H a [.int own, .int mixed] := SqL.of hS
    have fin : ∀ {o1 m1 f1 : Int}, 0 ≤ f1 → f1 < span → Q (.int f1) (upd H a (.lst [.int o1, .int m1])) := fun z1 z2 => q _ _ .draw (fun b n => upd_ne n) z1 z2
    refine ⟨_, rfl, a, _, 0, .int own, rfl, rfl, hL, atI_nat (j := 0) rfl, _, rfl, _, _, rfl, rfl, _, rfl, ite2 (fun hge => ?_) (fun hlt => ?_)⟩
    · refine ⟨_, rfl, a, _, 0, .int own, rfl, rfl, hL, atI_nat (j := 0) rfl, .inl ⟨_, rfl, _, rfl, _, _, rfl, rfl, h0, ?_⟩⟩
      refine ⟨_, rfl, a, _, 0, .int own, rfl, rfl, hL, atI_nat (j := 0) rfl, _, rfl, _, _, rfl, rfl, wide_div h0 (b := 60) (by omega) (by decide) (by decide), ?_⟩
      refine ⟨_, rfl, a, _, 0, 0, rfl, rfl, hS, rfl, ?_⟩
      exact ⟨_, rfl, fin (Int.emod_nonneg _ (by omega)) (Int.emod_lt_of_pos _ h0)⟩
    · refine ⟨_, rfl, a, _, 1, .int mixed, rfl, rfl, hL, atI_nat (j := 1) rfl, _, _, rfl, rfl, .inr ⟨by decide, by decide⟩, _, _, rfl, rfl, .inl ⟨_, rfl, _, _, rfl, rfl, (by show (0 : Int) < 2147483647; decide), ?_⟩⟩
      refine ⟨_, rfl, a, _, 1, 1, rfl, rfl, hS, rfl, ?_⟩
      have hm : 0 ≤ (mixed * 48271 + 6113) % 2147483647 ∧ (mixed * 48271 + 6113) % 2147483647 < 2147483647 := ⟨Int.emod_nonneg _ (by decide), Int.emod_lt_of_pos _ (by decide)⟩
      refine ⟨_, rfl, a, _, 1, .int ((mixed * 48271 + 6113) % 2147483647), rfl, rfl, SqL.of upd_same, atI_nat (j := 1) rfl, .inl ⟨_, rfl, _, _, rfl, rfl, ⟨by decide, by decide, by omega⟩, .inl ⟨_, rfl, _, _, rfl, rfl, (by show (0 : Int) < 1000000007; decide), _, _, rfl, rfl, ⟨by decide, by decide⟩, .inl ⟨_, rfl, _, rfl, _, _, rfl, rfl, h0, ?_⟩⟩⟩⟩
      exact fin (Int.emod_nonneg _ (by omega)) (Int.emod_lt_of_pos _ h0)
theorem scPick : FnScope ["source", "things"] ["source", "things"] (defScope sPick) := ⟨rfl, rfl, rfl, by decide +kernel, rfl, by decide +kernel, by decide +kernel⟩
theorem ok_pick (G : Gn mg) (F : FnP K "_law_pick" sPick f fd) (hD : Has P w K mg base CX0 "_law_draw" 1 ["source", "span"] spDraw) : FnOk P w K mg base CX0 2 f fd ["source", "things"] (spPick K) := by
  obtain ⟨fD, dD, oD, bD, gD, kD⟩ := hD.ex
  refine F.ok scPick (fun vs H Q E h => ?_) (fun cdv A outer s H vs Q E hr h => ?_)
  · obtain ⟨_, _, _, rfl, _⟩ := h
    rfl
  · obtain ⟨a, v, xs, rfl, hS, hX, h0, h1, q⟩ := h
    refine ⟨_, PSs.nox (pss_one (ps_ret (pe_ix ix_seq (pv 1) (pe_call oD hr (by rfl) gD kD bD .nil pass0 (pa_cons (pv 0) (pa_cons (pe_callB call_len (by rfl) G.len bLen (pa_cons (pv 1) pa_nil)) pa_nil))) (fun _ _ => rfl)))), ?_⟩
    have hpos : 0 < xs.length := List.length_pos_iff.mpr h0
    refine ⟨_, rfl, _, rfl, _, rfl, _, xs.length, rfl, (hX.same del_all).len, a, (xs.length : Int), rfl, hS, by omega, by omega, fun H' found m eqs h2 h3 => ?_⟩
    obtain ⟨x, hx⟩ : ∃ x, xs[found.toNat]? = some x := ⟨_, List.getElem?_eq_getElem (by omega)⟩
    have e : found = ((found.toNat : Nat) : Int) := by omega
    rw [e]
    exact ((hX.same m.same).same del_all).ix hx (q H' x m eqs (List.mem_of_getElem? hx))
end
end Bs
set_option Elab.async false
set_option linter.all false
set_option maxRecDepth 100000
set_option maxHeartbeats 2000000
namespace L2
namespace Pl
open PySem PySem.Spec PyProof.Rows
/-- not an instance of a builtin type -/
def NotTy (K : PySem.W.Frag) (H : Hp) (c : String) (v : V) : Prop := ∃ t, TyX K H v t ∧ PySem.W.kitOne K t (.type c) = some false
theorem tyI {K : PySem.W.Frag} {H : Hp} (n : Int) : TyX K H (.int n) (.type "int") := .base (.int n)
theorem tyB {K : PySem.W.Frag} {H : Hp} (b : Bool) : TyX K H (.bl b) (.type "bool") := .base (.bl b)
theorem kitI {K : PySem.W.Frag} : PySem.W.kitOne K (.type "int") (.type "int") = some true := kit_ty (by decide +kernel)
theorem kitBI {K : PySem.W.Frag} : PySem.W.kitOne K (.type "bool") (.type "int") = some true := kit_ty (by decide +kernel)
theorem kitBB {K : PySem.W.Frag} : PySem.W.kitOne K (.type "bool") (.type "bool") = some true := kit_ty (by decide +kernel)
theorem kitIB {K : PySem.W.Frag} : PySem.W.kitOne K (.type "int") (.type "bool") = some false := kit_ty (by decide +kernel)
/-- what is_between tells of any value: n stands for an int's value -/
inductive Btw (K : PySem.W.Frag) (H : Hp) (a b : Int) : V → Bool → Prop
  | int (n : Int) : Btw K H a b (.int n) (decide (a ≤ n) && decide (n ≤ b))
  | bl (x : Bool) : Btw K H a b (.bl x) false
  | no {v : V} : NotTy K H "int" v → Btw K H a b v false
def spBetween (K : PySem.W.Frag) : Sp := fun vs H Q _ => ∃ v a b k, vs = [v, .int a, .int b] ∧ Btw K H a b v k ∧ Q (.bl k) H
end Pl
end L2
namespace Bs
open PySem PySem.Spec PyProof.Rows L2 L2.Pl
section
variable {P : Program} {w : World} {K : PySem.W.Frag} {mg : Str → Option Value} {base : Heap} {f : Addr} {fd : FuncData}
theorem bSorted : bootBuiltins "sorted" = some (.builtin "sorted") := by decide +kernel
theorem bBool : bootBuiltins "bool" = some (.type "bool") := by decide +kernel
theorem scBetween : FnScope ["value", "least", "most"] ["value", "least", "most"] (defScope sBetween) := ⟨rfl, rfl, rfl, by decide +kernel, rfl, by decide +kernel, by decide +kernel⟩
theorem ok_between (G : Gn mg) (hbo : mg "bool" = none) (F : FnP K "is_between" sBetween f fd) : FnOk P w K mg base CX0 1 f fd ["value", "least", "most"] (spBetween K) := by
  refine F.ok scBetween (fun vs H Q E h => ?_) (fun cdv A outer s H vs Q E hr h => ?_)
  · obtain ⟨_, _, _, _, rfl, _⟩ := h
    rfl
  · obtain ⟨v, a, b, k, rfl, h, q⟩ := h
    refine ⟨_, PSs.nox (pss_cons (ps_if (PW.pt (pw_or (pt_not (pt_val (pe_callB call_isi (by rfl) G.isi bIsi (pa_cons (pv 0) (pa_cons (pe_bltn (v := .ty "int") (by rfl) G.int bInt rfl) pa_nil))))) (pw_or1 (pt_val (pe_callB call_isi (by rfl) G.isi bIsi (pa_cons (pv 0) (pa_cons (pe_bltn (v := .ty "bool") (by rfl) hbo bBool rfl) pa_nil)))))))
        (pss_one (ps_ret pe_bl)) pss_nil)
      (pss_one (ps_ret (pe_chain op_le op_le (pv 1) (pv 0) (pv 2))))), ?_⟩
    cases h with
    | int n =>
      refine ⟨_, rfl, .int n, .ty "int", _, _, true, rfl, .ty _, tyI n, kitI, true, rfl, ?_⟩
      refine iteF (A := Q (.bl false) H) ?_
      refine ⟨_, rfl, .int n, .ty "bool", _, _, false, rfl, .ty _, tyI n, kitIB, ?_⟩
      refine ⟨_, rfl, ?_⟩
      refine iteF (A := Q (.bl false) H) ?_
      refine ⟨_, rfl, _, rfl, _, _, rfl, rfl, _, rfl, ?_⟩
      cases h1 : decide (a ≤ n) with
      | false =>
        rw [h1] at q
        exact iteF q
      | true =>
        rw [h1] at q
        exact iteT ⟨_, rfl, _, _, rfl, rfl, q⟩
    | bl x =>
      refine ⟨_, rfl, .bl x, .ty "int", _, _, true, rfl, .ty _, tyB x, kitBI, true, rfl, ?_⟩
      refine iteF (A := Q (.bl false) H) ?_
      refine ⟨_, rfl, .bl x, .ty "bool", _, _, true, rfl, .ty _, tyB x, kitBB, ?_⟩
      refine ⟨_, rfl, ?_⟩
      exact iteT q
    | no nt =>
      obtain ⟨t, ty, kt⟩ := nt
      refine ⟨_, rfl, v, .ty "int", _, _, false, rfl, .ty _, ty, kt, false, rfl, ?_⟩
      exact iteT q
end
end Bs
set_option Elab.async false
set_option linter.all false
set_option maxRecDepth 100000
set_option maxHeartbeats 2000000
namespace L2
namespace Pl
open PySem PySem.Spec PyProof.Rows
theorem same_wrJ {H H' : Hp} {p : Addr} {o : HO} (m : Same H H') (hp : H p = none) : Same H (upd H' p o) := fun b x e => (upd_ne (ne_of_none e hp)).trans (m b x e)
/-- a comprehension over n turns, none left out; M holds of all heaps on the way -/
theorem lc_jx {J : It} {n : Nat} {G : Hp → Prop} {Y : Nat → Hp → V → Hp → Prop} (w : Walk J n G Y) {g : TG} {tt : TT} {te : TE} {vs : List Nat} {σ : St} {H1 : Hp} {D : Addr} {Qd : Hp → Prop}
    (R : Nat → V → Prop) (hD : H1 D = none) (hG : ∀ H, Same H1 H → G H) (hlen : n ≤ 1000)
    (step : ∀ (i : Nat) (x : V) (H H' : Hp) (N : Hp → Prop) (YK : VK), i < n → Same H1 H → (∃ o, H D = some o) → Y i H x H' → (∀ y H4, Same H1 H4 → H4 D = H D → R i y → YK y H4) →
      g x (wipe σ vs) H' fun σ2 H2 => wipe σ2 vs = wipe σ vs ∧ tt σ2 H2 fun b H3 => if b = true then te σ2 H3 YK else N H3)
    (hd : ∀ H ys, Same H1 H → H D = some (.lst ys) → ys.length = n → (∀ (i : Nat) y, ys[i]? = some y → R i y) → Qd H) :
    ∃ W : Nat → Nat → Hp → Prop, (∃ m, W 0 m (upd H1 D (.lst []))) ∧ ∀ i m H, W i m H →
      (J.stop i H ∧ Qd H) ∨ (J.go i H ∧ ∃ Nx : Hp → Prop, (∀ H', Nx H' → ∃ m', m' < m ∧ W (i + 1) m' H') ∧ ∀ x H', J.yld i H x H' → g x (wipe σ vs) H' fun σ2 H2 => wipe σ2 vs = wipe σ vs ∧ tt σ2 H2 fun b H3 =>
        if b = true then te σ2 H3 fun y H4 => ∃ acc, H4 D = some (.lst acc) ∧ acc.length < sizeLine ∧ Nx (upd H4 D (.lst (acc ++ [y]))) else Nx H3) := by
  refine lc_it w (fun i H => Same H1 H ∧ ∃ ys, H D = some (.lst ys) ∧ ys.length = i ∧ ∀ (j : Nat) y, ys[j]? = some y → R j y) ⟨same_new hD, [], upd_same, rfl, fun j y h => by cases h⟩ (fun i H _ p => hG H p.1) ?_ ?_
  · rintro i x H H' hi ⟨hm, ys, hy, hl, hp⟩ hx
    refine step i x H H' _ _ hi hm ⟨_, hy⟩ hx fun y H4 m4 e4 r => ⟨ys, e4.trans hy, by rw [sizeLine_eq]; omega, same_wrJ m4 hD, ys ++ [y], upd_same, by rw [List.length_append, hl]; rfl, fun j z hj => ?_⟩
    by_cases hji : j < ys.length
    · rw [List.getElem?_append_left hji] at hj
      exact hp j z hj
    · have hlt := (List.getElem?_eq_some_iff.mp hj).1
      rw [List.length_append, List.length_singleton] at hlt
      obtain rfl : j = ys.length := by omega
      rw [List.getElem?_append_right (Nat.le_refl _), Nat.sub_self] at hj
      obtain rfl := Option.some.inj hj
      rw [hl]
      exact r
  · rintro H ⟨hm, ys, hy, hl, hp⟩
    exact hd H ys hm hy hl hp
theorem boolsJ_of : ∀ {ys : List V} {f : Nat → Bool}, (∀ (i : Nat) y, ys[i]? = some y → y = V.bl (f i)) → ys = ((List.range ys.length).map f).map V.bl := by
  intro ys f h
  apply List.ext_getElem?
  intro i
  cases e : ys[i]? with
  | none =>
    have := List.getElem?_eq_none_iff.mp e
    rw [List.getElem?_eq_none (by simp; omega)]
  | some y =>
    have hlt := (List.getElem?_eq_some_iff.mp e).1
    rw [h i y e, List.getElem?_map, List.getElem?_map, List.getElem?_range hlt]
    rfl

theorem rangeV_all {us : List V} {p : V → Bool} : ((List.range us.length).map fun i => p (us[i]?.getD .non)).all id = us.all p := by
  rw [Bool.eq_iff_iff, List.all_map, List.all_eq_true, List.all_eq_true]
  constructor
  · intro h x hx
    obtain ⟨i, hi⟩ := List.mem_iff_getElem?.mp hx
    have := h i (List.mem_range.mpr (List.getElem?_eq_some_iff.mp hi).1)
    simpa [hi] using this
  · intro h i hi
    have lt := List.mem_range.mp hi
    have := h us[i] (List.getElem_mem lt)
    simpa [List.getElem?_eq_getElem lt] using this
abbrev sW (ws : List Str) : List V := ws.map V.str
theorem flatW : ∀ ws : List Str, (sW ws).all flatV = true
  | [] => rfl
  | _ :: r => flatW r
theorem inV_ref {a : Addr} : ∀ {ws : List Str}, inV (.ref a) (sW ws) = false
  | [] => rfl
  | w :: r => by
    have ih := inV_ref (a := a) (ws := r)
    unfold inV at ih ⊢
    dsimp only [sW] at ih ⊢
    rw [List.map_cons, List.any_cons, ih]
    rfl
theorem inV_txt {x : Str} : ∀ {ws : List Str}, inV (.str x) (sW ws) = decide (x ∈ ws)
  | [] => by simp [inV]
  | a :: r => by
    have ih := inV_txt (x := x) (ws := r)
    unfold inV at ih ⊢
    dsimp only [sW] at ih ⊢
    rw [List.map_cons, List.any_cons, ih]
    have e : eqV (.str a) (.str x) = decide (x = a) := by
      show (a == x) = _
      by_cases h : x = a
      · subst h
        simp
      · have h2 : (a == x) = false := beq_eq_false_iff_ne.mpr (Ne.symm h)
        rw [h2, decide_eq_false h]
    rw [e]
    by_cases h : x = a
    · simp [h]
    · simp [h]
/-- a list or a tuple -/
def SqB (K : PySem.W.Frag) (H : Hp) (a : Addr) (us : List V) : Prop := SqL K H a us ∨ SqT K H a us
theorem seqT_keep {K : PySem.W.Frag} {H H' : Hp} {a : Addr} {xs : List V} (h : SqT K H a xs) (m : Same H H') : SqT K H' a xs := by
  rcases h with (h | ⟨o, h⟩) | h
  · exact .inl (.inl (m _ _ h))
  · exact .inl (.inr ⟨o, m _ _ h⟩)
  · exact .inr h
theorem SqB.same {K : PySem.W.Frag} {H H' : Hp} {a : Addr} {us : List V} (h : SqB K H a us) (m : Same H H') : SqB K H' a us := h.imp (fun h => m.seq h) fun h => seqT_keep h m
theorem kitL_LT {K : PySem.W.Frag} : PySem.W.kitAny K (.type "list") [.type "list", .type "tuple"] = some true := kitAny_cons (b := true) (kit_ty (by decide +kernel)) (fun z => by cases z) (fun _ => rfl)
theorem kitT_LT {K : PySem.W.Frag} : PySem.W.kitAny K (.type "tuple") [.type "list", .type "tuple"] = some true := kitAny_cons (b := false) (kit_ty (by decide +kernel)) (fun _ => kitAny_cons (b := true) (kit_ty (by decide +kernel)) (fun z => by cases z) (fun _ => rfl)) (fun z => by cases z)
theorem SqB.ty {K : PySem.W.Frag} {H : Hp} {a : Addr} {us : List V} (h : SqB K H a us) : ∃ t, TyX K H (.ref a) t ∧ PySem.W.kitAny K t [.type "list", .type "tuple"] = some true := by
  rcases h with ((h | ⟨o, h⟩) | ⟨o, _, _, h, c, _⟩) | ((h | ⟨o, h⟩) | ⟨o, _, _, h, c, _⟩)
  · exact ⟨_, .base (.lst h), kitL_LT⟩
  · exact ⟨_, .base (.frz h), kitL_LT⟩
  · exact ⟨_, .kList h c, kitL_LT⟩
  · exact ⟨_, .base (.tup h), kitT_LT⟩
  · exact ⟨_, .fTuple h, kitT_LT⟩
  · exact ⟨_, .kTuple h c, kitT_LT⟩
def gws : List Str := ["once", "stamp"]
/-- a flat value, or a box -/
def PlainV (K : PySem.W.Frag) (H : Hp) (v : V) : Prop := flatV v = true ∨ BoxV K H v
/-- what right_guards tells of any value -/
inductive GuK (K : PySem.W.Frag) (H : Hp) : V → Bool → Prop
  | no {v : V} {t : Value} : TyX K H v t → PySem.W.kitAny K t [.type "list", .type "tuple"] = some false → GuK K H v false
  | long {a : Addr} {us : List V} : SqB K H a us → 2 < us.length → us.length ≤ 1000 → GuK K H (.ref a) false
  | bad {a : Addr} {us : List V} : SqB K H a us → us.length ≤ 2 → (∀ u ∈ us, PlainV K H u) → us.all (fun u => inV u (sW gws)) = false → GuK K H (.ref a) false
  | good {a : Addr} {ws : List Str} : SqB K H a (sW ws) → ws.length ≤ 2 → (∀ x ∈ ws, x ∈ gws) → GuK K H (.ref a) (decide ws.Nodup)
def spGuards (K : PySem.W.Frag) : Sp := fun vs H Q _ => ∃ v k, vs = [v] ∧ GuK K H v k ∧ ∀ H', Same H H' → Q (.bl k) H'
theorem tyKeep {K : PySem.W.Frag} {H H' : Hp} {v : V} {t : Value} (h : TyX K H v t) (m : Same H H') : TyX K H' v t := by
  cases h with
  | base b =>
    refine .base ?_
    cases b with
    | non => exact .non
    | bl x => exact .bl x
    | int x => exact .int x
    | str x => exact .str x
    | flt x => exact .flt x
    | lst e => exact .lst (m _ _ e)
    | frz e => exact .frz (m _ _ e)
    | tup e => exact .tup (m _ _ e)
    | dK e => exact .dK (m _ _ e)
    | dT e => exact .dT (m _ _ e)
    | ins e cl ha hn htk hm => exact .ins (m _ _ e) cl ha hn htk hm
  | byt b => exact .byt b
  | set e => exact .set (m _ _ e)
  | kList e c => exact .kList e c
  | kTuple e c => exact .kTuple e c
  | kDict e c => exact .kDict e c
  | fTuple e => exact .fTuple (m _ _ e)
  | fDict e => exact .fDict (m _ _ e)
theorem BoxV.keep {K : PySem.W.Frag} {H H' : Hp} {v : V} (h : BoxV K H v) (m : Same H H') : BoxV K H' v := by
  obtain ⟨a, rfl, h⟩ := h
  refine ⟨a, rfl, ?_⟩
  rcases h with ⟨xs, h⟩ | ⟨xs, h⟩ | ⟨kvs, h⟩
  · exact .inl ⟨xs, m.seq h⟩
  · exact .inr (.inl ⟨xs, seqT_keep h m⟩)
  · refine .inr (.inr ⟨kvs, ?_⟩)
    rcases h with h | ⟨o, h⟩
    · exact .inl (m _ _ h)
    · exact .inr ⟨o, m _ _ h⟩
/-- a short row: what it holds, and what is told -/
def Short (K : PySem.W.Frag) (H : Hp) (v : V) (k : Bool) : Prop := ∃ a us, v = .ref a ∧ SqB K H a us ∧ us.length ≤ 2 ∧ (∀ u ∈ us, PlainV K H u) ∧ ((us.all (fun u => inV u (sW gws)) = false ∧ k = false) ∨ ∃ ws, us = sW ws ∧ us.all (fun u => inV u (sW gws)) = true ∧ k = decide ws.Nodup)
def NoSeq (K : PySem.W.Frag) (H : Hp) (v : V) (k : Bool) : Prop := k = false ∧ ∃ t, TyX K H v t ∧ PySem.W.kitAny K t [.type "list", .type "tuple"] = some false
def LongS (K : PySem.W.Frag) (H : Hp) (v : V) (k : Bool) : Prop := k = false ∧ ∃ a us, v = .ref a ∧ SqB K H a us ∧ 2 < us.length
theorem GuK.split {K : PySem.W.Frag} {H : Hp} {v : V} {k : Bool} (h : GuK K H v k) : NoSeq K H v k ∨ LongS K H v k ∨ Short K H v k := by
  cases h with
  | no ty kt => exact .inl ⟨rfl, _, ty, kt⟩
  | long sq l _ => exact .inr (.inl ⟨rfl, _, _, rfl, sq, l⟩)
  | bad sq l pl b => exact .inr (.inr ⟨_, _, rfl, sq, l, pl, .inl ⟨b, rfl⟩⟩)
  | @good a ws sq l gd =>
    refine .inr (.inr ⟨a, sW ws, rfl, sq, by rw [List.length_map]; exact l, fun u hu => ?_, .inr ⟨ws, rfl, ?_, rfl⟩⟩)
    · obtain ⟨x, _, rfl⟩ := List.mem_map.mp hu
      exact .inl rfl
    · rw [List.all_eq_true]
      intro u hu
      obtain ⟨x, hx, rfl⟩ := List.mem_map.mp hu
      rw [inV_txt, decide_eq_true (gd x hx)]
/-- the module's constants -/
structure CstG (K : PySem.W.Frag) (mg : Str → Option Value) : Prop where
  guards : ∃ g, mg "GUARDS" = some (.ref g) ∧ ∀ H, SqT K H g (sW gws)
  ways : ∃ g, mg "WAYS" = some (.ref g) ∧ ∀ H, SqT K H g (sW ["letter", "key", "all"])
  most : ∃ t, mg "MOST_TRIES" = some (.int 3 t)
end Pl
end L2
set_option Elab.async false
set_option linter.all false
set_option maxRecDepth 100000
set_option maxHeartbeats 2000000
namespace Bs
open PySem PySem.Spec PyProof.Rows L2 L2.Pl
section
variable {P : Program} {w : World} {K : PySem.W.Frag} {mg : Str → Option Value} {base : Heap} {f : Addr} {fd : FuncData}
theorem scGuards : FnScope ["value", "entry"] ["value"] (defScope sGuards) := ⟨rfl, rfl, rfl, by decide +kernel, rfl, by decide +kernel, by decide +kernel⟩
theorem ok_guards (G : Gn mg) (C : CstG K mg) (F : FnP K "right_guards" sGuards f fd) : FnOk P w K mg base CX0 2 f fd ["value"] (spGuards K) := by
  obtain ⟨g, hg, sg⟩ := C.guards
  refine F.ok scGuards (fun vs H Q E h => ?_) (fun cdv A outer s H vs Q E hr h => ?_)
  · obtain ⟨_, _, rfl, _⟩ := h
    rfl
  · obtain ⟨v, k, rfl, h, q⟩ := h
    have hu : (A.deeper (envOfC "right_guards" (defScope sGuards) s.heap.objs.size f cdv)).in1.units < cLine := by
      have := (Room.in1 hr).units0
      omega
    refine ⟨_, PSs.nox (pss_cons (ps_if (PW.pt (pw_or (pt_not (pt_val (pe_callB call_isiT (by rfl) G.isi bIsi (pa_cons (pv 0) (pa_cons (pe_tup (pa_cons (pe_bltn (v := .ty "list") (by rfl) G.list bList rfl) (pa_cons (pe_bltn (v := .ty "tuple") (by rfl) G.tuple bTuple rfl) pa_nil))) pa_nil))))) (pw_or1 (pt_cmpR op_gt (pe_callB call_len_seq (by rfl) G.len bLen (pa_cons (pv 0) pa_nil)) (pe_callB call_len_seq (by rfl) G.len bLen (pa_cons (pe_glob (v := .ref g) (by rfl) hg rfl) pa_nil)) (nomark _)))))
        (pss_one (ps_ret pe_bl)) pss_nil)
      (pss_one (ps_ret (pe_and (pe_callB (cr_all rfl) (by rfl) G.all bAll (pa_cons (pe_lc (own := [("entry", 1)]) (g := gName 1) (tt := tYes) (te := tOp (fun x y H Q => rIn K false x y H Q ∨ rInB K false x y H Q) (tVar 1) (tC (.ref g))) rfl scGuards.nd (pi_seq (pv 0)) (blkOk_by (N := ["value", "entry"]) (sc := defScope sGuards) (by decide +kernel)) (fun _ _ _ _ _ => pg_name (i := 1) scGuards.nd rfl (.inl rfl)) (fun _ _ _ _ _ => pts_nil) (fun _ _ _ _ _ => pe_cmpR (op_or op_in_seq (op_inB hu)) (pv 1) (pe_glob (v := .ref g) (by rfl) hg rfl) (by with_unfolding_all rfl))) pa_nil))
        (pe_one (pe_cmpR op_eq (pe_lenSetB rfl (by rfl) G.len (by rfl) G.set (pv 0)) (pe_callB call_len_seq (by rfl) G.len bLen (pa_cons (pv 0) pa_nil)) (nomark _))))))), ?_⟩
    rcases h.split with ⟨rfl, t0, ty, kt⟩ | ⟨rfl, a, us, rfl, sq, l2⟩ | ⟨a, us, rfl, sq, l2, pl, al⟩
    · refine ⟨_, rfl, by show 2 ≤ sizeLine; decide, fun t ht => ⟨v, t, _, _, _, false, rfl, upd_same, .cons (.ty _) (.cons (.ty _) .nil), tyKeep ty (same_new ht), kt, false, rfl, ?_⟩⟩
      exact iteT (q _ (same_new ht))
    · obtain ⟨t0, ty, kt⟩ := sq.ty
      refine ⟨_, rfl, by show 2 ≤ sizeLine; decide, fun t ht => ⟨.ref a, t, _, _, _, true, rfl, upd_same, .cons (.ty _) (.cons (.ty _) .nil), tyKeep ty (same_new ht), kt, true, rfl, ?_⟩⟩
      have m1 : Same H (upd H t (.tup [.ty "list", .ty "tuple"])) := same_new ht
      refine iteF (A := Q (.bl false) _) ⟨_, rfl, a, us, rfl, sq.same m1, g, _, rfl, .inr (sg _), _, _, rfl, rfl, _, rfl, ?_⟩
      rw [show decide (((List.length (sW gws) : Nat) : Int) < ((us.length : Nat) : Int)) = true from decide_eq_true (by show (2 : Int) < _; omega)]
      exact iteT (q _ m1)
    · obtain ⟨t0, ty, kt⟩ := sq.ty
      refine ⟨_, rfl, by show 2 ≤ sizeLine; decide, fun t ht => ⟨.ref a, t, _, _, _, true, rfl, upd_same, .cons (.ty _) (.cons (.ty _) .nil), tyKeep ty (same_new ht), kt, true, rfl, ?_⟩⟩
      have m1 : Same H (upd H t (.tup [.ty "list", .ty "tuple"])) := same_new ht
      refine iteF (A := Q (.bl false) _) ⟨_, rfl, a, us, rfl, sq.same m1, g, _, rfl, .inr (sg _), _, _, rfl, rfl, _, rfl, ?_⟩
      rw [show decide (((List.length (sW gws) : Nat) : Int) < ((us.length : Nat) : Int)) = false from decide_eq_false (by show ¬ (2 : Int) < _; omega)]
      have pl1 : ∀ u ∈ us, PlainV K (upd H t (.tup [.ty "list", .ty "tuple"])) u := fun u hu => (pl u hu).imp id fun z => z.keep m1
      refine iteF ?_
      have fin0 : ∀ H2, Same (upd H t (.tup [.ty "list", .ty "tuple"])) H2 → ∃ c, V.bl (us.all fun u => inV u (sW gws)) = V.bl c ∧ if c = true then tOp rEq (tLenSetB K (tVar 0)) (tCB (fun xs H Q => ∃ p ys, xs = [.ref p] ∧ (SqL K H p ys ∨ SqT K H p ys) ∧ Q (.int ys.length) H) (tCons (tVar 0) tNil)) (start ["value", "entry"] [.ref a]) H2 Q else Q (.bl false) H2 := fun H2 m2 => by
        rcases al with ⟨e1, e2⟩ | ⟨ws, rfl, e1, e2⟩
        · rw [e1]
          subst e2
          exact ⟨_, rfl, iteF (q _ (m1.trans m2))⟩
        · rw [e1]
          have lw : (sW ws).length = ws.length := List.length_map _
          refine ⟨_, rfl, iteT ⟨_, rfl, a, ws, rfl, (sq.same m1).same m2, by omega, _, rfl, a, sW ws, rfl, (sq.same m1).same m2, rfl, ?_⟩⟩
          have e3 : decide (V.int ((PlayL.metS ws).length : Nat) = V.int ((sW ws).length : Nat)) = k := by
            rw [e2, lw, Bool.eq_iff_iff, decide_eq_true_iff, decide_eq_true_iff, ← PlayL.metS_nd _ ws rfl]
            constructor
            · intro z
              injection z with z
              omega
            · intro z
              rw [z]
          show Q (.bl (decide (V.int ((PlayL.metS ws).length : Nat) = V.int ((sW ws).length : Nat)))) H2
          rw [e3]
          exact q H2 (m1.trans m2)
      rcases sq.same m1 with hs | hs
      · refine .inl ⟨_, rfl, a, rfl, ⟨_, hs⟩, fun D hD => ?_⟩
        refine lc_jx (walk_list (K := K) (a := a) (xs := us)) (fun i y => y = .bl (inV (us[i]?.getD .non) (sW gws))) hD (fun H2 m2 => m2.seq hs) (by omega) (fun i x H2 H3 N YK hi m2 iD hx ky => ?_) (fun H2 ys m2 hy ly ry => ?_)
        · obtain ⟨rfl, hx⟩ := hx
          have fin : YK (.bl (inV x (sW gws))) H3 := ky _ _ m2 rfl (by rw [hx]; rfl)
          refine ⟨rfl, iteT (B := N H3) ⟨_, rfl, ?_⟩⟩
          rcases pl1 x (List.mem_of_getElem? hx) with fl | bx
          · exact .inl ⟨g, _, rfl, .inr (sg _), fl, flatW _, fin⟩
          · have e0 : inV x (sW gws) = false := by
              obtain ⟨b, rfl, _⟩ := id bx
              exact inV_ref
            rw [e0] at fin
            exact .inr ⟨g, gws, rfl, .inr (sg _), bx.keep m2, fin⟩
        · have e := boolsJ_of (f := fun i => inV (us[i]?.getD .non) (sW gws)) ry
          rw [ly] at e
          refine ⟨D, _, rfl, SqL.of (hy.trans (congrArg (fun z => some (HO.lst z)) e)), ?_⟩
          rw [rangeV_all (p := fun u => inV u (sW gws))]
          exact fin0 H2 m2
      · refine .inr ⟨_, rfl, a, rfl, ⟨_, hs⟩, fun D hD => ?_⟩
        refine lc_jx (walk_tup (K := K) (a := a) (xs := us)) (fun i y => y = .bl (inV (us[i]?.getD .non) (sW gws))) hD (fun H2 m2 => seqT_keep hs m2) (by omega) (fun i x H2 H3 N YK hi m2 iD hx ky => ?_) (fun H2 ys m2 hy ly ry => ?_)
        · obtain ⟨rfl, hx⟩ := hx
          have fin : YK (.bl (inV x (sW gws))) H3 := ky _ _ m2 rfl (by rw [hx]; rfl)
          refine ⟨rfl, iteT (B := N H3) ⟨_, rfl, ?_⟩⟩
          rcases pl1 x (List.mem_of_getElem? hx) with fl | bx
          · exact .inl ⟨g, _, rfl, .inr (sg _), fl, flatW _, fin⟩
          · have e0 : inV x (sW gws) = false := by
              obtain ⟨b, rfl, _⟩ := id bx
              exact inV_ref
            rw [e0] at fin
            exact .inr ⟨g, gws, rfl, .inr (sg _), bx.keep m2, fin⟩
        · have e := boolsJ_of (f := fun i => inV (us[i]?.getD .non) (sW gws)) ry
          rw [ly] at e
          refine ⟨D, _, rfl, SqL.of (hy.trans (congrArg (fun z => some (HO.lst z)) e)), ?_⟩
          rw [rangeV_all (p := fun u => inV u (sW gws))]
          exact fin0 H2 m2
end
end Bs
set_option Elab.async false
set_option linter.all false
set_option maxRecDepth 100000
set_option maxHeartbeats 2000000
namespace L2
namespace Pl
open PySem PySem.Spec PyProof.Rows
def wws : List Str := ["letter", "key", "all"]
theorem btwKeep {K : PySem.W.Frag} {H H' : Hp} {a b : Int} {v : V} {k : Bool} (h : Btw K H a b v k) (m : Same H H') : Btw K H' a b v k := by
  cases h with
  | int n => exact .int n
  | bl x => exact .bl x
  | no nt =>
    obtain ⟨t, ty, kt⟩ := nt
    exact .no ⟨t, tyKeep ty m, kt⟩
theorem sqb_off {K : PySem.W.Frag} {H : Hp} {a x C dx : Addr} {us : List V} {fs : List (Str × V)} {o : HO} (h : SqB K H a us) (hx : H x = some (.ins C dx fs)) : SqB K (upd H x o) a us := by
  have ne : ∀ u, H a = some u → (∀ C dx fs, u ≠ .ins C dx fs) → a ≠ x := fun u e n z => by
    subst z
    rw [hx] at e
    exact n _ _ _ (Option.some.inj e).symm
  rcases h with ((h | ⟨o, h⟩) | h) | ((h | ⟨o, h⟩) | h)
  · exact .inl (.inl (.inl ((upd_ne (ne _ h (fun _ _ _ z => nomatch z))).trans h)))
  · exact .inl (.inl (.inr ⟨o, (upd_ne (ne _ h (fun _ _ _ z => nomatch z))).trans h⟩))
  · exact .inl (.inr h)
  · exact .inr (.inl (.inl ((upd_ne (ne _ h (fun _ _ _ z => nomatch z))).trans h)))
  · exact .inr (.inl (.inr ⟨o, (upd_ne (ne _ h (fun _ _ _ z => nomatch z))).trans h⟩))
  · exact .inr (.inr h)
/-- guards ascending -/
def srtG (ws : List Str) : List Str := gws.filter fun g => decide (g ∈ ws)
theorem srt_short : ∀ ys : List Str, ys.length ≤ 2 → (∀ y ∈ ys, y ∈ gws) → ys.Nodup → sortedS ys = true → ys = srtG ys := by
  have h : ∀ ys ∈ ([[], ["once"], ["stamp"], ["once", "once"], ["once", "stamp"], ["stamp", "once"], ["stamp", "stamp"]] : List (List Str)), ys.Nodup → sortedS ys = true → ys = srtG ys := by
    intro ys hy nd so
    rcases List.mem_cons.mp hy with rfl | hy
    · decide +kernel
    rcases List.mem_cons.mp hy with rfl | hy
    · decide +kernel
    rcases List.mem_cons.mp hy with rfl | hy
    · decide +kernel
    rcases List.mem_cons.mp hy with rfl | hy
    · exact absurd nd (by decide +kernel)
    rcases List.mem_cons.mp hy with rfl | hy
    · decide +kernel
    rcases List.mem_cons.mp hy with rfl | hy
    · exact absurd so (by decide +kernel)
    rcases List.mem_cons.mp hy with rfl | hy
    · exact absurd nd (by decide +kernel)
    · cases hy
  intro ys l2 hm nd so
  refine h ys ?_ nd so
  match ys, l2, hm with
  | [], _, _ => exact List.mem_cons_self ..
  | [a], _, hm =>
    have := hm a (List.mem_cons_self ..)
    simp [gws] at this ⊢
    rcases this with rfl | rfl <;> simp
  | [a, b], _, hm =>
    have h1 := hm a (List.mem_cons_self ..)
    have h2 := hm b (List.mem_cons_of_mem _ (List.mem_cons_self ..))
    simp [gws] at h1 h2 ⊢
    rcases h1 with rfl | rfl <;> rcases h2 with rfl | rfl <;> simp
theorem srt_perm {ys ws : List Str} (l2 : ws.length ≤ 2) (hm : ∀ y ∈ ws, y ∈ gws) (nd : ws.Nodup) (p : ys.Perm ws) (so : sortedS ys = true) : ys = srtG ws := by
  have e := srt_short ys (by rw [p.length_eq]; exact l2) (fun y hy => hm y (p.mem_iff.mp hy)) (p.nodup_iff.mpr nd) so
  rw [e]
  unfold srtG
  refine List.filter_congr fun g _ => ?_
  rw [Bool.eq_iff_iff, decide_eq_true_iff, decide_eq_true_iff]
  exact p.mem_iff (a := g)
theorem putJ_end {f : Str} {v : V} : ∀ {fs : List (Str × V)}, (∀ p ∈ fs, p.1 ≠ f) → putF f v fs = fs ++ [(f, v)]
  | [], _ => rfl
  | (g, x) :: r, h => by
    show (if g = f then (g, v) :: r else (g, x) :: putF f v r) = _
    rw [if_neg (h (g, x) (List.mem_cons_self ..)), putJ_end fun p hp => h p (List.mem_cons_of_mem _ hp)]
    rfl
def noneJ (f : Str) (gs : List Str) : Bool := gs.all fun g => decide (g ≠ f)
theorem putJ_new {f : Str} {v : V} {fs : List (Str × V)} (h : noneJ f (fs.map (·.1)) = true) : putF f v fs = fs ++ [(f, v)] :=
  putJ_end fun p hp => of_decide_eq_true (List.all_eq_true.mp h p.1 (List.mem_map_of_mem hp))
theorem pl_put2 {a b : V} : putF ("_guards" : Str) b [(("_way" : Str), a)] = [(("_way" : Str), a), (("_guards" : Str), b)] := putJ_new (by show noneJ ("_guards" : Str) ["_way"] = true; decide +kernel)
theorem pl_put3 {a b c : V} : putF ("_tries" : Str) c [(("_way" : Str), a), (("_guards" : Str), b)] = [(("_way" : Str), a), (("_guards" : Str), b), (("_tries" : Str), c)] := putJ_new (by show noneJ ("_tries" : Str) ["_way", "_guards"] = true; decide +kernel)
/-- a way, or none -/
inductive WayK (K : PySem.W.Frag) (H : Hp) : V → Bool → Prop
  | good {z : Str} : z ∈ wws → WayK K H (.str z) true
  | flat {v : V} : flatV v = true → inV v (sW wws) = false → WayK K H v false
  | box {v : V} : BoxV K H v → WayK K H v false
def RaisesV (E : XK) (CB : Addr) (H : Hp) (v : V) : Prop := ∀ H' d, Same H H' → H' d = none → E (.ref CB) (some d) (upd H' d (.xd [("value", v)]))
structure Pd where
  way : Str
  gs : List Str
  n : Int
def plFs (p : Pd) (t : Addr) : List (Str × V) := [("_way", .str p.way), ("_guards", .ref t), ("_tries", .int p.n)]
/-- a plan -/
def PlAt (C : Addr) (H : Hp) (x : Addr) (p : Pd) : Prop := ∃ dx t, H x = some (.ins C dx (plFs p t)) ∧ H t = some (.tup (sW p.gs))
/-- what comes of three values -/
inductive PlanK (K : PySem.W.Frag) (H : Hp) (wv gv tv : V) : V ⊕ Pd → Prop
  | way : WayK K H wv false → PlanK K H wv gv tv (.inl wv)
  | guards : WayK K H wv true → GuK K H gv false → PlanK K H wv gv tv (.inl gv)
  | tries : WayK K H wv true → GuK K H gv true → Btw K H 1 3 tv false → PlanK K H wv gv tv (.inl tv)
  | good {z : Str} {a : Addr} {ws : List Str} {n : Int} : wv = .str z → z ∈ wws → gv = .ref a → SqB K H a (sW ws) → ws.length ≤ 2 → (∀ x ∈ ws, x ∈ gws) → ws.Nodup → tv = .int n → 1 ≤ n → n ≤ 3 → PlanK K H wv gv tv (.inr ⟨z, srtG ws, n⟩)
structure PlF (K : PySem.W.Frag) (mg : Str → Option Value) (C : Addr) : Prop where
  cl : Cls K C
  n1 : NoAttr K C "_way"
  n2 : NoAttr K C "_guards"
  n3 : NoAttr K C "_tries"
  gC : mg "Plan" = some (.ref C)
def spPlan (K : PySem.W.Frag) (C CB : Addr) : Sp := fun vs H Q E => ∃ (H0 : Hp) (x dx : Addr) (wv gv tv : V) (r : V ⊕ Pd), vs = [.ref x, wv, gv, tv] ∧ Same H0 H ∧ H0 x = none ∧ H x = some (.ins C dx []) ∧ PlanK K H wv gv tv r ∧ (∀ v, r = .inl v → RaisesV E CB H v) ∧ ∀ p, r = .inr p → ∀ H', Same H0 H' → PlAt C H' x p → Q .non H'
end Pl
end L2
namespace Bs
open PySem PySem.Spec PyProof.Rows L2 L2.Pl
section
variable {P : Program} {w : World} {K : PySem.W.Frag} {mg : Str → Option Value} {base : Heap} {f : Addr} {fd : FuncData} {dV : List V} {kV : List (Str × V)}
abbrev NPl : List Str := ["self", "way", "guards", "tries"]
abbrev sPlanI : Stmt := sPlan 0
theorem scPlanI : FnScope NPl ["self", "way", "guards", "tries"] (defScope sPlanI) := ⟨rfl, rfl, rfl, by decide +kernel, rfl, by decide +kernel, by decide +kernel⟩
theorem ok_planI {C CB : Addr} (G : Gn mg) (hso : mg "sorted" = none) (S : CstG K mg) (T : PlF K mg C) (N : RaF P w K mg base "BadPlan" "value" CB) (F : FunD K "__init__" "Plan.__init__" (defArgs sPlanI) (defBody sPlanI) (defScope sPlanI) dV kV f fd)
    (hG : Has P w K mg base CX0 "right_guards" 2 ["value"] (spGuards K)) (hB : Has P w K mg base CX0 "is_between" 1 ["value", "least", "most"] (spBetween K)) :
    FnOk P w K mg base (L2.CX P w) 3 f fd ["self", "way", "guards", "tries"] (spPlan K C CB) := by
  obtain ⟨fG, dG, oG, bG, gG, kG⟩ := hG.ex
  obtain ⟨fB, dB, oB, bB, gB, kB⟩ := hB.ex
  obtain ⟨gw, hgw, sgw⟩ := S.ways
  obtain ⟨tm, hm⟩ := S.most
  obtain ⟨fI, dI, iC, tI, oI, bI⟩ := N.ini
  refine F.ok (CX := L2.CX P w) scPlanI (fun vs H Q E h => ?_) (fun cdv A outer s H vs Q E hr h => ?_)
  · obtain ⟨_, _, _, _, _, _, _, rfl, _⟩ := h
    rfl
  · obtain ⟨H0, x, dx, wv, gv, tv, r, rfl, s0, x0, hx, pk, e, q⟩ := h
    have hu : (A.deeper (envOfC "Plan.__init__" (defScope sPlanI) s.heap.objs.size f cdv)).in1.units < cLine := by
      have := (Room.in1 hr).units0
      omega
    have hr1 := hr.mono (j := 1) (by decide)
    refine ⟨_, pss_cons (ps_if (pt_cmpR (op_or op_notIn_seq (op_notInB hu)) (pv 1) (pe_glob (v := .ref gw) (by rfl) hgw rfl) (by rfl)) (pss_one (ps_raise rfl (takes_of rfl rfl rfl rfl) (pmk_oex N.o iC tI oI hr bI .nil pass0 (by rfl) N.g (pa_cons (pv 1) pa_nil)))) pss_nil)
      (pss_cons (ps_if (pt_not (pt_val (pe_call oG hr (by rfl) gG kG bG .nil pass0 (pa_cons (pv 2) pa_nil)))) (pss_one (ps_raise rfl (takes_of rfl rfl rfl rfl) (pmk_oex N.o iC tI oI hr bI .nil pass0 (by rfl) N.g (pa_cons (pv 2) pa_nil)))) pss_nil)
      (pss_cons (ps_if (pt_not (pt_val (pe_call oB hr1 (by rfl) gB kB bB .nil pass0 (pa_cons (pv 3) (pa_cons pe_int (pa_cons (pe_glob (v := .int 3) (by rfl) hm ⟨_, rfl⟩) pa_nil)))))) (pss_one (ps_raise rfl (takes_of rfl rfl rfl rfl) (pmk_oex N.o iC tI oI hr bI .nil pass0 (by rfl) N.g (pa_cons (pv 3) pa_nil)))) pss_nil)
      (pss_cons (ps_fld (pv 0) (pv 1) rfl)
      (pss_cons (ps_fld (pv 0) (pe_callTy call_tuple_of (by rfl) G.tuple bTuple (pa_cons (pe_callB cr_sortedB (by rfl) hso bSorted (pa_cons (pv 2) pa_nil)) pa_nil)) rfl)
      (pss_one (ps_fld (pv 0) (pv 3) rfl)))))), ?_⟩
    cases pk with
    | way wk =>
      have e0 := e _ rfl
      cases wk with
      | flat fl ni =>
        refine ⟨_, rfl, .inl ⟨gw, _, rfl, .inr (sgw _), fl, flatW _, _, rfl, ?_⟩⟩
        rw [if_pos rfl, show inV wv (sW ["letter", "key", "all"]) = false from ni]
        refine iteT ⟨_, rfl, by show 1 ≤ 1000; decide, fun a ha => ⟨a, wv, rfl, upd_same, fun d hd hne => ⟨rfl, d, _, exH_at, exH_dict hne, (upd_ne hne).symm.trans hd, ?_⟩⟩⟩
        rw [raised_heap ha hne]
        exact e0 _ d (Same.refl H) ((upd_ne hne).symm.trans hd)
      | box bx =>
        refine ⟨_, rfl, .inr ⟨gw, _, rfl, .inr (sgw _), bx, _, rfl, ?_⟩⟩
        refine iteT ⟨_, rfl, by show 1 ≤ 1000; decide, fun a ha => ⟨a, wv, rfl, upd_same, fun d hd hne => ⟨rfl, d, _, exH_at, exH_dict hne, (upd_ne hne).symm.trans hd, ?_⟩⟩⟩
        rw [raised_heap ha hne]
        exact e0 _ d (Same.refl H) ((upd_ne hne).symm.trans hd)
    | guards wk gk =>
      have e0 := e _ rfl
      obtain ⟨z, rfl, hz⟩ : ∃ z, wv = .str z ∧ z ∈ wws := by
        cases wk with
        | good hz => exact ⟨_, rfl, hz⟩
      refine ⟨_, rfl, .inl ⟨gw, _, rfl, .inr (sgw _), rfl, flatW _, _, rfl, ?_⟩⟩
      rw [if_pos rfl, inV_txt, show decide (z ∈ (["letter", "key", "all"] : List Str)) = true from decide_eq_true hz]
      refine iteF ?_
      refine ⟨_, rfl, gv, false, rfl, gk, fun H1 m1 => ⟨false, rfl, ?_⟩⟩
      refine iteT ⟨_, rfl, by show 1 ≤ 1000; decide, fun a ha => ⟨a, gv, rfl, upd_same, fun d hd hne => ⟨rfl, d, _, exH_at, exH_dict hne, (upd_ne hne).symm.trans hd, ?_⟩⟩⟩
      rw [raised_heap ha hne]
      exact e0 _ d m1 ((upd_ne hne).symm.trans hd)
    | tries wk gk bk =>
      have e0 := e _ rfl
      obtain ⟨z, rfl, hz⟩ : ∃ z, wv = .str z ∧ z ∈ wws := by
        cases wk with
        | good hz => exact ⟨_, rfl, hz⟩
      refine ⟨_, rfl, .inl ⟨gw, _, rfl, .inr (sgw _), rfl, flatW _, _, rfl, ?_⟩⟩
      rw [if_pos rfl, inV_txt, show decide (z ∈ (["letter", "key", "all"] : List Str)) = true from decide_eq_true hz]
      refine iteF ?_
      refine ⟨_, rfl, gv, true, rfl, gk, fun H1 m1 => ⟨true, rfl, iteF ?_⟩⟩
      refine ⟨_, rfl, tv, 1, 3, false, rfl, btwKeep bk m1, ⟨false, rfl, ?_⟩⟩
      refine iteT ⟨_, rfl, by show 1 ≤ 1000; decide, fun a ha => ⟨a, tv, rfl, upd_same, fun d hd hne => ⟨rfl, d, _, exH_at, exH_dict hne, (upd_ne hne).symm.trans hd, ?_⟩⟩⟩
      rw [raised_heap ha hne]
      exact e0 _ d m1 ((upd_ne hne).symm.trans hd)
    | @good z a ws n e1 hz e2 sq l2 gd nd e3 n1 n3 =>
      subst e1 e2 e3
      refine ⟨_, rfl, .inl ⟨gw, _, rfl, .inr (sgw _), rfl, flatW _, _, rfl, ?_⟩⟩
      rw [if_pos rfl, inV_txt, show decide (z ∈ (["letter", "key", "all"] : List Str)) = true from decide_eq_true hz]
      refine iteF ?_
      have gk : GuK K H (.ref a) true := by
        have := GuK.good sq l2 gd
        rwa [decide_eq_true nd] at this
      refine ⟨_, rfl, .ref a, true, rfl, gk, fun H1 m1 => ⟨true, rfl, iteF ?_⟩⟩
      have bk : Btw K H1 1 3 (.int n) true := by
        have := Btw.int (K := K) (H := H1) (a := 1) (b := 3) n
        rwa [decide_eq_true n1, decide_eq_true n3] at this
      refine ⟨_, rfl, .int n, 1, 3, true, rfl, bk, ⟨true, rfl, iteF ?_⟩⟩
      have s1 := s0.trans m1
      have hx1 := m1 _ _ hx
      have sq1 := sq.same m1
      refine ⟨_, rfl, _, rfl, x, C, dx, [], rfl, hx1, T.cl, T.n1, by decide, ?_⟩
      have x2 : (upd H1 x (.ins C dx (putF "_way" (.str z) []))) x = some (.ins C dx [("_way", .str z)]) := upd_same
      have s2 : Same H0 (upd H1 x (.ins C dx (putF "_way" (.str z) []))) := same_wrJ s1 x0
      have sq2 : SqB K (upd H1 x (.ins C dx (putF "_way" (.str z) []))) a (sW ws) := sqb_off sq1 hx1
      generalize upd H1 x (.ins C dx (putF "_way" (.str z) [])) = H2 at *
      refine ⟨_, rfl, a, ws, rfl, sq2, by omega, fun ys p pm so hp => ⟨p, _, rfl, .inl ⟨SqL.of upd_same, fun t ht => ?_⟩⟩⟩
      obtain rfl := srt_perm l2 gd nd pm so
      have x3 : (upd H2 p (.lst (sW (srtG ws)))) x = some (.ins C dx [("_way", .str z)]) := (upd_ne (ne_of_none x2 hp)).trans x2
      have nt : x ≠ t := ne_of_none x3 ht
      have s3 : Same H0 (upd (upd H2 p (.lst (sW (srtG ws)))) t (.tup (sW (srtG ws)))) := by
        have a1 : Same H0 (upd H2 p (.lst (sW (srtG ws)))) := same_wrJ s2 (s2.free hp)
        exact same_wrJ a1 (a1.free ht)
      refine ⟨_, rfl, x, C, dx, _, rfl, (upd_ne nt).trans x3, T.cl, T.n2, by show 1 < 1000; decide, ?_⟩
      have t4 : (upd (upd (upd H2 p (.lst (sW (srtG ws)))) t (.tup (sW (srtG ws)))) x (.ins C dx (putF "_guards" (.ref t) [("_way", .str z)]))) t = some (.tup (sW (srtG ws))) := (upd_ne nt.symm).trans upd_same
      have x4 : (upd (upd (upd H2 p (.lst (sW (srtG ws)))) t (.tup (sW (srtG ws)))) x (.ins C dx (putF "_guards" (.ref t) [("_way", .str z)]))) x = some (.ins C dx [("_way", .str z), ("_guards", .ref t)]) := upd_same.trans (by rw [pl_put2])
      have s4 : Same H0 (upd (upd (upd H2 p (.lst (sW (srtG ws)))) t (.tup (sW (srtG ws)))) x (.ins C dx (putF "_guards" (.ref t) [("_way", .str z)]))) := same_wrJ s3 x0
      generalize upd (upd (upd H2 p (.lst (sW (srtG ws)))) t (.tup (sW (srtG ws)))) x (.ins C dx (putF "_guards" (.ref t) [("_way", .str z)])) = H4 at *
      refine ⟨_, rfl, _, rfl, x, C, dx, _, rfl, x4, T.cl, T.n3, by show 2 < 1000; decide, ?_⟩
      exact q _ rfl _ (same_wrJ s4 x0) ⟨dx, t, upd_same.trans (by rw [pl_put3]; rfl), (upd_ne nt.symm).trans t4⟩
end
end Bs
set_option Elab.async false
set_option linter.all false
set_option maxRecDepth 100000
set_option maxHeartbeats 1000000
namespace L2
open PySem PySem.Spec PyProof.Rows
section
variable {X : Cx}
/-- tuple(xs), xs a list: a new tuple of which it is known that it has no dict of its own (so that its methods can be called) -/
def rTupF (K : PySem.W.Frag) : List V → Hp → VK → Prop := fun xs H Q => ∃ p ys, xs = [.ref p] ∧ SqL K H p ys ∧ ∀ (o : Obj) l, o.dict = none → o.cls = .type "tuple" → H l = none → Q (.ref l) (upd H l (.frz o (.tup ys)))
theorem call_tupleF : CallR X (.type "tuple") (rTupF X.K) := by
  intro pins s σ H xs us Q I r q
  obtain ⟨p, ys, rfl, hp, q⟩ := q
  obtain ⟨u, rfl, rx⟩ := vals1 r
  obtain rfl : u = .ref p := rx
  obtain ⟨its, rv, pl, hz⟩ := I.list hp
  refine call_tuple_list pl.isList (fun h' keep => ?_) (by rw [List.size_toArray, ← rv.length]; exact hz)
  have I1 : Inv X pins σ H { s with heap := h' } := I.kept (t' := s.toks) keep
  have new : (h'.push { cls := .type "tuple", data := .seq its.toArray }).get? h'.objs.size = some { cls := .type "tuple", data := .seq its.toArray } := Heap.get?_push_size _ rfl
  refine ⟨.ref h'.objs.size, upd H h'.objs.size (.frz { cls := .type "tuple", data := .seq its.toArray } (.tup ys)), I1.laid (t' := s.toks) (fun b o e => Heap.get?_push_of_some _ e) (Nat.le_refl _) ⟨new, hz, its, rv, _, new, rfl, _, rfl⟩, rfl, q _ _ rfl rfl (I1.hok.fresh (Nat.le_refl _))⟩
/-- t.index(z) of such a tuple of texts, z in it -/
def tTupIdx (to te : TE) : TE := fun σ H Q => to σ H fun x H1 => ∃ a ob ys, x = .ref a ∧ H1 a = some (.frz ob (.tup (List.map V.str ys))) ∧ ob.dict = none ∧ te σ H1 fun y H2 => ∃ z j, y = .str z ∧ H2 a = some (.frz ob (.tup (List.map V.str ys))) ∧ ys[j]? = some z ∧ (∀ m, m < j → ys[m]? ≠ some z) ∧ Q (.int (j : Nat)) H2
theorem pe_tupIdx {o e : Expr} {to te : TE} {apos cpos : Pos} (ho : PE X o to) (he : PE X e te) (hbase : attributeBase o "index" X.env (eval o X.env) = eval o X.env := by rfl)
    (hfew : ((backTo cpos (starEach [e] X.env)).all (fun x => !x.1) && (backToKw cpos (keywordEach [] X.env)).all (fun x => x.1.isSome) && decide (([e] : List Expr).length + ([] : List Keyword).length + (if ([] : List Keyword).isEmpty then 0 else 1) < 30)) = true := by rfl)
    (hline : (apos.endLine == cpos.line) = true := by rfl) (hs : starEach [e] X.env = (false, eval e X.env) :: starEach [] X.env := by rfl) : PE X (.Call (.Attribute o "index" apos) [e] [] cpos) (tTupIdx to te) := by
  refine ⟨fun pins s σ H Q I h => ?_⟩
  refine wpAny_Call_method_late hbase hfew hline rfl (thn (ho.run pins s σ H _ I h) fun v s1 ⟨x, H1, I1, r1, a, ob, ys, ex, ha, hd, q1⟩ => ?_)
  subst ex
  obtain rfl : v = .ref a := r1
  obtain ⟨g1, _, its, _, o2, g2, hc, _⟩ := (show ObjOk X.prog X.w H1 s1.heap a (.frz ob (.tup (List.map V.str ys))) from I1.hok a _ ha)
  obtain rfl : ob = o2 := Option.some.inj (g1.symm.trans g2)
  refine ⟨"tuple", "tuple.index", PySem.F.plainAttrs_tuple, PySem.F.slot_tuple_index, PySem.F.type_tuple_index, ⟨ob, g1, hc⟩, fun b e => by cases e; exact ⟨ob, g1, hd⟩, ?_⟩
  have hA := (pa_cons he pa_nil (hs := hs)).run cpos pins s1 σ H1 (fun vs H2 => match vs with
    | [y] => ∃ z j, y = .str z ∧ H2 a = some (.frz ob (.tup (List.map V.str ys))) ∧ ys[j]? = some z ∧ (∀ m, m < j → ys[m]? ≠ some z) ∧ Q (.int (j : Nat)) H2
    | _ => False) I1 q1
  rw [hs] at hA ⊢
  refine Calls.callWith_builtin rfl (Calls.evalArgs_plain ?_)
  refine thn hA fun us s2 ⟨vs, H2, I2, r2, q2⟩ => ?_
  match vs, q2 with
  | [y], ⟨z, j, ey, h2, hj, first, q2⟩ =>
    subst ey
    exact mt_tup_index pins s2 σ H2 (.ref a) [.str z] (.ref a) us Q I2 rfl r2 ⟨a, ys, z, j, rfl, rfl, .inl (.inr ⟨ob, h2⟩), hj, first, q2⟩
end
end L2
set_option Elab.async false
set_option linter.all false
set_option maxRecDepth 100000
set_option maxHeartbeats 2000000
/-! x != y of two instances of a class with an own __eq__ and without an own __ne__ -/
namespace HX
open PySem PySem.Spec PyProof.Rows
section
variable {M : Model} {prog : Program} {w : World} {A : Around} {E : Value → Shared → Prop} {s : Shared} {K : PySem.W.Frag} {x C f L : Addr} {ox : Obj} {od : Option Obj} {m : Str → Option Value} {h₀ : Heap}
theorem ifB_ne {args : List Value} {Q : Option Value → Shared → Prop} (X : K.In s.heap) (I : PySem.W.InstAt s.heap x ox C od) (hs : PySem.W.findIn K (.ref C) "__ne__" = some (some (.builtin "object.__ne__")))
    (h : wpAny M A (call (.builtin "object.__ne__") (.ref x :: args)) (fun v => Q (some v)) E s) : wpAny M A (callSpecialIfBound? (.ref x) "__ne__" args) Q E s := by
  simp only [callSpecialIfBound?, bindSpecialIfBound?]
  refine wpAny_holding (wpAny_bind (wpAny_bind (wpAny_bind (I.type.here ((PySem.W.looks_findIn X hs).here ?_)))))
  refine wpAny_bind (wpAny_askSetting (wpAny_ite ?_))
  have fin : wpAny M A (call (.builtin "object.__ne__") ([.ref x] ++ args) >>= fun v => pure (some v)) Q E s := wpAny_bind (wpAny_mono h (fun v s' h' => wpAny_pure h') fun _ _ h' => h')
  split
  · exact wpAny_bind (wpAny_of_eq (F.cmp_object.ne.bind _) (wpAny_pure (by exact fin)))
  · exact wpAny_tryCatch (wpAny_bind (wpAny_of_eq (F.cmp_object.ne.bind _) (wpAny_pure (by exact fin))))
theorem entry_ne {y : Value} {Q : Fin → Shared → Prop} (hu : A.units < cLine) (X : K.In s.heap) (I : PySem.W.InstAt s.heap x ox C od) (hs : PySem.W.findIn K (.ref C) "__eq__" = some (some (.ref f))) (hf : PySem.W.isFn K (.ref f) = true)
    (hcall : wpAny (model prog w) A (call (.ref f) [.ref x, y]) (fun v s' => ∃ b, v = .bool b ∧ Q (.done (.ret (.bool (!b)))) s') E s) :
    wpAny (model prog w) A (Builtin.«object.__ne__» ⟨[.ref x, y], []⟩) Q E s := by
  unfold Builtin.«object.__ne__»
  repeat (first
    | with_reducible refine wpAny_cRoomFor hu ?_
    | (refine wpAny_bind (m := callSpecialIfBound? (.ref x) (Str.ofString "__eq__") [y])
        (PySem.W.ifBound_K X I hs hf (wpAny_mono hcall (fun r s' hr => by
          obtain ⟨b, rfl, hq⟩ := hr
          repeat (first | exact hq | exact wpAny_pure hq | exact wpAny_truthy_bool hq | (refine wpAny_bind (m := truthy (.bool _)) (wpAny_truthy_bool ?_)) | wp_step)) fun _ _ e => e)))
    | wp_step)
theorem ne_K {b tb : Value} {Q : Value → Shared → Prop} (hu : A.units + 1 < cLine) (F0 : Fr h₀ L s.heap m) (X₀ : K.In h₀) (I : PySem.W.InstAt s.heap x ox C od) (hb : PySem.W.Looks (model prog w) s.heap (typeOf b) tb) (hn : PySem.W.notFirst K C tb = true)
    (hne : PySem.W.findIn K (.ref C) "__ne__" = some (some (.builtin "object.__ne__"))) (hm : PySem.W.mroIn K C (.type "object") = some true)
    (hs : PySem.W.findIn K (.ref C) "__eq__" = some (some (.ref f))) (hf : PySem.W.isFn K (.ref f) = true)
    (h : wpAny (model prog w) A.in1 (call (.ref f) [.ref x, b]) (fun v s' => ∃ b, v = .bool b ∧ Q (.bool (!b)) s') E s) : wpAny (model prog w) A (richCompare .NotEq (.ref x) b) Q E s := by
  have X := X₀.keeps F0.keep
  have one : wpAny (model prog w) A (tryCompare (.ref x) "__ne__" b) (fun r s' => ∃ v, r = some v ∧ Q v s') E s := by
    unfold tryCompare
    refine wpAny_bind (ifB_ne X I hne (wpAny_call (codeAny_call_builtin F.cmp_object.ne.plain F.cmpEntry_ne (PySem.W.check_slot F.cmpKind_ne F.cmpSplit_ne (I.type.andThen (PySem.W.looks_mroIn X hm)) (F.cmpArgs_ne _ _)
      (entry_ne (A := A.in1) (by show A.units + 1 < cLine; exact hu) X I hs hf (wpAny_mono h (fun v s' hv => ?_) fun _ _ e => e))))))
    obtain ⟨b', rfl, hq⟩ := hv
    exact ⟨b', rfl, wpAny_pure ⟨_, rfl, hq⟩⟩
  unfold richCompare
  simp only [oneThing_ref]
  refine wpAny_holding (wpAny_bind (wpAny_cRoomFor (Nat.lt_of_succ_lt hu) ?_))
  rw [cmpInfo_NotEq]
  dsimp only
  refine wpAny_bind (I.type.here (wpAny_bind (hb.here ?_)))
  split
  · rename_i q
    have e : PySem.W.subIn K tb (.ref C) = some false := by
      rcases Bool.or_eq_true_iff.mp hn with e | e
      · rw [beq_iff_eq.mp e] at q; simp at q
      · exact beq_iff_eq.mp e
    refine wpAny_bind ((PySem.W.looks_subIn X e).here ?_)
    simp only [Bool.false_eq_true, if_false]
    refine wpAny_bind (wpAny_mono one (fun r s' z => ?_) fun _ _ e => e)
    obtain ⟨v, rfl, hq⟩ := z
    exact wpAny_pure hq
  · refine wpAny_bind (wpAny_pure ?_)
    simp only [Bool.false_eq_true, if_false]
    refine wpAny_bind (wpAny_mono one (fun r s' z => ?_) fun _ _ e => e)
    obtain ⟨v, rfl, hq⟩ := z
    exact wpAny_pure hq
end
end HX
namespace L2
open PySem PySem.Spec PyProof.Rows
/-- the class at C: == is the def at f, != is object's -/
structure NeC (K : PySem.W.Frag) (C f : Addr) : Prop where
  eq : PySem.W.findIn K (.ref C) "__eq__" = some (some (.ref f))
  fn : PySem.W.isFn K (.ref f) = true
  ne : PySem.W.findIn K (.ref C) "__ne__" = some (some (.builtin "object.__ne__"))
  ob : PySem.W.mroIn K C (.type "object") = some true
def rNeOwn (C : Addr) (sp : Sp) (E : XK) : R2 := fun x y H Q => ∃ a b dx dy fs gs, x = .ref a ∧ y = .ref b ∧ H a = some (.ins C dx fs) ∧ H b = some (.ins C dy gs) ∧ sp [.ref a, .ref b] H (fun z H' => ∃ t, z = .bl t ∧ Q (.bl (!t)) H') E
section
variable {X : Cx}
theorem op_neOwn {CX : CXT} {C f : Addr} {fd : FuncData} {ps : List Str} {n : Nat} {sp : Sp} {E : XK} (F : FnOk X.prog X.w X.K X.mg X.base CX n f fd ps sp) (N : NeC X.K C f) (hb : Binds X.K fd ps []) (hr : Room (n + 1) X.A) (hx : Passes CX X E) :
    OpR X (compareOp .NotEq) (rNeOwn C sp E) := by
  intro pins s σ H x y v u Q I rx ry h
  obtain ⟨a, b, dx, dy, fs, gs, rfl, rfl, ha, hb', hsp⟩ := h
  cases (show v = Value.ref a from rx)
  cases (show u = Value.ref b from ry)
  obtain ⟨mA, J, _⟩ := ins_get I.hok ha
  obtain ⟨mB, J', _⟩ := ins_get I.hok hb'
  obtain ⟨od, J, _⟩ := J.look
  obtain ⟨od', J', _⟩ := J'.look
  obtain ⟨m, hF⟩ := I.fr
  show wpAny (model X.prog X.w) X.A (richCompare .NotEq (.ref a) (.ref b)) (EP X pins σ Q) X.xe s
  have e0 : Env0 X.prog X.w X.K X.mg X.base X.A.in1 X.stack s H := I.env0.in1
  have r2 : Vals [V.ref a, V.ref b] [Value.ref a, Value.ref b] := .cons rfl (.cons rfl .nil)
  have hl := F.len _ _ _ _ hsp
  refine HX.ne_K (tb := .ref C) (by have := (Room.in1 hr).units0; exact this) hF I.ok.mod.kin J J'.type (by simp [PySem.W.notFirst]) N.ne N.ob N.eq N.fn ?_
  refine wpAny_call (codeAny_mono (F.run X.A.in1 X.stack s H ⟨[.ref a, .ref b], []⟩ [.ref a, .ref b] [.ref a, .ref b] _ E hr.in1 e0 (by
    have := hb s [.ref a, .ref b] I.kIn (by simpa using hl)
    simpa using this) r2 hsp) fun r s' hq => ?_)
  cases r with
  | error e => exact hx pins σ H s e s' I hq
  | ok fl =>
    cases fl with
    | ret w =>
      obtain ⟨z, H', I', rz, t, ez, q⟩ := I.after hq
      subst ez
      cases rz
      exact ⟨t, rfl, .bl (!t), H', I', rfl, q⟩
    | next => exact False.elim hq
    | brk => exact False.elim hq
    | cont => exact False.elim hq
end
end L2
set_option Elab.async false
set_option linter.all false
set_option maxRecDepth 100000
set_option maxHeartbeats 2000000
namespace L2
namespace Pl
open PySem PySem.Spec PyProof.Rows
def srt4 : List (List Str) := [[], ["once"], ["stamp"], ["once", "stamp"]]
theorem srtG_mem (ws : List Str) : srtG ws ∈ srt4 := by
  unfold srtG gws srt4
  by_cases h1 : ("once" : Str) ∈ ws
  · by_cases h2 : ("stamp" : Str) ∈ ws
    · simp [List.filter_cons, h1, h2]
    · simp [List.filter_cons, h1, h2]
  · by_cases h2 : ("stamp" : Str) ∈ ws
    · simp [List.filter_cons, h1, h2]
    · simp [List.filter_cons, h1, h2]
structure Pd.Ok (p : Pd) : Prop where
  way : p.way ∈ wws
  gs : p.gs ∈ srt4
  n1 : 1 ≤ p.n
  n3 : p.n ≤ 3
theorem dpW {K : PySem.W.Frag} {H : Hp} : ∀ {ws : List Str}, DpAll K H (sW ws) (ws.map PyData.str)
  | [] => .nil
  | w :: ws => .cons (.str w) dpW
theorem shaped4 : ∀ ws ∈ srt4, SeqAt.shaped (.tuple (ws.map PyData.str)) = true := by decide +kernel
theorem eqv4 : ∀ ws ∈ srt4, ∀ us ∈ srt4, PyData.eqv (.tuple (ws.map PyData.str)) (.tuple (us.map PyData.str)) = decide (ws = us) := by decide +kernel
def Pd.same (p q : Pd) : Bool := decide (p.way = q.way) && (decide (p.gs = q.gs) && decide (p.n = q.n))
structure PlE (K : PySem.W.Frag) (C : Addr) : Prop where
  ca : PySem.W.findIn K (.ref C) "__class__" = some (some (.builtin "object.__class__"))
  cn : PySem.W.specialIn K (.builtin "object.__class__") "__get__" = some (some (.builtin "getset_descriptor.__get__"))
  ct : PySem.W.takesIn K (.builtin "object.__class__") = some true
  cm : PySem.W.mroIn K C (.type "object") = some true
  own : PySem.W.kitOne K (.ref C) (.ref C) = some true
/-- == of a plan and any value -/
def spEqPl (K : PySem.W.Frag) (C : Addr) : Sp := fun vs H Q _ => ∃ x v p, vs = [.ref x, v] ∧ PlAt C H x p ∧ p.Ok ∧ ((∃ y q, v = .ref y ∧ PlAt C H y q ∧ q.Ok ∧ Q (.bl (p.same q)) H) ∨ (∃ t, TyX K H v t ∧ PySem.W.kitOne K t (.ref C) = some false ∧ Q (.bl false) H))
theorem pl_look1 {p : Pd} {t : Addr} : (plFs p t).lookup ("_way" : Str) = some (.str p.way) := by with_unfolding_all rfl
theorem pl_look2 {p : Pd} {t : Addr} : (plFs p t).lookup ("_guards" : Str) = some (.ref t) := by with_unfolding_all rfl
theorem pl_look3 {p : Pd} {t : Addr} : (plFs p t).lookup ("_tries" : Str) = some (.int p.n) := by with_unfolding_all rfl
end Pl
end L2
namespace Bs
open PySem PySem.Spec PyProof.Rows L2 L2.Pl
section
variable {P : Program} {w : World} {K : PySem.W.Frag} {mg : Str → Option Value} {base : Heap} {f : Addr} {fd : FuncData}
abbrev sPlE : Stmt := sPlan 1
theorem scPlE : FnScope ["self", "other"] ["self", "other"] (defScope sPlE) := ⟨rfl, rfl, rfl, by decide +kernel, rfl, by decide +kernel, by decide +kernel⟩
theorem ok_plEq {C : Addr} (G : Gn mg) (T : PlF K mg C) (TE : PlE K C) (F : FunD K "__eq__" "Plan.__eq__" (defArgs sPlE) (defBody sPlE) (defScope sPlE) [] [] f fd) : FnOk P w K mg base CX0 2 f fd ["self", "other"] (spEqPl K C) := by
  refine F.ok scPlE (fun vs H Q E h => ?_) (fun cdv A outer s H vs Q E hr h => ?_)
  · obtain ⟨_, _, _, rfl, _⟩ := h
    rfl
  · obtain ⟨x, v, p, rfl, hx, ok, h⟩ := h
    obtain ⟨dx, t, h1, h2⟩ := hx
    refine ⟨_, PSs.nox (pss_one (ps_ret (pe_and (pe_callB call_isi (by rfl) G.isi bIsi (pa_cons (pv 1) (pa_cons (pe_glob (v := .ref C) (by rfl) T.gC rfl) pa_nil)))
      (pe_and (pe_cmpR op_eq (pe_fld (pv 0) rfl) (pe_fld (pv 1) rfl) (by rfl))
      (pe_and (pe_cmpR (op_eqD hr.units) (pe_fld (pv 0) rfl) (pe_fld (pv 1) rfl) (by rfl))
      (pe_one (pe_cmpR op_eq (pe_fld (pv 0) rfl) (pe_fld (pv 1) rfl) (by rfl)))))))), ?_⟩
    rcases h with ⟨y, p', rfl, hy, ok', q⟩ | ⟨t0, ty, kt, q⟩
    · obtain ⟨dy, u, g1, g2⟩ := hy
      refine ⟨_, rfl, .ref y, .ref C, .ref C, .ref C, true, rfl, .own C, .base (.ins g1 T.cl TE.ca TE.cn TE.ct TE.cm), TE.own, true, rfl, ?_⟩
      refine ⟨_, rfl, x, C, dx, _, _, rfl, h1, T.cl, T.n1, pl_look1, _, rfl, y, C, dy, _, _, rfl, g1, T.cl, T.n1, pl_look1, rfl, _, rfl, ?_⟩
      have e1 : decide (V.str p.way = V.str p'.way) = decide (p.way = p'.way) := by
        rw [Bool.eq_iff_iff, decide_eq_true_iff, decide_eq_true_iff]
        exact ⟨fun z => by injection z, fun z => by rw [z]⟩
      have e2 : decide (V.int p.n = V.int p'.n) = decide (p.n = p'.n) := by
        rw [Bool.eq_iff_iff, decide_eq_true_iff, decide_eq_true_iff]
        exact ⟨fun z => by injection z, fun z => by rw [z]⟩
      unfold Pd.same at q
      rw [e1]
      cases c1 : decide (p.way = p'.way) with
      | false =>
        rw [c1] at q
        exact iteF q
      | true =>
        rw [c1] at q
        refine iteT ⟨_, rfl, x, C, dx, _, _, rfl, h1, T.cl, T.n2, pl_look2, _, rfl, y, C, dy, _, _, rfl, g1, T.cl, T.n2, pl_look2, _, _, .tup (.inl (.inl h2)) dpW, .tup (.inl (.inl g2)) dpW, shaped4 _ ok.gs, shaped4 _ ok'.gs, _, rfl, ?_⟩
        rw [eqv4 _ ok.gs _ ok'.gs]
        cases c2 : decide (p.gs = p'.gs) with
        | false =>
          rw [c2] at q
          exact iteF q
        | true =>
          rw [c2] at q
          refine iteT ⟨_, rfl, x, C, dx, _, _, rfl, h1, T.cl, T.n3, pl_look3, _, rfl, y, C, dy, _, _, rfl, g1, T.cl, T.n3, pl_look3, rfl, ?_⟩
          rw [e2]
          exact q
    · exact ⟨_, rfl, v, .ref C, _, _, false, rfl, .own C, ty, kt, false, rfl, iteF q⟩
end
end Bs
set_option Elab.async false
set_option linter.all false
set_option maxRecDepth 100000
set_option maxHeartbeats 2000000
namespace L2
namespace Pl
open PySem PySem.Spec PyProof.Rows
def spGetP (C : Addr) (f : Str) : Sp := fun vs H Q _ => ∃ x dx fs v, vs = [.ref x] ∧ H x = some (.ins C dx fs) ∧ fs.lookup f = some v ∧ Q v H
end Pl
end L2
namespace Bs
open PySem PySem.Spec PyProof.Rows L2 L2.Pl
section
variable {P : Program} {w : World} {K : PySem.W.Frag} {mg : Str → Option Value} {base : Heap} {f : Addr} {fd : FuncData}
abbrev sPl2 : Stmt := sPlan 2
abbrev sPl3 : Stmt := sPlan 3
abbrev sPl4 : Stmt := sPlan 4
theorem scPl2 : FnScope ["self"] ["self"] (defScope sPl2) := ⟨rfl, rfl, rfl, by decide +kernel, rfl, by decide +kernel, by decide +kernel⟩
theorem scPl3 : FnScope ["self"] ["self"] (defScope sPl3) := ⟨rfl, rfl, rfl, by decide +kernel, rfl, by decide +kernel, by decide +kernel⟩
theorem scPl4 : FnScope ["self"] ["self"] (defScope sPl4) := ⟨rfl, rfl, rfl, by decide +kernel, rfl, by decide +kernel, by decide +kernel⟩
theorem ok_plWay {C : Addr} (T : PlF K mg C) (F : FunD K "way" "Plan.way" (defArgs sPl2) (defBody sPl2) (defScope sPl2) [] [] f fd) : FnOk P w K mg base CX0 1 f fd ["self"] (spGetP C "_way") := by
  refine F.ok scPl2 (fun vs H Q E h => ?_) (fun cdv A outer s H vs Q E hr h => ?_)
  · obtain ⟨_, _, _, _, rfl, _⟩ := h
    rfl
  · obtain ⟨x, dx, fs, v, rfl, hx, hv, q⟩ := h
    refine ⟨_, PSs.nox (pss_one (ps_ret (pe_fld (pv 0) rfl))), ?_⟩
    exact ⟨_, rfl, x, C, dx, fs, v, rfl, hx, T.cl, T.n1, hv, q⟩
theorem ok_plGuards {C : Addr} (T : PlF K mg C) (F : FunD K "guards" "Plan.guards" (defArgs sPl3) (defBody sPl3) (defScope sPl3) [] [] f fd) : FnOk P w K mg base CX0 1 f fd ["self"] (spGetP C "_guards") := by
  refine F.ok scPl3 (fun vs H Q E h => ?_) (fun cdv A outer s H vs Q E hr h => ?_)
  · obtain ⟨_, _, _, _, rfl, _⟩ := h
    rfl
  · obtain ⟨x, dx, fs, v, rfl, hx, hv, q⟩ := h
    refine ⟨_, PSs.nox (pss_one (ps_ret (pe_fld (pv 0) rfl))), ?_⟩
    exact ⟨_, rfl, x, C, dx, fs, v, rfl, hx, T.cl, T.n2, hv, q⟩
theorem ok_plTries {C : Addr} (T : PlF K mg C) (F : FunD K "tries" "Plan.tries" (defArgs sPl4) (defBody sPl4) (defScope sPl4) [] [] f fd) : FnOk P w K mg base CX0 1 f fd ["self"] (spGetP C "_tries") := by
  refine F.ok scPl4 (fun vs H Q E h => ?_) (fun cdv A outer s H vs Q E hr h => ?_)
  · obtain ⟨_, _, _, _, rfl, _⟩ := h
    rfl
  · obtain ⟨x, dx, fs, v, rfl, hx, hv, q⟩ := h
    refine ⟨_, PSs.nox (pss_one (ps_ret (pe_fld (pv 0) rfl))), ?_⟩
    exact ⟨_, rfl, x, C, dx, fs, v, rfl, hx, T.cl, T.n3, hv, q⟩
end
end Bs
set_option Elab.async false
set_option linter.all false
set_option maxRecDepth 100000
set_option maxHeartbeats 2000000
namespace L2
namespace Pl
open PySem PySem.Spec PyProof.Rows
variable {K : PySem.W.Frag} {H : Hp}
theorem ty_flat {v : V} (h : flatV v = true) : (∃ z, v = .str z) ∨ NotTy K H "str" v := by
  cases v with
  | non => exact .inr ⟨_, .base .non, kit_ty (by decide +kernel)⟩
  | bl b => exact .inr ⟨_, .base (.bl b), kit_ty (by decide +kernel)⟩
  | int i => exact .inr ⟨_, .base (.int i), kit_ty (by decide +kernel)⟩
  | str z => exact .inl ⟨z, rfl⟩
  | _ => cases h
theorem ty_box {v : V} (h : BoxV K H v) : NotTy K H "str" v := by
  obtain ⟨a, rfl, h⟩ := h
  rcases h with ⟨xs, h⟩ | ⟨xs, h⟩ | ⟨kvs, h⟩
  · rcases h with (h | ⟨o, h⟩) | ⟨o, _, _, h, c, _⟩
    · exact ⟨_, .base (.lst h), kit_ty (by decide +kernel)⟩
    · exact ⟨_, .base (.frz h), kit_ty (by decide +kernel)⟩
    · exact ⟨_, .kList h c, kit_ty (by decide +kernel)⟩
  · rcases h with (h | ⟨o, h⟩) | ⟨o, _, _, h, c, _⟩
    · exact ⟨_, .base (.tup h), kit_ty (by decide +kernel)⟩
    · exact ⟨_, .fTuple h, kit_ty (by decide +kernel)⟩
    · exact ⟨_, .kTuple h c, kit_ty (by decide +kernel)⟩
  · rcases h with h | ⟨o, h⟩
    · exact ⟨_, .base (.dK h), kit_ty (by decide +kernel)⟩
    · exact ⟨_, .fDict h, kit_ty (by decide +kernel)⟩
/-- neither a list nor a tuple, of the two asked one by one -/
theorem kit_two {t : Value} (h : PySem.W.kitAny K t [.type "list", .type "tuple"] = some false) : PySem.W.kitOne K t (.type "list") = some false ∧ PySem.W.kitOne K t (.type "tuple") = some false := by
  unfold PySem.W.kitAny at h
  cases h1 : PySem.W.kitOne K t (.type "list") with
  | none =>
    rw [h1] at h
    cases h
  | some b =>
    rw [h1] at h
    cases b with
    | true => cases h
    | false =>
      refine ⟨rfl, ?_⟩
      have h : PySem.W.kitAny K t [.type "tuple"] = some false := h
      unfold PySem.W.kitAny at h
      cases h2 : PySem.W.kitOne K t (.type "tuple") with
      | none =>
        rw [h2] at h
        cases h
      | some b =>
        rw [h2] at h
        cases b with
        | true => cases h
        | false => rfl
/-- more than two guards: some of them twice -/
theorem gws_twice {ws : List Str} (h : ∀ x ∈ ws, x ∈ gws) (l : 2 < ws.length) : ¬ ws.Nodup := fun nd => by
  match ws, h, l, nd with
  | a :: b :: c :: r, h, _, nd =>
    obtain ⟨n1, nd⟩ := List.nodup_cons.mp nd
    obtain ⟨n2, _⟩ := List.nodup_cons.mp nd
    have h1 := h a (by simp)
    have h2 := h b (by simp)
    have h3 := h c (by simp)
    simp [gws] at h1 h2 h3
    simp only [List.mem_cons, not_or] at n1 n2
    rcases h1 with rfl | rfl <;> rcases h2 with rfl | rfl <;> rcases h3 with rfl | rfl <;> simp_all
end Pl
end L2
set_option Elab.async false
set_option linter.all false
set_option maxRecDepth 100000
set_option maxHeartbeats 2000000
namespace L2
namespace Pl
open PySem PySem.Spec PyProof.Rows
/-- a comprehension over one walk of the items xs: which are kept, and what each of them gives; M holds of all heaps on the way -/
theorem lc_genJ {J : It} {G : Hp → Prop} {xs : List V} (w : Walk J xs.length G (YAt xs)) {g : TG} {tt : TT} {te : TE} {vs : List Nat} {σ : St} {H1 : Hp} {D : Addr} {Qd : Hp → Prop}
    (M : Hp → Prop) (keep : V → Bool) (R : V → V → Prop) (h0 : M (upd H1 D (.lst []))) (hw : ∀ H acc, M H → H D = some (.lst acc) → ∀ y, M (upd H D (.lst (acc ++ [y])))) (hG : ∀ H, M H → G H) (hlen : xs.length ≤ 1000)
    (step : ∀ (x : V) (H' : Hp) (N : Hp → Prop) (Y : VK), x ∈ xs → M H' → (keep x = false → ∀ H3, M H3 → H3 D = H' D → N H3) → (keep x = true → ∀ y H4, M H4 → H4 D = H' D → R x y → Y y H4) →
      g x (wipe σ vs) H' fun σ2 H2 => wipe σ2 vs = wipe σ vs ∧ tt σ2 H2 fun b H3 => if b = true then te σ2 H3 Y else N H3)
    (hd : ∀ H ys, M H → H D = some (.lst ys) → Paired R (xs.filter keep) ys → Qd H) :
    ∃ W : Nat → Nat → Hp → Prop, (∃ m, W 0 m (upd H1 D (.lst []))) ∧ ∀ i m H, W i m H →
      (J.stop i H ∧ Qd H) ∨ (J.go i H ∧ ∃ Nx : Hp → Prop, (∀ H', Nx H' → ∃ m', m' < m ∧ W (i + 1) m' H') ∧ ∀ x H', J.yld i H x H' → g x (wipe σ vs) H' fun σ2 H2 => wipe σ2 vs = wipe σ vs ∧ tt σ2 H2 fun b H3 =>
        if b = true then te σ2 H3 fun y H4 => ∃ acc, H4 D = some (.lst acc) ∧ acc.length < sizeLine ∧ Nx (upd H4 D (.lst (acc ++ [y]))) else Nx H3) := by
  refine lc_it w (fun i H => M H ∧ ∃ ys, H D = some (.lst ys) ∧ Paired R ((xs.take i).filter keep) ys) ⟨h0, [], upd_same, by rw [List.take_zero]; exact .nil⟩ (fun i H _ p => hG H p.1) ?_ ?_
  · rintro i x H H' hi ⟨hm, ys, hy, hp⟩ ⟨rfl, hx⟩
    have hin := List.mem_of_getElem? hx
    have ht : xs.take (i + 1) = xs.take i ++ [x] := by
      rw [List.take_succ, hx]
      rfl
    have hle : ys.length ≤ 1000 := by
      rw [← hp.length]
      have := List.length_filter_le keep (xs.take i)
      rw [List.length_take] at this
      omega
    refine step x H' _ _ hin hm (fun hk H3 m3 e3 => ⟨m3, ys, e3.trans hy, ?_⟩) (fun hk y H4 m4 e4 r => ⟨ys, e4.trans hy, by rw [sizeLine_eq]; omega, hw _ _ m4 (e4.trans hy) y, ys ++ [y], upd_same, ?_⟩)
    · rw [ht, List.filter_append, List.filter_cons_of_neg (by rw [hk]; decide), List.filter_nil, List.append_nil]
      exact hp
    · rw [ht, List.filter_append, List.filter_cons_of_pos hk, List.filter_nil]
      exact hp.snoc r
  · rintro H ⟨hm, ys, hy, hp⟩
    rw [List.take_of_length_le (Nat.le_refl _)] at hp
    exact hd H ys hm hy hp
theorem pairedJ_eq {α β : Type} {f : α → β} : ∀ {xs : List α} {ys : List β}, Paired (fun x y => y = f x) xs ys → ys = xs.map f
  | _, _, .nil => rfl
  | _, _, .cons h t => by rw [List.map_cons, h, pairedJ_eq t]

/-- an entry of a row of guards: a flat value or a box, and some data -/
def EntV (K : PySem.W.Frag) (H : Hp) (u : V) : Prop := PlainV K H u ∧ ∃ d, (∀ H', Same H H' → Dp K H' u d) ∧ d.canLay0 = true ∧ d.depth ≤ 10
theorem EntV.same {K : PySem.W.Frag} {H H' : Hp} {u : V} (h : EntV K H u) (m : Same H H') : EntV K H' u := by
  obtain ⟨p, d, h1, h2, h3⟩ := h
  exact ⟨p.imp id fun z => z.keep m, d, fun H2 m2 => h1 H2 (m.trans m2), h2, h3⟩
theorem ents {K : PySem.W.Frag} {H : Hp} : ∀ {us : List V}, (∀ u ∈ us, EntV K H u) → ∃ ds, DpAll K H us ds ∧ PyData.canLayAll0 ds = true ∧ PyData.depthAll ds ≤ 10 ∧ ds.length = us.length
  | [], _ => ⟨[], .nil, by simp [PyData.canLayAll0], by simp [PyData.depthAll], rfl⟩
  | u :: us, h => by
    obtain ⟨ds, h1, h2, h3, h4⟩ := ents (us := us) fun x hx => h x (List.mem_cons_of_mem _ hx)
    obtain ⟨_, d, g1, g2, g3⟩ := h u (List.mem_cons_self ..)
    refine ⟨d :: ds, .cons (g1 H (Same.refl H)) h1, ?_, ?_, by rw [List.length_cons, List.length_cons, h4]⟩
    · rw [PyData.canLayAll0, h2, g2]
      rfl
    · rw [PyData.depthAll]
      omega
theorem shaped_ents {ds : List PyData} (h : PyData.canLayAll0 ds = true) (h2 : PyData.depthAll ds ≤ 10) : SeqAt.shaped (.list ds) = true := by
  unfold SeqAt.shaped
  rw [PyData.canLay0, h, PyData.depth]
  exact decide_eq_true (by omega)
theorem eqv_nil {ds : List PyData} : PyData.eqv (.list ds) (.list []) = ds.isEmpty := by
  cases ds with
  | nil => rfl
  | cons d r => simp [PyData.eqv, PyData.eqvAll]
/-- what is due of three values -/
inductive DueK (K : PySem.W.Frag) (H : Hp) (wv gv tv : V) : V ⊕ Pd → Prop
  | way : WayK K H wv false → DueK K H wv gv tv (.inl wv)
  | noseq {t : Value} : WayK K H wv true → TyX K H gv t → PySem.W.kitAny K t [.type "list", .type "tuple"] = some false → DueK K H wv gv tv (.inl gv)
  | bad {a : Addr} {us : List V} : WayK K H wv true → gv = .ref a → SqB K H a us → us.length ≤ 3 → (∀ u ∈ us, EntV K H u) → us.all (fun u => inV u (sW gws)) = false → DueK K H wv gv tv (.inl gv)
  | twice {a : Addr} {ws : List Str} : WayK K H wv true → gv = .ref a → SqB K H a (sW ws) → ws.length ≤ 3 → (∀ x ∈ ws, x ∈ gws) → ¬ ws.Nodup → DueK K H wv gv tv (.inl gv)
  | tries {a : Addr} {ws : List Str} : WayK K H wv true → gv = .ref a → SqB K H a (sW ws) → ws.length ≤ 3 → (∀ x ∈ ws, x ∈ gws) → ws.Nodup → Btw K H 1 3 tv false → DueK K H wv gv tv (.inl tv)
  | good {z : Str} {a : Addr} {ws : List Str} {n : Int} : wv = .str z → z ∈ wws → gv = .ref a → SqB K H a (sW ws) → ws.length ≤ 3 → (∀ x ∈ ws, x ∈ gws) → ws.Nodup → tv = .int n → 1 ≤ n → n ≤ 3 → DueK K H wv gv tv (.inr ⟨z, srtG ws, n⟩)
/-- all that it must be told -/
theorem DueK.plan {K : PySem.W.Frag} {H : Hp} {wv gv tv : V} {r : V ⊕ Pd} (h : DueK K H wv gv tv r) : PlanK K H wv gv tv r := by
  have le : ∀ {ws : List Str}, (∀ x ∈ ws, x ∈ gws) → ws.Nodup → ws.length ≤ 2 := fun h nd => by
    refine Nat.le_of_not_lt fun c => gws_twice h c nd
  cases h with
  | way w => exact .way w
  | noseq w ty kt => exact .guards w (.no ty kt)
  | @bad a us w e sq l3 en b =>
    subst e
    by_cases c : 2 < us.length
    · exact .guards w (.long sq c (by omega))
    · exact .guards w (.bad sq (by omega) (fun u hu => (en u hu).1) b)
  | @twice a ws w e sq l3 gd nd =>
    subst e
    by_cases c : 2 < ws.length
    · exact .guards w (.long sq (by rw [List.length_map]; exact c) (by rw [List.length_map]; omega))
    · have := GuK.good sq (by omega) gd
      rw [decide_eq_false nd] at this
      exact .guards w this
  | @tries a ws w e sq l3 gd nd bk =>
    subst e
    have := GuK.good sq (le gd nd) gd
    rw [decide_eq_true nd] at this
    exact .tries w this bk
  | @good z a ws n e1 hz e2 sq l3 gd nd e3 n1 n3 => exact .good e1 hz e2 sq (le gd nd) gd nd e3 n1 n3
end Pl
end L2
set_option Elab.async false
set_option linter.all false
set_option maxRecDepth 100000
set_option maxHeartbeats 2000000
namespace L2
namespace Pl
open PySem PySem.Spec PyProof.Rows
def spDue (K : PySem.W.Frag) : Sp := fun vs H Q _ => ∃ (wv gv tv : V) (r : V ⊕ Pd), vs = [wv, gv, tv] ∧ DueK K H wv gv tv r ∧ (∀ v, r = .inl v → ∀ H' p, Same H H' → H' p = some (.lst [v]) → H p = none → Q (.ref p) H') ∧
  ∀ p, r = .inr p → ∀ H' u t, Same H H' → H' u = some (.tup [.str p.way, .ref t, .int p.n]) → H u = none → H' t = some (.tup (sW p.gs)) → Q (.ref u) H'
theorem ite_to {b : Bool} {A B : Prop} (h : B) (f : b = false → B → A) : if (!b) = true then A else B := by
  cases b with
  | false => exact f rfl h
  | true => exact h
theorem noty_in {K : PySem.W.Frag} {H : Hp} {v : V} (h : NotTy K H "str" v) (p : PlainV K H v) (ws : List Str) : inV v (sW ws) = false := by
  rcases p with fl | bx
  · have nt : ∀ z, v ≠ .str z := fun z e => by
      subst e
      obtain ⟨t, ty, kt⟩ := h
      cases ty with
      | base b =>
        cases b
        rw [show PySem.W.kitOne K (.type "str") (.type "str") = some true from kit_ty (by decide +kernel)] at kt
        cases kt
    induction ws with
    | nil => rfl
    | cons w r ih =>
      unfold inV at ih ⊢
      dsimp only [sW] at ih ⊢
      rw [List.map_cons, List.any_cons, ih]
      cases v with
      | str z => exact absurd rfl (nt z)
      | _ => rfl
  · obtain ⟨a, rfl, _⟩ := bx
    exact inV_ref
theorem SqB.two {K : PySem.W.Frag} {H : Hp} {a : Addr} {us : List V} (h : SqB K H a us) : ∃ t b, TyX K H (.ref a) t ∧ PySem.W.kitOne K t (.type "list") = some b ∧ (b = false → PySem.W.kitOne K t (.type "tuple") = some true) := by
  rcases h with ((h | ⟨o, h⟩) | ⟨o, _, _, h, c, _⟩) | ((h | ⟨o, h⟩) | ⟨o, _, _, h, c, _⟩)
  · exact ⟨_, true, .base (.lst h), kit_ty (by decide +kernel), fun z => nomatch z⟩
  · exact ⟨_, true, .base (.frz h), kit_ty (by decide +kernel), fun z => nomatch z⟩
  · exact ⟨_, true, .kList h c, kit_ty (by decide +kernel), fun z => nomatch z⟩
  · exact ⟨_, false, .base (.tup h), kit_ty (by decide +kernel), fun _ => kit_ty (by decide +kernel)⟩
  · exact ⟨_, false, .fTuple h, kit_ty (by decide +kernel), fun _ => kit_ty (by decide +kernel)⟩
  · exact ⟨_, false, .kTuple h c, kit_ty (by decide +kernel), fun _ => kit_ty (by decide +kernel)⟩
end Pl
end L2
namespace Bs
open PySem PySem.Spec PyProof.Rows L2 L2.Pl
section
variable {P : Program} {w : World} {K : PySem.W.Frag} {mg : Str → Option Value} {base : Heap} {f : Addr} {fd : FuncData}
abbrev NDu : List Str := ["way", "guards", "number", "one"]
theorem scDue : FnScope NDu ["way", "guards", "number"] (defScope sDue) := ⟨rfl, rfl, rfl, by decide +kernel, rfl, by decide +kernel, by decide +kernel⟩
theorem ok_due (G : Gn mg) (hso : mg "sorted" = none) (hbo : mg "bool" = none) (F : FnP K "_law_due" sDue f fd) : FnOk P w K mg base CX0 2 f fd ["way", "guards", "number"] (spDue K) := by
  refine F.ok scDue (fun vs H Q E h => ?_) (fun cdv A outer s H vs Q E hr h => ?_)
  · obtain ⟨_, _, _, _, rfl, _⟩ := h
    rfl
  · obtain ⟨wv, gv, tv, r, rfl, dk, e, q⟩ := h
    have hu : (A.deeper (envOfC "_law_due" (defScope sDue) s.heap.objs.size f cdv)).in1.units < cLine := by
      have := (Room.in1 hr).units0
      omega
    refine ⟨_, PSs.nox (pss_cons (ps_if (PW.pt (pw_or (pt_not (pt_val (pe_callB call_isi (by rfl) G.isi bIsi (pa_cons (pv 0) (pa_cons (pe_bltn (v := .ty "str") (by rfl) G.str bStr rfl) pa_nil))))) (pw_or1 (pt_cmpR op_notIn_seq (pv 0) (pe_tup (pa_cons pe_str (pa_cons pe_str (pa_cons pe_str pa_nil)))) (by with_unfolding_all rfl)))))
        (pss_one (ps_ret (pe_lst (pa_cons (pv 0) pa_nil)))) pss_nil)
      (pss_cons (ps_if (PW.pt (pw_and (pt_not (pt_val (pe_callB call_isi (by rfl) G.isi bIsi (pa_cons (pv 1) (pa_cons (pe_bltn (v := .ty "list") (by rfl) G.list bList rfl) pa_nil))))) (pw_and1 (pt_not (pt_val (pe_callB call_isi (by rfl) G.isi bIsi (pa_cons (pv 1) (pa_cons (pe_bltn (v := .ty "tuple") (by rfl) G.tuple bTuple rfl) pa_nil))))))))
        (pss_one (ps_ret (pe_lst (pa_cons (pv 1) pa_nil)))) pss_nil)
      (pss_cons (ps_if (pt_cmpR (op_neD hr.units) (pe_lc (own := [("one", 3)]) (g := gName 3) (tt := tOr (tNot (tTest (tCB (rIsi K) (tCons (tVar 3) (tCons (tC (.ty "str")) tNil))))) (tTest (tOp (rIn K true) (tVar 3) (tTup (tCons (tC (.str "once")) (tCons (tC (.str "stamp")) tNil)))))) (te := tVar 3) rfl scDue.nd (pi_seq (pv 1)) (blkOk_by (N := NDu) (sc := defScope sDue) (by decide +kernel)) (fun _ _ _ _ _ => pg_name (i := 3) scDue.nd rfl (.inl rfl))
          (fun _ _ _ _ _ => pts_one (PW.pt (pw_or (pt_not (pt_val (pe_callB call_isi (by rfl) G.isi bIsi (pa_cons (pv 3) (pa_cons (pe_bltn (v := .ty "str") (by rfl) G.str bStr rfl) pa_nil))))) (pw_or1 (pt_cmpR op_notIn_seq (pv 3) (pe_tup (pa_cons pe_str (pa_cons pe_str pa_nil))) (by with_unfolding_all rfl)))))) (fun _ _ _ _ _ => pv 3)) (pe_lst pa_nil) (nomark _))
        (pss_one (ps_ret (pe_lst (pa_cons (pv 1) pa_nil)))) pss_nil)
      (pss_cons (ps_if (pt_cmpR op_ne (pe_lenSetB rfl (by rfl) G.len (by rfl) G.set (pv 1)) (pe_callB call_len_seq (by rfl) G.len bLen (pa_cons (pv 1) pa_nil)) (nomark _))
        (pss_one (ps_ret (pe_lst (pa_cons (pv 1) pa_nil)))) pss_nil)
      (pss_cons (ps_if (PW.pt (pw_or (pt_not (pt_val (pe_callB call_isi (by rfl) G.isi bIsi (pa_cons (pv 2) (pa_cons (pe_bltn (v := .ty "int") (by rfl) G.int bInt rfl) pa_nil))))) (pw_or (pt_val (pe_callB call_isi (by rfl) G.isi bIsi (pa_cons (pv 2) (pa_cons (pe_bltn (v := .ty "bool") (by rfl) hbo bBool rfl) pa_nil)))) (pw_or1 (pt_not (pt_chain op_le op_le pe_int (pv 2) pe_int))))))
        (pss_one (ps_ret (pe_lst (pa_cons (pv 2) pa_nil)))) pss_nil)
      (pss_one (ps_ret (pe_tup (pa_cons (pv 0) (pa_cons (pe_callTy call_tuple_of (by rfl) G.tuple bTuple (pa_cons (pe_callB cr_sortedB (by rfl) hso bSorted (pa_cons (pv 1) pa_nil)) pa_nil)) (pa_cons (pv 2) pa_nil))))))))))), ?_⟩
    -- the way
    have wk : (WayK K H wv false ∧ r = .inl wv) ∨ ∃ z, wv = .str z ∧ z ∈ wws := by
      cases dk with
      | way w => exact .inl ⟨w, rfl⟩
      | noseq w | bad w | twice w | tries w => cases w with | good hz => exact .inr ⟨_, rfl, hz⟩
      | good e1 hz => exact .inr ⟨_, e1, hz⟩
    rcases wk with ⟨wk, rfl⟩ | ⟨z, rfl, hz⟩
    · cases wk with
      | flat fl ni =>
        rcases ty_flat (K := K) (H := H) fl with ⟨z, rfl⟩ | nt
        · refine ⟨_, rfl, .str z, .ty "str", _, _, true, rfl, .ty _, .base (.str z), kit_ty (by decide +kernel), true, rfl, iteF ?_⟩
          refine ⟨_, rfl, by show 3 ≤ sizeLine; decide, fun p hp => ⟨p, sW wws, rfl, .inr (SqT.of upd_same), rfl, flatW _, _, rfl, ?_⟩⟩
          rw [if_pos rfl, ni]
          exact iteT ⟨_, rfl, by show 1 ≤ sizeLine; decide, fun p2 hp2 => e _ rfl _ p2 ((same_new hp).trans (same_new hp2)) upd_same ((same_new hp).free hp2)⟩
        · obtain ⟨t, ty, kt⟩ := nt
          refine ⟨_, rfl, wv, .ty "str", _, _, false, rfl, .ty _, ty, kt, false, rfl, ?_⟩
          exact iteT (iteT ⟨_, rfl, by show 1 ≤ sizeLine; decide, fun p hp => e _ rfl _ p (same_new hp) upd_same hp⟩)
      | box bx =>
        have nt := ty_box bx
        obtain ⟨t, ty, kt⟩ := nt
        refine ⟨_, rfl, wv, .ty "str", _, _, false, rfl, .ty _, ty, kt, false, rfl, ?_⟩
        exact iteT (iteT ⟨_, rfl, by show 1 ≤ sizeLine; decide, fun p hp => e _ rfl _ p (same_new hp) upd_same hp⟩)
    · refine ⟨_, rfl, .str z, .ty "str", _, _, true, rfl, .ty _, .base (.str z), kit_ty (by decide +kernel), true, rfl, iteF ?_⟩
      refine ⟨_, rfl, by show 3 ≤ sizeLine; decide, fun p hp => ⟨p, sW wws, rfl, .inr (SqT.of upd_same), rfl, flatW _, _, rfl, ?_⟩⟩
      rw [if_pos rfl, inV_txt, decide_eq_true hz]
      have m1 : Same H (upd H p (.tup [.str "letter", .str "key", .str "all"])) := same_new hp
      refine iteF ?_
      generalize upd H p (.tup [.str "letter", .str "key", .str "all"]) = H1 at *
      -- the guards
      have gk : (r = .inl gv ∧ ∃ t, TyX K H gv t ∧ PySem.W.kitAny K t [.type "list", .type "tuple"] = some false) ∨ ∃ a us, gv = .ref a ∧ SqB K H a us ∧ us.length ≤ 3 ∧ (∀ u ∈ us, EntV K H u) ∧ ((us.all (fun u => inV u (sW gws)) = false ∧ r = .inl gv) ∨
          ∃ ws, us = sW ws ∧ (∀ x ∈ ws, x ∈ gws) ∧ ((¬ ws.Nodup ∧ r = .inl gv) ∨ (ws.Nodup ∧ ((Btw K H 1 3 tv false ∧ r = .inl tv) ∨ ∃ n, tv = .int n ∧ 1 ≤ n ∧ n ≤ 3 ∧ r = .inr ⟨z, srtG ws, n⟩)))) := by
        have txt : ∀ ws : List Str, (∀ x ∈ ws, x ∈ gws) → ∀ u ∈ sW ws, EntV K H u := fun ws gd u hu => by
          obtain ⟨x, hx, rfl⟩ := List.mem_map.mp hu
          refine ⟨.inl rfl, .str x, fun _ _ => .str x, ?_, by simp [PyData.depth]⟩
          have : ∀ x ∈ gws, (PyData.str x).canLay0 = true := by decide +kernel
          exact this x (gd x hx)
        cases dk with
        | way w => cases w with
          | flat fl ni =>
            rw [inV_txt, decide_eq_true hz] at ni
            cases ni
          | box bx => obtain ⟨_, e, _⟩ := bx; cases e
        | noseq w ty kt => exact .inl ⟨rfl, _, ty, kt⟩
        | @bad a us w e1 sq l3 en b => exact .inr ⟨a, us, e1, sq, l3, en, .inl ⟨b, rfl⟩⟩
        | @twice a ws w e1 sq l3 gd nd => exact .inr ⟨a, sW ws, e1, sq, by rw [List.length_map]; exact l3, txt ws gd, .inr ⟨ws, rfl, gd, .inl ⟨nd, rfl⟩⟩⟩
        | @tries a ws w e1 sq l3 gd nd bk => exact .inr ⟨a, sW ws, e1, sq, by rw [List.length_map]; exact l3, txt ws gd, .inr ⟨ws, rfl, gd, .inr ⟨nd, .inl ⟨bk, rfl⟩⟩⟩⟩
        | @good z2 a ws n e0 _ e1 sq l3 gd nd e3 n1 n3 =>
          cases e0
          exact .inr ⟨a, sW ws, e1, sq, by rw [List.length_map]; exact l3, txt ws gd, .inr ⟨ws, rfl, gd, .inr ⟨nd, .inr ⟨n, e3, n1, n3, rfl⟩⟩⟩⟩
      rcases gk with ⟨rfl, t, ty, kt⟩ | ⟨a, us, rfl, sq, l3, en, re⟩
      · obtain ⟨k1, k2⟩ := kit_two kt
        refine ⟨_, rfl, gv, .ty "list", _, _, false, rfl, .ty _, tyKeep ty m1, k1, false, rfl, ?_⟩
        refine iteT ⟨_, rfl, gv, .ty "tuple", _, _, false, rfl, .ty _, tyKeep ty m1, k2, false, rfl, ?_⟩
        exact iteT ⟨_, rfl, by show 1 ≤ sizeLine; decide, fun p hp => e _ rfl _ p (m1.trans (same_new hp)) upd_same (m1.free hp)⟩
      · have sq1 := sq.same m1
        have en1 : ∀ u ∈ us, EntV K H1 u := fun u hu => (en u hu).same m1
        obtain ⟨t, b, ty, k1, k2⟩ := sq1.two
        refine ⟨_, rfl, .ref a, .ty "list", t, _, b, rfl, .ty _, ty, k1, b, rfl, ?_⟩
        refine ite_to ?_ (fun hb rest => ⟨_, rfl, .ref a, .ty "tuple", t, _, true, rfl, .ty _, ty, k2 hb, true, rfl, rest⟩)
        refine iteF ?_
        rcases sq1 with hs | hs
        · refine .inl ⟨_, rfl, a, rfl, ⟨_, hs⟩, fun D hD => ?_⟩
          refine lc_genJ (walk_list (K := K) (a := a) (xs := us)) (fun H2 => Same H1 H2 ∧ ∃ ys, H2 D = some (.lst ys)) (fun u => !inV u (sW gws)) (fun x y => y = x) ⟨same_new hD, _, upd_same⟩ (fun H2 acc ⟨m2, _⟩ _ y => ⟨same_wrJ m2 hD, _, upd_same⟩) (fun H2 ⟨m2, _⟩ => m2.seq hs) (by omega) (fun x H2 N YK hx ⟨m2, yo, ho⟩ kf kt => ?_) (fun H2 ys ⟨m2, _⟩ hy pr => ?_)
          · have ex := (en1 x hx).same m2
            have tell : ∀ H4, Same H2 H4 → (if (!inV x (sW gws)) = true then YK x H4 else N H4) := fun H4 m4 => by
              cases c : (!inV x (sW gws)) with
              | false => exact iteF (kf c H4 ⟨m2.trans m4, _, m4 _ _ ho⟩ ((m4 _ _ ho).trans ho.symm))
              | true => exact iteT (kt c x H4 ⟨m2.trans m4, _, m4 _ _ ho⟩ ((m4 _ _ ho).trans ho.symm) rfl)
            have isT : (∃ z, x = .str z) ∨ NotTy K H2 "str" x := ex.1.elim (fun fl => ty_flat fl) fun bx => .inr (ty_box bx)
            rcases isT with ⟨z2, rfl⟩ | nt
            · refine ⟨rfl, _, rfl, .str z2, .ty "str", _, _, true, rfl, .ty _, .base (.str z2), kit_ty (by decide +kernel), true, rfl, iteF ?_⟩
              refine ⟨_, rfl, by show 2 ≤ sizeLine; decide, fun t2 h2 => ⟨t2, sW gws, rfl, .inr (SqT.of upd_same), rfl, flatW _, _, rfl, ?_⟩⟩
              have tl := tell _ (same_new (o := .tup [.str "once", .str "stamp"]) h2)
              rw [if_pos rfl]
              cases c : (!inV (.str z2) (sW gws)) with
              | false =>
                rw [c] at tl
                exact tl
              | true =>
                rw [c] at tl
                exact ⟨_, rfl, tl⟩
            · have c : (!inV x (sW gws)) = true := by rw [noty_in nt ex.1]; rfl
              have tl := tell _ (Same.refl H2)
              rw [c] at tl
              obtain ⟨t2, ty2, kt2⟩ := nt
              refine ⟨rfl, _, rfl, x, .ty "str", _, _, false, rfl, .ty _, ty2, kt2, false, rfl, ?_⟩
              exact iteT (iteT ⟨_, rfl, tl⟩)
          · have ey := pairedJ_eq (f := fun x => x) pr
            rw [List.map_id'] at ey
            subst ey
            refine ⟨Nat.zero_le _, fun p0 hp0 => ?_⟩
            have m3 : Same H1 (upd H2 p0 (.lst [])) := m2.trans (same_new hp0)
            have D3 : (upd H2 p0 (.lst [])) D = some (.lst (us.filter fun u => !inV u (sW gws))) := same_new hp0 _ _ hy
            have P3 : (upd H2 p0 (.lst [])) p0 = some (.lst []) := upd_same
            generalize upd H2 p0 (.lst []) = H3 at *
            obtain ⟨ds, d1, d2, d3, d4⟩ := ents (K := K) (H := H3) (us := us.filter fun u => !inV u (sW gws)) fun u hu => (en1 u (List.mem_filter.mp hu).1).same m3
            refine ⟨.list ds, .list [], .lst (SqL.of D3) d1, .lst (SqL.of P3) .nil, shaped_ents d2 d3, by decide +kernel, _, rfl, ?_⟩
            rw [eqv_nil]
            have mm := m1.trans m3
            rcases re with ⟨al, rfl⟩ | ⟨ws, rfl, gd, re⟩
            · have ne : ds.isEmpty = false := by
                cases ds with
                | nil =>
                  have nil := List.eq_nil_of_length_eq_zero (d4.symm.trans rfl)
                  exfalso
                  rw [List.filter_eq_nil_iff] at nil
                  have : us.all (fun u => inV u (sW gws)) = true := List.all_eq_true.mpr fun u hu => by simpa using nil u hu
                  rw [al] at this
                  cases this
                | cons _ _ => rfl
              rw [ne]
              exact iteT ⟨_, rfl, by show 1 ≤ sizeLine; decide, fun p hp => e _ rfl _ p (mm.trans (same_new hp)) upd_same (mm.free hp)⟩
            · have em : ds.isEmpty = true := by
                have nil : (sW ws).filter (fun u => !inV u (sW gws)) = [] := by
                  rw [List.filter_eq_nil_iff]
                  intro u hu
                  obtain ⟨x, hx, rfl⟩ := List.mem_map.mp hu
                  rw [inV_txt, decide_eq_true (gd x hx)]
                  decide
                rw [nil] at d4
                cases ds with
                | nil => rfl
                | cons _ _ => cases d4
              rw [em]
              refine iteF ?_
              have sq3 := sq.same mm
              have lw : (sW ws).length = ws.length := List.length_map _
              refine ⟨_, rfl, a, ws, rfl, sq3, by omega, _, rfl, a, sW ws, rfl, sq3, rfl, _, rfl, ?_⟩
              have e3 : decide (V.int ((PlayL.metS ws).length : Nat) = V.int ((sW ws).length : Nat)) = decide ws.Nodup := by
                rw [lw, Bool.eq_iff_iff, decide_eq_true_iff, decide_eq_true_iff, ← PlayL.metS_nd _ ws rfl]
                constructor
                · intro z
                  injection z with z
                  omega
                · intro z
                  rw [z]
              rw [e3]
              rcases re with ⟨nd, rfl⟩ | ⟨nd, re⟩
              · rw [decide_eq_false nd]
                exact iteT ⟨_, rfl, by show 1 ≤ sizeLine; decide, fun p hp => e _ rfl _ p (mm.trans (same_new hp)) upd_same (mm.free hp)⟩
              · rw [decide_eq_true nd]
                refine iteF ?_
                rcases re with ⟨bk, rfl⟩ | ⟨n, rfl, n1, n3, rfl⟩
                · have bk := btwKeep bk mm
                  generalize hk : false = k at bk
                  cases bk with
                  | int n =>
                    refine ⟨_, rfl, .int n, .ty "int", _, _, true, rfl, .ty _, tyI n, kitI, true, rfl, iteF ?_⟩
                    refine ⟨_, rfl, .int n, .ty "bool", _, _, false, rfl, .ty _, tyI n, kitIB, false, rfl, iteF ?_⟩
                    refine ⟨_, rfl, _, _, rfl, rfl, _, rfl, ?_⟩
                    cases c1 : decide ((1 : Int) ≤ n) with
                    | false => exact iteF ⟨_, rfl, iteT ⟨_, rfl, by show 1 ≤ sizeLine; decide, fun p hp => e _ rfl _ p (mm.trans (same_new hp)) upd_same (mm.free hp)⟩⟩
                    | true =>
                      rw [c1] at hk
                      refine iteT ⟨_, _, rfl, rfl, _, rfl, ?_⟩
                      rw [show decide (n ≤ (3 : Int)) = false from hk.symm]
                      exact iteT ⟨_, rfl, by show 1 ≤ sizeLine; decide, fun p hp => e _ rfl _ p (mm.trans (same_new hp)) upd_same (mm.free hp)⟩
                  | bl x =>
                    refine ⟨_, rfl, .bl x, .ty "int", _, _, true, rfl, .ty _, tyB x, kitBI, true, rfl, iteF ?_⟩
                    refine ⟨_, rfl, .bl x, .ty "bool", _, _, true, rfl, .ty _, tyB x, kitBB, true, rfl, ?_⟩
                    exact iteT (iteT ⟨_, rfl, by show 1 ≤ sizeLine; decide, fun p hp => e _ rfl _ p (mm.trans (same_new hp)) upd_same (mm.free hp)⟩)
                  | no nt =>
                    obtain ⟨t4, ty4, kt4⟩ := nt
                    refine ⟨_, rfl, tv, .ty "int", _, _, false, rfl, .ty _, ty4, kt4, false, rfl, ?_⟩
                    exact iteT (iteT ⟨_, rfl, by show 1 ≤ sizeLine; decide, fun p hp => e _ rfl _ p (mm.trans (same_new hp)) upd_same (mm.free hp)⟩)
                · refine ⟨_, rfl, .int n, .ty "int", _, _, true, rfl, .ty _, tyI n, kitI, true, rfl, iteF ?_⟩
                  refine ⟨_, rfl, .int n, .ty "bool", _, _, false, rfl, .ty _, tyI n, kitIB, false, rfl, iteF ?_⟩
                  refine ⟨_, rfl, _, _, rfl, rfl, _, rfl, ?_⟩
                  rw [decide_eq_true n1]
                  refine iteT ⟨_, _, rfl, rfl, _, rfl, ?_⟩
                  rw [decide_eq_true n3]
                  refine iteF ?_
                  refine ⟨_, rfl, _, rfl, a, ws, rfl, sq3, by omega, fun ys p pm so hp => ⟨p, _, rfl, .inl ⟨SqL.of upd_same, fun t5 ht5 => ⟨_, rfl, by show 3 ≤ sizeLine; decide, fun u hu5 => ?_⟩⟩⟩⟩
                  have l2 : ws.length ≤ 2 := Nat.le_of_not_lt fun c => gws_twice gd c nd
                  obtain rfl := srt_perm l2 gd nd pm so
                  have a1 := mm.trans (same_new (o := .lst (sW (srtG ws))) hp)
                  have a2 := a1.trans (same_new (o := .tup (sW (srtG ws))) ht5)
                  exact q _ rfl _ u t5 (a2.trans (same_new hu5)) upd_same (a2.free hu5) (same_new hu5 _ _ upd_same)
        · refine .inr ⟨_, rfl, a, rfl, ⟨_, hs⟩, fun D hD => ?_⟩
          refine lc_genJ (walk_tup (K := K) (a := a) (xs := us)) (fun H2 => Same H1 H2 ∧ ∃ ys, H2 D = some (.lst ys)) (fun u => !inV u (sW gws)) (fun x y => y = x) ⟨same_new hD, _, upd_same⟩ (fun H2 acc ⟨m2, _⟩ _ y => ⟨same_wrJ m2 hD, _, upd_same⟩) (fun H2 ⟨m2, _⟩ => seqT_keep hs m2) (by omega) (fun x H2 N YK hx ⟨m2, yo, ho⟩ kf kt => ?_) (fun H2 ys ⟨m2, _⟩ hy pr => ?_)
          · have ex := (en1 x hx).same m2
            have tell : ∀ H4, Same H2 H4 → (if (!inV x (sW gws)) = true then YK x H4 else N H4) := fun H4 m4 => by
              cases c : (!inV x (sW gws)) with
              | false => exact iteF (kf c H4 ⟨m2.trans m4, _, m4 _ _ ho⟩ ((m4 _ _ ho).trans ho.symm))
              | true => exact iteT (kt c x H4 ⟨m2.trans m4, _, m4 _ _ ho⟩ ((m4 _ _ ho).trans ho.symm) rfl)
            have isT : (∃ z, x = .str z) ∨ NotTy K H2 "str" x := ex.1.elim (fun fl => ty_flat fl) fun bx => .inr (ty_box bx)
            rcases isT with ⟨z2, rfl⟩ | nt
            · refine ⟨rfl, _, rfl, .str z2, .ty "str", _, _, true, rfl, .ty _, .base (.str z2), kit_ty (by decide +kernel), true, rfl, iteF ?_⟩
              refine ⟨_, rfl, by show 2 ≤ sizeLine; decide, fun t2 h2 => ⟨t2, sW gws, rfl, .inr (SqT.of upd_same), rfl, flatW _, _, rfl, ?_⟩⟩
              have tl := tell _ (same_new (o := .tup [.str "once", .str "stamp"]) h2)
              rw [if_pos rfl]
              cases c : (!inV (.str z2) (sW gws)) with
              | false =>
                rw [c] at tl
                exact tl
              | true =>
                rw [c] at tl
                exact ⟨_, rfl, tl⟩
            · have c : (!inV x (sW gws)) = true := by rw [noty_in nt ex.1]; rfl
              have tl := tell _ (Same.refl H2)
              rw [c] at tl
              obtain ⟨t2, ty2, kt2⟩ := nt
              refine ⟨rfl, _, rfl, x, .ty "str", _, _, false, rfl, .ty _, ty2, kt2, false, rfl, ?_⟩
              exact iteT (iteT ⟨_, rfl, tl⟩)
          · have ey := pairedJ_eq (f := fun x => x) pr
            rw [List.map_id'] at ey
            subst ey
            refine ⟨Nat.zero_le _, fun p0 hp0 => ?_⟩
            have m3 : Same H1 (upd H2 p0 (.lst [])) := m2.trans (same_new hp0)
            have D3 : (upd H2 p0 (.lst [])) D = some (.lst (us.filter fun u => !inV u (sW gws))) := same_new hp0 _ _ hy
            have P3 : (upd H2 p0 (.lst [])) p0 = some (.lst []) := upd_same
            generalize upd H2 p0 (.lst []) = H3 at *
            obtain ⟨ds, d1, d2, d3, d4⟩ := ents (K := K) (H := H3) (us := us.filter fun u => !inV u (sW gws)) fun u hu => (en1 u (List.mem_filter.mp hu).1).same m3
            refine ⟨.list ds, .list [], .lst (SqL.of D3) d1, .lst (SqL.of P3) .nil, shaped_ents d2 d3, by decide +kernel, _, rfl, ?_⟩
            rw [eqv_nil]
            have mm := m1.trans m3
            rcases re with ⟨al, rfl⟩ | ⟨ws, rfl, gd, re⟩
            · have ne : ds.isEmpty = false := by
                cases ds with
                | nil =>
                  have nil := List.eq_nil_of_length_eq_zero (d4.symm.trans rfl)
                  exfalso
                  rw [List.filter_eq_nil_iff] at nil
                  have : us.all (fun u => inV u (sW gws)) = true := List.all_eq_true.mpr fun u hu => by simpa using nil u hu
                  rw [al] at this
                  cases this
                | cons _ _ => rfl
              rw [ne]
              exact iteT ⟨_, rfl, by show 1 ≤ sizeLine; decide, fun p hp => e _ rfl _ p (mm.trans (same_new hp)) upd_same (mm.free hp)⟩
            · have em : ds.isEmpty = true := by
                have nil : (sW ws).filter (fun u => !inV u (sW gws)) = [] := by
                  rw [List.filter_eq_nil_iff]
                  intro u hu
                  obtain ⟨x, hx, rfl⟩ := List.mem_map.mp hu
                  rw [inV_txt, decide_eq_true (gd x hx)]
                  decide
                rw [nil] at d4
                cases ds with
                | nil => rfl
                | cons _ _ => cases d4
              rw [em]
              refine iteF ?_
              have sq3 := sq.same mm
              have lw : (sW ws).length = ws.length := List.length_map _
              refine ⟨_, rfl, a, ws, rfl, sq3, by omega, _, rfl, a, sW ws, rfl, sq3, rfl, _, rfl, ?_⟩
              have e3 : decide (V.int ((PlayL.metS ws).length : Nat) = V.int ((sW ws).length : Nat)) = decide ws.Nodup := by
                rw [lw, Bool.eq_iff_iff, decide_eq_true_iff, decide_eq_true_iff, ← PlayL.metS_nd _ ws rfl]
                constructor
                · intro z
                  injection z with z
                  omega
                · intro z
                  rw [z]
              rw [e3]
              rcases re with ⟨nd, rfl⟩ | ⟨nd, re⟩
              · rw [decide_eq_false nd]
                exact iteT ⟨_, rfl, by show 1 ≤ sizeLine; decide, fun p hp => e _ rfl _ p (mm.trans (same_new hp)) upd_same (mm.free hp)⟩
              · rw [decide_eq_true nd]
                refine iteF ?_
                rcases re with ⟨bk, rfl⟩ | ⟨n, rfl, n1, n3, rfl⟩
                · have bk := btwKeep bk mm
                  generalize hk : false = k at bk
                  cases bk with
                  | int n =>
                    refine ⟨_, rfl, .int n, .ty "int", _, _, true, rfl, .ty _, tyI n, kitI, true, rfl, iteF ?_⟩
                    refine ⟨_, rfl, .int n, .ty "bool", _, _, false, rfl, .ty _, tyI n, kitIB, false, rfl, iteF ?_⟩
                    refine ⟨_, rfl, _, _, rfl, rfl, _, rfl, ?_⟩
                    cases c1 : decide ((1 : Int) ≤ n) with
                    | false => exact iteF ⟨_, rfl, iteT ⟨_, rfl, by show 1 ≤ sizeLine; decide, fun p hp => e _ rfl _ p (mm.trans (same_new hp)) upd_same (mm.free hp)⟩⟩
                    | true =>
                      rw [c1] at hk
                      refine iteT ⟨_, _, rfl, rfl, _, rfl, ?_⟩
                      rw [show decide (n ≤ (3 : Int)) = false from hk.symm]
                      exact iteT ⟨_, rfl, by show 1 ≤ sizeLine; decide, fun p hp => e _ rfl _ p (mm.trans (same_new hp)) upd_same (mm.free hp)⟩
                  | bl x =>
                    refine ⟨_, rfl, .bl x, .ty "int", _, _, true, rfl, .ty _, tyB x, kitBI, true, rfl, iteF ?_⟩
                    refine ⟨_, rfl, .bl x, .ty "bool", _, _, true, rfl, .ty _, tyB x, kitBB, true, rfl, ?_⟩
                    exact iteT (iteT ⟨_, rfl, by show 1 ≤ sizeLine; decide, fun p hp => e _ rfl _ p (mm.trans (same_new hp)) upd_same (mm.free hp)⟩)
                  | no nt =>
                    obtain ⟨t4, ty4, kt4⟩ := nt
                    refine ⟨_, rfl, tv, .ty "int", _, _, false, rfl, .ty _, ty4, kt4, false, rfl, ?_⟩
                    exact iteT (iteT ⟨_, rfl, by show 1 ≤ sizeLine; decide, fun p hp => e _ rfl _ p (mm.trans (same_new hp)) upd_same (mm.free hp)⟩)
                · refine ⟨_, rfl, .int n, .ty "int", _, _, true, rfl, .ty _, tyI n, kitI, true, rfl, iteF ?_⟩
                  refine ⟨_, rfl, .int n, .ty "bool", _, _, false, rfl, .ty _, tyI n, kitIB, false, rfl, iteF ?_⟩
                  refine ⟨_, rfl, _, _, rfl, rfl, _, rfl, ?_⟩
                  rw [decide_eq_true n1]
                  refine iteT ⟨_, _, rfl, rfl, _, rfl, ?_⟩
                  rw [decide_eq_true n3]
                  refine iteF ?_
                  refine ⟨_, rfl, _, rfl, a, ws, rfl, sq3, by omega, fun ys p pm so hp => ⟨p, _, rfl, .inl ⟨SqL.of upd_same, fun t5 ht5 => ⟨_, rfl, by show 3 ≤ sizeLine; decide, fun u hu5 => ?_⟩⟩⟩⟩
                  have l2 : ws.length ≤ 2 := Nat.le_of_not_lt fun c => gws_twice gd c nd
                  obtain rfl := srt_perm l2 gd nd pm so
                  have a1 := mm.trans (same_new (o := .lst (sW (srtG ws))) hp)
                  have a2 := a1.trans (same_new (o := .tup (sW (srtG ws))) ht5)
                  exact q _ rfl _ u t5 (a2.trans (same_new hu5)) upd_same (a2.free hu5) (same_new hu5 _ _ upd_same)
end
end Bs
set_option Elab.async false
set_option linter.all false
set_option maxRecDepth 100000
set_option maxHeartbeats 2000000
/-! data that is small, under a repr -/
namespace L2
namespace Pl
open PySem PySem.Spec PyProof.Rows
section
variable {K : PySem.W.Frag} {H H' : Hp}
mutual
theorem Dq.same (s : Same H H') : ∀ (d : PyData) (v : V), Dq K H v d → Dq K H' v d
  | .none, _, h => by
    cases h
    exact .non
  | .bool b, _, h => by
    cases h
    exact .bl b
  | .int i, _, h => by
    cases h
    exact .int i
  | .str x, _, h => by
    cases h
    exact .str x
  | .list ds, _, h => by
    cases h with
    | lst ha hx => exact .lst (s _ _ ha) (Dq.sameAll s ds _ hx)
  | .tuple ds, _, h => by
    cases h with
    | tup ha hx => exact .tup (s _ _ ha) (Dq.sameAll s ds _ hx)
  | .dict es, _, h => by
    cases h with
    | dic ha hx => exact .dic (s _ _ ha) (Dq.sameKv s es _ hx)
theorem Dq.sameAll (s : Same H H') : ∀ (ds : List PyData) (vs : List V), DqAll K H vs ds → DqAll K H' vs ds
  | [], _, h => by
    cases h
    exact .nil
  | d :: ds, _, h => by
    cases h with
    | cons h1 h2 => exact .cons (Dq.same s d _ h1) (Dq.sameAll s ds _ h2)
theorem Dq.sameKv (s : Same H H') : ∀ (es : List (PyData × PyData)) (kvs : List (Key × V)), DqKv K H kvs es → DqKv K H' kvs es
  | [], _, h => by
    cases h
    exact .nil
  | (kd, d) :: es, _, h => by
    cases h with
    | cons h1 h2 => exact .cons (Dq.same s d _ h1) (Dq.sameKv s es _ h2)
end
theorem dq_rep {v : V} {d : PyData} (h : Dq K H v d) : ∀ n : Nat, DqAll K H (List.replicate n v) (List.replicate n d)
  | 0 => .nil
  | n + 1 => by
    rw [List.replicate_succ, List.replicate_succ]
    exact .cons h (dq_rep h n)
end
/-- data that is small and can be shown -/
structure Sm (d : PyData) (n : Nat) : Prop where
  can : d.showable = true
  short : d.leavesShort 13 = true
  bulk : d.bulk ≤ n
  dep : d.depth ≤ 50
theorem sm_rep {d : PyData} {b : Nat} (h : Sm d b) : ∀ n : Nat, PyData.showableAll (List.replicate n d) = true ∧ PyData.leavesShortAll 13 (List.replicate n d) = true ∧ PyData.bulkAll (List.replicate n d) ≤ n * (b + 1) ∧ PyData.depthAll (List.replicate n d) ≤ 50
  | 0 => ⟨rfl, rfl, by simp [PyData.bulkAll], by simp [PyData.depthAll]⟩
  | n + 1 => by
    obtain ⟨h1, h2, h3, h4⟩ := sm_rep h n
    have q1 := h.can
    have q2 := h.short
    have q3 := h.bulk
    have q4 := h.dep
    rw [List.replicate_succ]
    refine ⟨by simp [PyData.showableAll, q1, h1], by simp [PyData.leavesShortAll, q2, h2], ?_, ?_⟩
    · simp only [PyData.bulkAll]
      rw [Nat.succ_mul]
      omega
    · simp only [PyData.depthAll]
      omega
theorem shows_rep {K : PySem.W.Frag} {H : Hp} {p : Addr} {v : V} {d : PyData} {b n : Nat} (h : Sm d b) (hd : Dq K H v d) (hp : H p = some (.lst (List.replicate n v))) (hb : n * (b + 1) ≤ 1048576) : Shows K H (.ref p) (.list (List.replicate n d)) := by
  obtain ⟨h1, h2, h3, h4⟩ := sm_rep h n
  refine ⟨.lst hp (dq_rep hd n), by simpa [PyData.showable] using h1, by simp only [PyData.depth]; omega, ?_⟩
  exact PyData.shown_fits_bulk (B := 13) (by decide) (by decide) (by simpa [PyData.leavesShort] using h2) (by simp only [PyData.bulk]; have e : (2 : Nat) ^ 20 = 1048576 := by decide
                                                                                                              omega)
end Pl
end L2
set_option Elab.async false
set_option linter.all false
set_option maxRecDepth 100000
set_option maxHeartbeats 2000000
/-! repr of any drawn value; defs under `guards = some []` that call such defs; t[::-1] -/
namespace L2
namespace Pl
open PySem PySem.Spec PyProof.Rows
/-- the text of a flat value -/
inductive FlatT : V → Str → Prop
  | non : FlatT .non "None"
  | bl (b : Bool) : FlatT (.bl b) (if b then "True" else "False")
  | int (i : Int) : i.natAbs.log2 < 1920 → FlatT (.int i) (toString i)
  | str (x : Str) : (reprText x).length ≤ sizeLine → FlatT (.str x) (reprText x)
/-- what repr tells of any value -/
inductive TextV (K : PySem.W.Frag) (H : Hp) : V → Str → Prop
  | flat {v : V} {t : Str} : FlatT v t → TextV K H v t
  | box {a : Addr} {d : PyData} : Shows K H (.ref a) d → TextV K H (.ref a) d.shown
theorem TextV.same {K : PySem.W.Frag} {H H' : Hp} {v : V} {t : Str} (h : TextV K H v t) (m : Same H H') : TextV K H' v t := by
  cases h with
  | flat f => exact .flat f
  | box s => exact .box ⟨Dq.same m _ _ s.dat, s.can, s.dep, s.len⟩
def rText (K : PySem.W.Frag) : List V → Hp → VK → Prop := fun xs H Q => ∃ v t, xs = [v] ∧ TextV K H v t ∧ Q (.str t) H
theorem call_reprU {X : Cx} (hK : SysK X.K) (hg : X.A.guards = some []) (hu : X.A.units + 150 < cLine) : CallR X (.builtin "repr") (rText X.K) := by
  intro pins s σ H xs us Q I r h
  obtain ⟨v, t, rfl, T, q⟩ := h
  cases T with
  | @box a d S =>
    obtain ⟨u, rfl, ru⟩ := vals1 r
    obtain rfl : u = Value.ref a := ru
    obtain ⟨as, rd, ns⟩ := Dq.reads hK I d _ _ S.dat rfl
    have z2 := S.dep
    exact repr_of_reads' rd S.can (fun _ => ns) hg (by omega) (fun _ _ e => e) (fun h' t tk k => ⟨.str d.shown, H, I.kept (t' := tk) k, ⟨t, rfl⟩, q⟩) S.len
  | flat F =>
    obtain ⟨u, rfl, ru⟩ := vals1 r
    cases F with
    | non =>
      obtain rfl : u = Value.none := ru
      exact PySem.P.repr_of_none ⟨.str _, H, I.tok _, ⟨_, rfl⟩, q⟩
    | bl b =>
      obtain rfl : u = Value.bool b := ru
      exact PySem.P.repr_of_bool ⟨.str _, H, I.tok _, ⟨_, rfl⟩, q⟩
    | int i hi =>
      obtain ⟨t, rfl⟩ := ru
      exact PySem.P.repr_of_int hi ⟨.str _, H, I.tok _, ⟨_, rfl⟩, q⟩
    | str x hx =>
      obtain ⟨t, rfl⟩ := ru
      exact PySem.P.repr_of_str (h := ⟨.str _, H, I.tok _, ⟨_, rfl⟩, q⟩) (hsz := hx)
theorem call_reprV {X : Cx} {k : Nat} (hK : SysK X.K) (hg : X.A.guards = some []) (hr : Room k X.A) : CallR X (.builtin "repr") (rText X.K) := call_reprU hK hg (by have := hr.un; omega)
/-! ### a call of a def that wants `guards = some []` -/
section
variable {X : Cx} {CX : CXT} {k : Nat} {f : Addr} {fd : FuncData} {ps : List Str} {sp : Sp} {ds : List Value} {dvs : List V} {E : XK} {x : Str} {p pos : Pos} {e : Expr} {es : List Expr} {t : TA}
theorem run_fnG {pins : List (Addr × Obj)} {σ : St} {H : Hp} {s : Shared} {Q : VK} {us : List Value} {vs : List V} (F : FnG X.prog X.w X.K X.mg X.base CX k f fd ps sp) (hG : X.A.guards = some []) (hr : Room k X.A) (hb : Binds X.K fd ps ds) (hd : Vals dvs ds) (hx : Passes CX X E)
    (I : Inv X pins σ H s) (r : Vals vs us) (h : sp (vs ++ dvs) H Q E) : wpAny (model X.prog X.w) X.A (call (.ref f) us) (EP X pins σ Q) X.xe s := by
  have r2 : Vals (vs ++ dvs) (us ++ ds) := r.append hd
  have hl : (us ++ ds).length = ps.length := by rw [← r2.length]; exact F.len _ _ _ _ h
  refine wpAny_call (codeAny_mono (F.run X.A hG X.stack s H ⟨us, []⟩ (us ++ ds) (vs ++ dvs) Q E hr I.env0 (hb s us I.kIn hl) r2 h) fun r s' hq => ?_)
  cases r with
  | error e => exact hx pins σ H s e s' I hq
  | ok fl =>
    cases fl with
    | ret u => exact I.after hq
    | next => exact False.elim hq
    | brk => exact False.elim hq
    | cont => exact False.elim hq
theorem pe_callG (F : FnG X.prog X.w X.K X.mg X.base CX k f fd ps sp) (hG : X.A.guards = some []) (hr : Room k X.A) (hg : Gl X x) (hm : X.mg x = some (.ref f)) (hk : PySem.W.keepIn X.K (.ref f) = true) (hb : Binds X.K fd ps ds) (hd : Vals dvs ds) (hx : Passes CX X E)
    (ha : PA X (e :: es) t) (hdb : (x == ("__debug__" : Str)) = false := by decide) (he : starEach (e :: es) X.env = (false, eval e X.env) :: starEach es X.env := by rfl) (hpl : (backTo pos (starEach es X.env)).any (·.1) = false := by rfl) :
    PE X (.Call (.Name x p) (e :: es) [] pos) (tCall sp dvs E t) := by
  refine ⟨fun pins s σ H Q I h => ?_⟩
  refine wpAny_Call_Name_kw (ld_glob I hg hm ?_ hdb)
  refine PySem.W.callWith_K (h₀ := X.base) I.ok.mod.kin hk (thn (ha.run pos pins s σ H _ I h) fun us s1 ⟨vs, H1, I1, r, q⟩ => ⟨I1.kIn, ?_⟩) he hpl
  exact run_fnG F hG hr hb hd hx I1 r q
end
end Pl
end L2
set_option Elab.async false
set_option linter.all false
set_option maxRecDepth 100000
set_option maxHeartbeats 2000000
/-! t[::-1], t a tuple -/
namespace HT
open PySem PySem.Spec PyProof.Rows L2
section
variable {prog : Program} {w : World} {A : Around} {E : Value → Shared → Prop} {s : Shared}
theorem fm_congr {α β : Type} {f g : α → Option β} : ∀ {l : List α}, (∀ x ∈ l, f x = g x) → l.filterMap f = l.filterMap g
  | [], _ => rfl
  | x :: r, h => by
    rw [List.filterMap_cons, List.filterMap_cons, h x (List.mem_cons_self ..), fm_congr fun y hy => h y (List.mem_cons_of_mem _ hy)]
theorem adjust_rev (n : Nat) : Builtin.Slice.sliceAdjust none none (-1) (n : Int) = ((n : Int) - 1, -1) := rfl
theorem places_rev (n : Nat) : Builtin.Slice.slicePlaces ((n : Int) - 1) (-1) (-1) = n := by
  unfold Builtin.Slice.slicePlaces
  have h1 : ¬ ((-1 : Int) > 0) := by omega
  simp only [h1, if_false]
  split <;> simp <;> omega
theorem pick_rev (xs : Array Value) : ((List.range xs.size).filterMap fun (m : Nat) => xs[(((xs.size : Int) - 1) + (m : Int) * (-1)).toNat]?).toArray = xs.toList.reverse.toArray := by
  congr 1
  have h : (List.range xs.size).filterMap (fun (m : Nat) => xs[(((xs.size : Int) - 1) + (m : Int) * (-1)).toNat]?) = (List.range xs.size).filterMap (fun (m : Nat) => xs.toList.reverse[m]?) := by
    refine fm_congr fun m hm => ?_
    have hm := List.mem_range.mp hm
    rw [List.getElem?_reverse (by simpa using hm), Array.getElem?_toList]
    congr 1
    rw [Array.length_toList]
    omega
  rw [h]
  have : ∀ ys : List Value, (List.range ys.length).filterMap (fun m => ys[m]?) = ys := by
    intro ys
    refine List.ext_getElem? fun i => ?_
    have e : (List.range ys.length).filterMap (fun m => ys[m]?) = (List.range ys.length).map (fun m => ys.getD m .none) := by
      rw [← List.filterMap_eq_map]
      refine fm_congr fun m hm => ?_
      have hm := List.mem_range.mp hm
      simp [List.getElem?_eq_getElem hm]
    rw [e, List.getElem?_map]
    by_cases hi : i < ys.length
    · rw [List.getElem?_range hi, List.getElem?_eq_getElem hi]
      simp [List.getElem?_eq_getElem hi]
    · rw [List.getElem?_eq_none (by simpa using Nat.le_of_not_lt hi), List.getElem?_eq_none (Nat.le_of_not_lt hi)]
      rfl
  have e := this xs.toList.reverse
  rw [List.length_reverse, Array.length_toList] at e
  exact e
theorem sliceApplied_rev {sl : Addr} {t : Tok} {n : Nat} {Q : Int × Int × Nat → Shared → Prop} (hs : s.heap.IsSliceOf sl .none .none (.int (-1) t)) (h : Q ((n : Int) - 1, -1, n) s) : wpAny (model prog w) A (Builtin.Slice.sliceApplied (.ref sl) (pure (n : Int))) Q E s := by
  obtain ⟨os, hos, hcs, hds⟩ := id hs
  unfold Builtin.Slice.sliceApplied Builtin.Slice.sliceFields
  refine wpAny_bind (wpAny_bind (wpAny_field hos hds (x := .none) rfl (wpAny_bind (wpAny_field hos hds (x := .none) rfl (wpAny_bind (wpAny_field hos hds (x := .int (-1) t) rfl (wpAny_pure ?_)))))))
  refine wpAny_bind (slicePart_int ?_)
  show wpAny _ _ (if ((-1 : Int) == 0) = true then _ else _) _ _ s
  rw [if_neg (by decide)]
  refine wpAny_bind (slicePart_none (wpAny_bind (slicePart_none (wpAny_bind (wpAny_pure ?_)))))
  show wpAny _ _ (match Builtin.Slice.sliceAdjust none none (-1) (n : Int) with | (lo, hi) => pure (lo, (-1 : Int), Builtin.Slice.slicePlaces lo hi (-1))) _ _ s
  rw [adjust_rev n]
  show wpAny _ _ (pure ((n : Int) - 1, (-1 : Int), Builtin.Slice.slicePlaces ((n : Int) - 1) (-1) (-1))) _ _ s
  rw [places_rev]
  exact wpAny_pure h
theorem getItem_tuple_rev {t sl : Addr} {items : Array Value} {u : Tok} {Q : Value → Shared → Prop} (ht : IsTup s.heap t items) (hs : s.heap.IsSliceOf sl .none .none (.int (-1) u))
    (h : Q (.ref s.heap.objs.size) { s with heap := s.heap.push { cls := .type "tuple", data := .seq items.toList.reverse.toArray } })
    (hsz : items.size ≤ sizeLine) : wpAny (model prog w) A (getItem (.ref t) (.ref sl)) Q E s := by
  have htake : sizeOk (.seq items.toList.reverse.toArray) := by
    show items.toList.reverse.toArray.size ≤ sizeLine
    rw [List.size_toArray, List.length_reverse, Array.length_toList]
    omega
  obtain ⟨os, hos, hcs, hds⟩ := id hs
  have hTs : s.TypeIs (.ref sl) "slice" := ⟨os, hos, hcs⟩
  unfold getItem
  try with_reducible refine wpAny_holding ?_
  first | refine wpAny_bind (wpAny_pure ?_) | skip
  refine wpAny_bind (wpAny_sequenceKey ht.typeIs (by decide) ?_)
  refine wpAny_bind (wpAny_callSpecial?_slot (name := Str.ofString "__getitem__") ht.typeIs PyProof.Rows.slot_tuple_getitem
    (wpAny_call_entry PyProof.Rows.slot_tuple_getitem ht.typeIs entry_tuple_getitem ?_ (args_tuple_getitem _ _)))
  show wpAny _ _ (Builtin.Tuple.tupleItemsOf (.ref t) >>= _) _ _ s
  refine wpAny_bind (tupleItemsOf_ ht ?_)
  refine wpAny_bind (wpAny_typeOf hTs ?_)
  rw [if_pos (by decide)]
  refine wpAny_bind (sliceApplied_rev hs ?_)
  have hno : ¬ ((((items.size : Int) - 1) == 0 && (-1 : Int) == 1 && items.size == items.size) = true) := by
    intro q
    rw [Bool.and_eq_true, Bool.and_eq_true] at q
    exact absurd q.1.2 (by decide)
  show wpAny _ _ (if (((items.size : Int) - 1) == 0 && (-1 : Int) == 1 && items.size == items.size) = true then _ else _) _ _ s
  rw [if_neg hno, pick_rev]
  first
    | exact wpAny_bind (m := Builtin.Tuple.tupleExact _) (wpAny_newObj_type (wpAny_pure ⟨_, rfl, wpAny_pure h⟩) htake)
    | exact wpAny_bind (m := Builtin.Tuple.tupleExact _) (wpAny_newObj_type (wpAny_bind (wpAny_pure (wpAny_pure ⟨_, rfl, wpAny_pure h⟩))) htake)
    | exact wpAny_bind (wpAny_bind (m := Builtin.Tuple.tupleExact _) (wpAny_newObj_type (wpAny_pure (wpAny_pure ⟨_, rfl, wpAny_pure h⟩)) htake))
    | exact wpAny_bind (wpAny_bind (m := Builtin.Tuple.tupleExact _) (wpAny_newObj_type (wpAny_pure ⟨_, rfl, wpAny_pure h⟩) htake))
end
end HT
namespace L2
namespace Pl
open PySem PySem.Spec PyProof.Rows HT
section
variable {X : Cx}
/-- t[::-1] -/
def tRevT (K : PySem.W.Frag) (te : TE) : TE := fun σ H Q => te σ H fun x H1 => ∃ a xs, x = .ref a ∧ SqT K H1 a xs ∧ ∀ p, H1 p = none → Q (.ref p) (upd H1 p (.tup xs.reverse))
theorem pe_revT {e : Expr} {te : TE} {k : Nat} {p1 p2 p3 pos : Pos} (he : PE X e te) : PE X (.Subscript e (.Slice none none (some (.UnaryOp .USub (.Constant (.int 1) k p1) p2)) p3) pos) (tRevT X.K te) := by
  refine ⟨fun pins s σ H Q I h => ?_⟩
  refine Subscript_ (thn (he.run pins s σ H _ I h) fun v s1 ⟨x, H1, I1, r1, q1⟩ => ?_)
  obtain ⟨a, xs, ex, hx, q⟩ := q1
  subst ex
  cases r1
  have hst : PO X (some (.UnaryOp .USub (.Constant (.int 1) k p1) p2)) (tPart (tUn (rU fun i => .int (-i)) (tC (.int 1)))) := po_some (pe_un un_neg pe_int)
  refine wpAny_Slice (thn (po_none.run pins s1 σ H1 (fun o H2 => o = none ∧ H2 = H1) I1 ⟨rfl, rfl⟩) fun vl s2 ⟨l, H2, I2, pl, el, e2⟩ => ?_)
  subst el e2
  refine thn (po_none.run pins s2 σ H2 (fun o H3 => o = none ∧ H3 = H2) I2 ⟨rfl, rfl⟩) fun vu s3 ⟨u, H3, I3, pu, eu, e3⟩ => ?_
  subst eu e3
  refine thn (hst.run pins s3 σ H3 (fun o H4 => o = some (-1) ∧ H4 = H3) I3 ⟨1, rfl, -1, rfl, rfl, rfl⟩) fun vs s4 ⟨o, H4, I4, ps, eo, e4⟩ => ?_
  subst eo e4
  have I5 : Inv X pins σ H4 { s4 with heap := s4.heap.push { cls := .type "slice", data := .fields #[vl, vu, vs] } } := I4.kept (t' := s4.toks) fun b ob q => Heap.get?_push_of_some _ q
  obtain ⟨its, r, ht, hz⟩ := I5.tuple hx
  have hlen := r.length
  cases pl
  cases pu
  generalize eo : some (-1 : Int) = oo at ps
  cases ps with
  | none => cases eo
  | int i tk =>
    obtain rfl := Option.some.inj eo
    refine tail_any (ops := [.ref a, .ref s4.heap.objs.size]) ht.typeIs (PyProof.Rows.slot_tuple_getitem.lookup) ?_ (by with_unfolding_all rfl)
    refine getItem_tuple_rev ht (Heap.IsSliceOf.new _ _ _ _) ?_ (by rw [List.size_toArray]; omega)
    refine ⟨.ref _, _, I5.laid (t' := s4.toks) (o := .tup xs.reverse) (fun b ob q => Heap.get?_push_of_some _ q) (Nat.le_refl _) ?_, rfl, q _ (I5.hok.fresh (Nat.le_refl _))⟩
    exact ⟨by rw [List.length_reverse]; exact hz, _, r.reverse, _, Heap.get?_push_size _ rfl, rfl, 0, rfl⟩
end
end Pl
end L2
set_option Elab.async false
set_option linter.all false
set_option maxRecDepth 100000
set_option maxHeartbeats 2000000
/-! C(..), C(.., k = v) in the body of a try: what is raised out hangs on the slots -/
namespace L2
namespace Pl
open PySem PySem.Spec PyProof.Rows
def tMakeS (C : Addr) (sp : Sp) (dvs : List V) (E : St → XK) (t : TA) : TE := fun σ H Q => tMake C sp dvs (E σ) t σ H Q
def tMakeKS (C : Addr) (n m : Nat) (sp : Sp) (gV : List V → List V → List V) (E : St → XK) (t tk : TA) : TE := fun σ H Q => tMakeK C n m sp gV (E σ) t tk σ H Q
section
variable {X : Cx} {CX : CXT} {k n : Nat} {f C : Addr} {fd : FuncData} {ps ks : List Str} {sp : Sp} {ds : List Value} {dvs : List V} {E : XK} {ES : St → XK} {x : Str} {p pos : Pos} {e : Expr} {es : List Expr} {kws : List Keyword} {t tk : TA} {g : List Value → List Value → List Value} {gV : List V → List V → List V}
theorem run_makeAt {pins : List (Addr × Obj)} {σ : St} {H : Hp} {s : Shared} {Q : VK} {us : List Value} {vs : List V} (M : Mk X.K C f) (F : FnOk X.prog X.w X.K X.mg X.base CX k f fd ps sp) (hr : Room (k + 1) X.A) (hb : Binds X.K fd ps ds) (hd : Vals dvs ds)
    (hx : PassesAt CX X σ E) (I : Inv X pins σ H s) (r : Vals vs us)
    (h : ∀ x dx, H x = none → H dx = none → dx ≠ x → sp (.ref x :: (vs ++ dvs)) (upd (upd H dx (.own x)) x (.ins C dx [])) (fun v H2 => v = .non ∧ Q (.ref x) H2) E) :
    wpAny (model X.prog X.w) X.A (call (.ref C) us) (EP X pins σ Q) X.xe s := by
  have hq := h (s.heap.objs.size + 1) s.heap.objs.size (I.hok.fresh (Nat.le_succ _)) (I.hok.fresh (Nat.le_refl _)) (Nat.ne_of_lt (Nat.lt_succ_self _))
  have I2 := Inv.made (C := C) I
  have r2 : Vals (V.ref (s.heap.objs.size + 1) :: (vs ++ dvs)) (Value.ref (s.heap.objs.size + 1) :: (us ++ ds)) := .cons rfl (r.append hd)
  have hl : (Value.ref (s.heap.objs.size + 1) :: us ++ ds).length = ps.length := by
    have e := r2.length
    rw [F.len _ _ _ _ hq] at e
    exact e.symm
  refine wpAny_call (make_map (f := f) I.kIn M.makes M.init (beq_iff_eq.mp M.fn) (codeAny_mono (F.run _ X.stack _ _ ⟨Value.ref (s.heap.objs.size + 1) :: us, []⟩ (Value.ref (s.heap.objs.size + 1) :: (us ++ ds)) _ _ E (hr.make C us [])
    (I2.env0.make C us []) (hb _ (Value.ref (s.heap.objs.size + 1) :: us) I2.kIn hl) r2 hq) fun r s' hq' => ?_))
  cases r with
  | error e => exact hx pins _ _ e s' I2 hq'
  | ok fl =>
    cases fl with
    | ret u =>
      obtain ⟨v, H', I3, rv, ev, q3⟩ := I2.after hq'
      subst ev
      exact ⟨rv, ⟨V.ref (s.heap.objs.size + 1), H', I3, rfl, q3⟩⟩
    | next => exact False.elim hq'
    | brk => exact False.elim hq'
    | cont => exact False.elim hq'
theorem pe_makeS (M : Mk X.K C f) (F : FnOk X.prog X.w X.K X.mg X.base CX k f fd ps sp) (hr : Room (k + 1) X.A) (hg : Gl X x) (hm : X.mg x = some (.ref C)) (hb : Binds X.K fd ps ds) (hd : Vals dvs ds) (hx : ∀ σ, PassesAt CX X σ (ES σ))
    (ha : PA X (e :: es) t) (hdb : (x == ("__debug__" : Str)) = false := by decide) (he : starEach (e :: es) X.env = (false, eval e X.env) :: starEach es X.env := by rfl) (hpl : (backTo pos (starEach es X.env)).any (·.1) = false := by rfl) :
    PE X (.Call (.Name x p) (e :: es) [] pos) (tMakeS C sp dvs ES t) := by
  refine ⟨fun pins s σ H Q I h => ?_⟩
  refine wpAny_Call_Name_kw (ld_glob I hg hm ?_ hdb)
  refine PySem.W.callWith_K (h₀ := X.base) I.ok.mod.kin M.kp (thn (ha.run pos pins s σ H _ I h) fun us s1 ⟨vs, H1, I1, r, q⟩ => ⟨I1.kIn, ?_⟩) he hpl
  exact run_makeAt M F hr hb hd (hx σ) I1 r q
theorem run_makeKAt {pins : List (Addr × Obj)} {σ : St} {H : Hp} {s : Shared} {Q : VK} {us ws : List Value} {vs zs : List V} (M : Mk X.K C f) (F : FnOk X.prog X.w X.K X.mg X.base CX k f fd ps sp) (hr : Room (k + 1) X.A) (hb : KBn X.K fd ps (n + 1) ks g gV) (hx : PassesAt CX X σ E)
    (I : Inv X pins σ H s) (r : Vals vs us) (rz : Vals zs ws) (l1 : vs.length = n) (l2 : zs.length = ks.length)
    (h : ∀ x dx, H x = none → H dx = none → dx ≠ x → sp (gV (.ref x :: vs) zs) (upd (upd H dx (.own x)) x (.ins C dx [])) (fun v H2 => v = .non ∧ Q (.ref x) H2) E) :
    wpAny (model X.prog X.w) X.A (call (.ref C) us (ks.zip ws)) (EP X pins σ Q) X.xe s := by
  have hq := h (s.heap.objs.size + 1) s.heap.objs.size (I.hok.fresh (Nat.le_succ _)) (I.hok.fresh (Nat.le_refl _)) (Nat.ne_of_lt (Nat.lt_succ_self _))
  have I2 := Inv.made (C := C) I
  have r1 : Vals (V.ref (s.heap.objs.size + 1) :: vs) (Value.ref (s.heap.objs.size + 1) :: us) := .cons rfl r
  have r2 := hb.rel r1 rz
  have n1 : (Value.ref (s.heap.objs.size + 1) :: us).length = n + 1 := by
    rw [List.length_cons, ← r.length, l1]
  refine wpAny_call (make_map (f := f) I.kIn M.makes M.init (beq_iff_eq.mp M.fn) (codeAny_mono (F.run _ X.stack _ _ ⟨Value.ref (s.heap.objs.size + 1) :: us, ks.zip ws⟩ (g (Value.ref (s.heap.objs.size + 1) :: us) ws) _ _ E (hr.make C us (ks.zip ws))
    (I2.env0.make C us (ks.zip ws)) (hb.to _ (Value.ref (s.heap.objs.size + 1) :: us) ws I2.kIn n1 (rz.length.symm.trans l2)) r2 hq) fun r s' hq' => ?_))
  cases r with
  | error e => exact hx pins _ _ e s' I2 hq'
  | ok fl =>
    cases fl with
    | ret u =>
      obtain ⟨v, H', I3, rv, ev, q3⟩ := I2.after hq'
      subst ev
      exact ⟨rv, ⟨V.ref (s.heap.objs.size + 1), H', I3, rfl, q3⟩⟩
    | next => exact False.elim hq'
    | brk => exact False.elim hq'
    | cont => exact False.elim hq'
theorem pe_makeKS (M : Mk X.K C f) (F : FnOk X.prog X.w X.K X.mg X.base CX k f fd ps sp) (hr : Room (k + 1) X.A) (hg : Gl X x) (hm : X.mg x = some (.ref C)) (hb : KBn X.K fd ps (n + 1) ks g gV) (hx : ∀ σ, PassesAt CX X σ (ES σ)) (ha : PA X (e :: es) t) (hkw : PK X kws tk)
    (hall : (backToKw pos (keywordEach kws X.env)).all (·.1.isSome) = true := by rfl) (hks : (backToKw pos (keywordEach kws X.env)).filterMap (·.1) = ks := by rfl) (hdb : (x == ("__debug__" : Str)) = false := by decide)
    (he : starEach (e :: es) X.env = (false, eval e X.env) :: starEach es X.env := by rfl) (hpl : ((backTo pos (starEach (e :: es) X.env)).any (·.1) || (backToKw pos (keywordEach kws X.env)).any (·.1.isNone)) = false := by rfl) :
    PE X (.Call (.Name x p) (e :: es) kws pos) (tMakeKS C n ks.length sp gV ES t tk) := by
  refine ⟨fun pins s σ H Q I h => ?_⟩
  refine wpAny_Call_Name_kw (ld_glob I hg hm ?_ hdb)
  refine PySem.W.callWith_KW (h₀ := X.base) I.ok.mod.kin M.kp hall (thn (ha.run pos pins s σ H _ I h) fun us s1 ⟨vs, H1, I1, r, q⟩ => ?_) hpl he
  refine thn (hkw.run pos pins s1 σ H1 _ I1 q) fun ws s2 ⟨zs, H2, I2, rz, l1, l2, q2⟩ => ⟨I2.kIn, ?_⟩
  rw [hks]
  exact run_makeKAt M F hr hb (hx σ) I2 r rz l1 l2 q2
end
end Pl
end L2
set_option Elab.async false
set_option linter.all false
set_option maxRecDepth 100000
set_option maxHeartbeats 4000000
namespace L2
namespace Pl
open PySem PySem.Spec PyProof.Rows
/-- the names of Plan that are called -/
structure PlM (P : Program) (w : World) (K : PySem.W.Frag) (mg : Str → Option Value) (base : Heap) (C CB : Addr) : Prop where
  way : ∃ p f fd, FnOk P w K mg base CX0 1 f fd ["self"] (spGetP C "_way") ∧ L2.Binds K fd ["self"] [] ∧ PropOf K C "way" p f
  gs : ∃ p f fd, FnOk P w K mg base CX0 1 f fd ["self"] (spGetP C "_guards") ∧ L2.Binds K fd ["self"] [] ∧ PropOf K C "guards" p f
  tr : ∃ p f fd, FnOk P w K mg base CX0 1 f fd ["self"] (spGetP C "_tries") ∧ L2.Binds K fd ["self"] [] ∧ PropOf K C "tries" p f
  ini : ∃ f fd g, Mk K C f ∧ FnOk P w K mg base (L2.CX P w) 3 f fd ["self", "way", "guards", "tries"] (spPlan K C CB) ∧ KBn K fd ["self", "way", "guards", "tries"] 3 ["tries"] g (fun vs zs => vs ++ zs)
  eq : ∃ f fd, FnOk P w K mg base CX0 2 f fd ["self", "other"] (spEqPl K C) ∧ L2.Binds K fd ["self", "other"] [] ∧ NeC K C f
/-- guards that may be appended to, or no list -/
def GvK (K : PySem.W.Frag) (H : Hp) (v : V) : Prop := (∃ a us, v = .ref a ∧ H a = some (.lst us) ∧ us.length ≤ 3) ∨ NotTy K H "list" v
/-- all stays, but the list that is appended to -/
def KeepG (v : V) (H H' : Hp) : Prop := ∀ b o, H b = some o → H' b = some o ∨ (v = .ref b ∧ ∃ us, o = .lst us ∧ H' b = some (.lst (us ++ [.str "late"])))
def spTold (K : PySem.W.Frag) : Sp := fun vs H Q _ => ∃ (wv gv tv : V) (r : V ⊕ Pd) (t : Str), vs = [wv, gv, tv] ∧ DueK K H wv gv tv r ∧ TextV K H gv t ∧ GvK K H gv ∧ (∀ v, r = .inl v → ∀ H' p, Same H H' → H' p = some (.lst [v]) → H p = none → Q (.ref p) H') ∧
  ∀ p, r = .inr p → ∀ H' u t, KeepG gv H H' → H' u = some (.tup [.str p.way, .ref t, .int p.n]) → H u = none → H' t = some (.tup (sW p.gs)) → Q (.ref u) H'
theorem GvK.two {K : PySem.W.Frag} {H : Hp} {v : V} (h : GvK K H v) : ∃ t b, TyX K H v t ∧ PySem.W.kitOne K t (.type "list") = some b ∧ (b = true → ∃ a us, v = .ref a ∧ H a = some (.lst us) ∧ us.length ≤ 3) := by
  rcases h with ⟨a, us, rfl, h, l⟩ | ⟨t, ty, kt⟩
  · exact ⟨_, true, .base (.lst h), kit_ty (by decide +kernel), fun _ => ⟨a, us, rfl, h, l⟩⟩
  · exact ⟨t, false, ty, kt, fun z => nomatch z⟩
theorem srtG_sub {ws : List Str} : ∀ x ∈ srtG ws, x ∈ gws := fun x hx => (List.mem_filter.mp hx).1
theorem gws_nd : gws.Nodup := by decide +kernel
theorem srtG_nd {ws : List Str} : (srtG ws).Nodup := List.Nodup.sublist List.filter_sublist gws_nd
theorem srtG_le {ws : List Str} : (srtG ws).length ≤ 2 := List.length_filter_le ..
theorem srtG_srtG {ws : List Str} : srtG (srtG ws) = srtG ws := by
  unfold srtG
  refine List.filter_congr fun g hg => ?_
  rw [Bool.eq_iff_iff, decide_eq_true_iff, decide_eq_true_iff, List.mem_filter, decide_eq_true_iff]
  exact ⟨fun h => h.2, fun h => ⟨hg, h⟩⟩
theorem wayKeep {K : PySem.W.Frag} {H H' : Hp} {v : V} {k : Bool} (h : WayK K H v k) (m : Same H H') : WayK K H' v k := by
  cases h with
  | good hz => exact .good hz
  | flat f n => exact .flat f n
  | box b => exact .box (b.keep m)
theorem DueK.same {K : PySem.W.Frag} {H H' : Hp} {wv gv tv : V} {r : V ⊕ Pd} (h : DueK K H wv gv tv r) (m : Same H H') : DueK K H' wv gv tv r := by
  cases h with
  | way w => exact .way (wayKeep w m)
  | noseq w ty kt => exact .noseq (wayKeep w m) (tyKeep ty m) kt
  | bad w e sq l3 en b => exact .bad (wayKeep w m) e (sq.same m) l3 (fun u hu => (en u hu).same m) b
  | twice w e sq l3 gd nd => exact .twice (wayKeep w m) e (sq.same m) l3 gd nd
  | tries w e sq l3 gd nd bk => exact .tries (wayKeep w m) e (sq.same m) l3 gd nd (btwKeep bk m)
  | good e1 hz e2 sq l3 gd nd e3 n1 n3 => exact .good e1 hz e2 (sq.same m) l3 gd nd e3 n1 n3
theorem KeepG.of {v : V} {H H' : Hp} (m : Same H H') : KeepG v H H' := fun b o e => .inl (m b o e)
theorem KeepG.trans {v : V} {H H1 H2 : Hp} (k : KeepG v H H1) (m : Same H1 H2) : KeepG v H H2 := fun b o e => by
  rcases k b o e with h | ⟨e1, us, e2, h⟩
  · exact .inl (m _ _ h)
  · exact .inr ⟨e1, us, e2, m _ _ h⟩
theorem KeepG.free {v : V} {H H' : Hp} {p : Addr} (k : KeepG v H H') (h : H' p = none) : H p = none := by
  cases e : H p with
  | none => rfl
  | some o =>
    rcases k p o e with h2 | ⟨_, _, _, h2⟩ <;> (rw [h] at h2; cases h2)
theorem DueK.made {K : PySem.W.Frag} {H : Hp} {wv gv tv : V} {p : Pd} (h : DueK K H wv gv tv (.inr p)) : wv = .str p.way ∧ tv = .int p.n ∧ p.Ok ∧ ∃ ws, p.gs = srtG ws := by
  cases h with
  | good e1 hz e2 sq l3 gd nd e3 n1 n3 => exact ⟨e1, e3, ⟨hz, srtG_mem _, n1, n3⟩, _, rfl⟩
/-- what a made plan's own values make -/
theorem plan_again {K : PySem.W.Frag} {H : Hp} {p : Pd} {t : Addr} (ok : p.Ok) (hs : ∃ ws, p.gs = srtG ws) (ht : H t = some (.tup (sW p.gs))) : PlanK K H (.str p.way) (.ref t) (.int p.n) (.inr p) := by
  obtain ⟨ws, e⟩ := hs
  have g := PlanK.good (K := K) (H := H) (wv := .str p.way) (gv := .ref t) (tv := .int p.n) rfl ok.way rfl (.inr (.inl (.inl ht))) (by rw [e]; exact srtG_le) (by rw [e]; exact srtG_sub) (by rw [e]; exact srtG_nd) rfl ok.n1 ok.n3
  have e2 : srtG p.gs = p.gs := by rw [e, srtG_srtG]
  rw [e2] at g
  exact g
theorem ite_cont {b : Bool} {A : Prop} {R : Hp → Prop} {H1 : Hp} (P : Hp → Prop) (cont : ∀ H, P H → R H) (hA : b = true → (∀ H, P H → R H) → A) (hB : b = false → P H1) : if b = true then A else R H1 := by
  cases b with
  | true => exact iteT (hA rfl cont)
  | false => exact iteF (cont _ (hB rfl))
theorem iteDT {p : Prop} [Decidable p] {A B : Prop} (h : p) (a : A) : if decide p = true then A else B := by
  rw [decide_eq_true h]
  exact a
theorem iteDF {p : Prop} [Decidable p] {A B : Prop} (h : ¬ p) (b : B) : if decide p = true then A else B := by
  rw [decide_eq_false h]
  exact b
theorem Pd.same_self (p : Pd) : p.same p = true := by simp [Pd.same]
theorem PlAt.same {C x : Addr} {H H' : Hp} {p : Pd} (h : PlAt C H x p) (m : Same H H') : PlAt C H' x p := by
  obtain ⟨dx, t, h1, h2⟩ := h
  exact ⟨dx, t, m _ _ h1, m _ _ h2⟩
end Pl
end L2
namespace Bs
open PySem PySem.Spec PyProof.Rows L2 L2.Pl
section
variable {P : Program} {w : World} {K : PySem.W.Frag} {mg : Str → Option Value} {base : Heap} {f : Addr} {fd : FuncData}
abbrev NTo : List Str := ["way", "guards", "number", "seen", "made", "error"]
theorem scTold : FnScope NTo ["way", "guards", "number"] (defScope sTold) := ⟨rfl, rfl, rfl, by decide +kernel, rfl, by decide +kernel, by decide +kernel⟩
theorem kitL_L {K : PySem.W.Frag} : PySem.W.kitOne K (.type "list") (.type "list") = some true := kit_ty (by decide +kernel)
theorem ok_told {C CB : Addr} (G : Gn mg) (hSys : SysK K) (T : PlF K mg C) (M : PlM P w K mg base C CB) (N : RaF P w K mg base "BadPlan" "value" CB) (ex : PySem.W.exmOne K (.ref CB) (.ref CB) = some true) (F : FnP K "_law_told" sTold f fd) : FnG P w K mg base CX0 5 f fd ["way", "guards", "number"] (spTold K) := by
  obtain ⟨pW, fW, dW, oW, bW, mW⟩ := M.way
  obtain ⟨pG, fG, dG, oG, bG, mG⟩ := M.gs
  obtain ⟨pT, fT, dT, oT, bT, mT⟩ := M.tr
  obtain ⟨fI, dI, gI, mkI, oI, kI⟩ := M.ini
  obtain ⟨fQ, dQ, oQ, bQ, nQ⟩ := M.eq
  refine fnG_of F scTold (fun vs H Q E h => ?_) (fun cdv A hg outer s H vs Q E hr h => ?_)
  · obtain ⟨_, _, _, _, _, rfl, _⟩ := h
    rfl
  · obtain ⟨wv, gv, tv, r, tx, rfl, dk, tt, gk, e, q⟩ := h
    have hr3 := hr.mono (j := 3) (by decide)
    have hr2 := hr.mono (j := 2) (by decide)
    have hu1 : (A.deeper (envOfC "_law_told" (defScope sTold) s.heap.objs.size f cdv)).units + 150 < cLine := by
      have := hr.un
      omega
    refine ⟨_, pss_cons (ps_set (i := 3) scTold.nd rfl (.inl rfl) (pe_callB (call_reprV hSys hg hr) (by rfl) G.repr bRepr (pa_cons (pv 1) pa_nil)))
      (pss_cons (ps_try_as (i := 5) (tb := fun W => tAsg (tMakeKS C 2 1 (spPlan K C CB) (fun vs zs => vs ++ zs) (WE W) (tCons (tVar 0) (tCons (tVar 1) tNil)) (tCons (tVar 2) tNil)) (gName 4)) (ts := fun a cls d => tRet (tIf (tTest (tOp rEq (tCB (rText K) (tCons (tVar 1) tNil)) (tVar 3))) (tLst (tCons (tXf a cls d CB "value" (tVar 5)) tNil)) (tC .non))) (Wout := fun _ _ _ _ => False) rfl rfl scTold.nd rfl rfl ⟨rfl, by decide, .inl N.g⟩ LamX.takes0
        (fun W pn xe tk _ => pss_one (ps_set (i := 4) scTold.nd rfl (.inl rfl) (pe_makeKS mkI oI hr (by rfl) T.gC kI (fun σ => passAt tk σ) (by exact pa_cons (pv 0) (pa_cons (pv 1) pa_nil)) (pk_cons (pv 2) pk_nil))))
        (fun a oe cls d pn hz hf => pss_one (ps_ret (pe_ifExp (pt_cmpR op_eq (pe_callB (call_reprU hSys hg (by exact hu1)) (by rfl) G.repr bRepr (pa_cons (pv 1) pa_nil)) (pv 3) (nomark _)) (pe_lst (pa_cons (pe_xf N.xf N.nf hz hf (pv 5)) pa_nil)) pe_non))))
      (pss_cons (ps_if (pt_cmpR op_ne (pe_callB (call_reprV hSys hg hr) (by rfl) G.repr bRepr (pa_cons (pv 1) pa_nil)) (pv 3) (nomark _)) (pss_one (ps_ret pe_non)) pss_nil)
      (pss_cons (ps_if (pt_val (pe_callB call_isi (by rfl) G.isi bIsi (pa_cons (pv 1) (pa_cons (pe_bltn (v := .ty "list") (by rfl) G.list bList rfl) pa_nil)))) (pss_one (ps_expr (pe_bm PySem.F.plainAttrs_list PySem.F.slot_list_append PySem.F.type_list_append mt_append (pv 1) (pa_cons pe_str pa_nil)))) pss_nil)
      (pss_cons (ps_if (pt_cmpR (op_neOwn oQ nQ bQ hr3 pass0) (pv 4) (pe_makeK mkI oI hr (by rfl) T.gC kI passL (pa_cons (pv 0) (pa_cons (pe_prop (pv 4) T.cl mG oG hr2 bG .nil pass0 (by rfl)) pa_nil)) (pk_cons (pv 2) pk_nil)) (nomark _)) (pss_one (ps_ret pe_non)) pss_nil)
      (pss_one (ps_ret (pe_tup (pa_cons (pe_prop (pv 4) T.cl mW oW hr2 bW .nil pass0 (by rfl)) (pa_cons (pe_prop (pv 4) T.cl mG oG hr2 bG .nil pass0 (by rfl)) (pa_cons (pe_prop (pv 4) T.cl mT oT hr2 bT .nil pass0 (by rfl)) pa_nil)))))))))), ?_⟩
    -- the plan, made or refused
    have suite : ∀ {H1 : Hp} {d : Addr} (v : V), r = .inl v → Same H H1 → H1 d = none → wAs K (.ref CB) 5 (fun a cls d => tRet (tIf (tTest (tOp rEq (tCB (rText K) (tCons (tVar 1) tNil)) (tVar 3))) (tLst (tCons (tXf a cls d CB "value" (tVar 5)) tNil)) (tC .non))) (fun _ _ _ _ => False)
        { nx := fun σ' H' => False, rt := Q } (.ref CB) (some d) [some wv, some gv, some tv, some (.str tx), none, none] (upd H1 d (.xd [("value", v)])) := by
      intro H1 d v er m hd
      refine ⟨true, ex, fun _ a ha => ?_, fun h => Bool.noConfusion h⟩
      have m1 := m.trans (same_new hd (o := .xd [("value", v)]))
      refine ⟨_, rfl, gv, tx, rfl, tt.same m1, _, rfl, rfl, _, rfl, iteDT rfl ⟨_, rfl, rfl, rfl, d, _, v, rfl, upd_same, by with_unfolding_all rfl, by show 1 ≤ sizeLine; decide, fun p hp => ?_⟩⟩
      exact e v er _ p (m1.trans (same_new hp)) upd_same (m1.free hp)
    refine ⟨_, rfl, gv, tx, rfl, tt, ?_⟩
    refine ⟨_, rfl, _, rfl, _, rfl, rfl, rfl, fun x dx nx ndx nex => ?_⟩
    have sB : Same H (upd H dx (.own x)) := same_new ndx
    have xB : upd H dx (.own x) x = none := (upd_ne nex.symm).trans nx
    have sC : Same H (upd (upd H dx (.own x)) x (.ins C dx [])) := sB.trans (same_new xB)
    refine ⟨upd H dx (.own x), x, dx, wv, gv, tv, r, rfl, same_new xB, xB, upd_same, (dk.same sC).plan, fun v er H1 d m hd => suite v er (sC.trans m) hd, fun p er H1 m1 pa => ⟨rfl, ?_⟩⟩
    subst er
    have m2 : Same H H1 := sB.trans m1
    obtain ⟨e1, e3, ok, hs⟩ := dk.made
    refine ⟨_, rfl, gv, tx, rfl, tt.same m2, _, rfl, rfl, _, rfl, iteNS rfl ?_⟩
    obtain ⟨ty0, b, ty, kt, hb⟩ := gk.two
    refine ⟨_, rfl, gv, .ty "list", _, _, b, rfl, .ty _, tyKeep ty m2, kt, b, rfl, ite_cont (H1 := H1) (fun H2 => KeepG gv H H2 ∧ PlAt C H2 x p) (fun H2 ⟨k2, pa2⟩ => ?_) (fun eb cont => ?_) (fun eb => ⟨.of m2, pa⟩)⟩
    · obtain ⟨dx2, t, hx, ht⟩ := pa2
      refine ⟨_, rfl, _, rfl, _, rfl, x, dx2, _, rfl, hx, x, dx2, _, .ref t, rfl, hx, pl_look2, _, rfl, rfl, rfl, fun y dy ny ndy ney => ?_⟩
      have sB2 : Same H2 (upd H2 dy (.own y)) := same_new ndy
      have xB2 : upd H2 dy (.own y) y = none := (upd_ne ney.symm).trans ny
      have sC2 : Same H2 (upd (upd H2 dy (.own y)) y (.ins C dy [])) := sB2.trans (same_new xB2)
      subst e1 e3
      refine ⟨upd H2 dy (.own y), y, dy, _, .ref t, _, .inr p, rfl, same_new xB2, xB2, upd_same, plan_again ok hs (sC2 _ _ ht), fun v er => (nomatch er), fun p' er' H3 m3 pb => ⟨rfl, ?_⟩⟩
      obtain rfl := Sum.inr.inj er'
      have m4 : Same H2 H3 := sB2.trans m3
      have pa3 : PlAt C H3 x p := ⟨dx2, t, m4 _ _ hx, m4 _ _ ht⟩
      obtain ⟨dx3, t3, hx3, ht3⟩ := id pa3
      obtain ⟨dy3, u3, hy3, hu3⟩ := id pb
      refine ⟨x, y, dx3, dy3, _, _, rfl, rfl, hx3, hy3, x, .ref y, p, rfl, pa3, ok, .inl ⟨y, p, rfl, pb, ok, true, by rw [Pd.same_self], ?_⟩⟩
      refine ⟨false, rfl, iteF ?_⟩
      refine ⟨_, rfl, x, dx3, _, rfl, hx3, x, dx3, _, .str p.way, rfl, hx3, pl_look1, _, rfl, x, dx3, _, rfl, hx3, x, dx3, _, .ref t3, rfl, hx3, pl_look2, _, rfl, x, dx3, _, rfl, hx3, x, dx3, _, .int p.n, rfl, hx3, pl_look3, by show 3 ≤ sizeLine; decide, fun u hu => ?_⟩
      have k3 := k2.trans m4
      exact q p rfl _ u t3 (k3.trans (same_new hu)) upd_same (k3.free hu) (same_new hu _ _ ht3)
    · obtain ⟨a, us, rfl, ha, la⟩ := hb eb
      have ha1 := m2 _ _ ha
      have nx1 : x ≠ a := fun z => by
        subst z
        rw [nx] at ha
        cases ha
      obtain ⟨dx2, t, hx, ht⟩ := pa
      have nt1 : t ≠ a := fun z => by
        subst z
        rw [ha1] at ht
        cases ht
      refine ⟨_, rfl, .inl ⟨rfl, us, SqL.of ha1⟩, a, us, _, rfl, rfl, ha1, by rw [sizeLine_eq]; omega, cont _ ⟨fun b o eo => ?_, dx2, t, (upd_ne nx1).trans hx, (upd_ne nt1).trans ht⟩⟩
      by_cases hba : b = a
      · subst hba
        rw [ha] at eo
        obtain rfl := Option.some.inj eo
        exact .inr ⟨rfl, us, rfl, upd_same⟩
      · exact .inl ((upd_ne hba).trans (m2 _ _ eo))
end
end Bs
set_option Elab.async false
set_option linter.all false
set_option maxRecDepth 100000
set_option maxHeartbeats 2000000
namespace L2
namespace Pl
open PySem PySem.Spec PyProof.Rows
/-- data that is small and can be shown -/
structure Sz (d : PyData) (n e : Nat) : Prop where
  can : d.showable = true
  short : d.leavesShort 40 = true
  bulk : d.bulk ≤ n
  dep : d.depth ≤ e
def DatV (K : PySem.W.Frag) (H : Hp) (n e : Nat) (v : V) : Prop := ∃ d, Dq K H v d ∧ Sz d n e
theorem DatV.same {K : PySem.W.Frag} {H H' : Hp} {n e : Nat} {v : V} (h : DatV K H n e v) (m : Same H H') : DatV K H' n e v := by
  obtain ⟨d, h1, h2⟩ := h
  exact ⟨d, Dq.same m _ _ h1, h2⟩
theorem DatV.more {K : PySem.W.Frag} {H : Hp} {n e n2 e2 : Nat} {v : V} (h : DatV K H n e v) (h1 : n ≤ n2) (h2 : e ≤ e2) : DatV K H n2 e2 v := by
  obtain ⟨d, g, s⟩ := h
  exact ⟨d, g, s.can, s.short, Nat.le_trans s.bulk h1, Nat.le_trans s.dep h2⟩
theorem datAll {K : PySem.W.Frag} {H : Hp} {n e : Nat} : ∀ {xs : List V}, (∀ x ∈ xs, DatV K H n e x) → ∃ ds, DqAll K H xs ds ∧ PyData.showableAll ds = true ∧ PyData.leavesShortAll 40 ds = true ∧ PyData.bulkAll ds ≤ xs.length * (n + 1) ∧ PyData.depthAll ds ≤ e
  | [], _ => ⟨[], .nil, rfl, rfl, by simp [PyData.bulkAll], by simp [PyData.depthAll]⟩
  | x :: xs, h => by
    obtain ⟨ds, h1, h2, h3, h4, h5⟩ := datAll (xs := xs) fun y hy => h y (List.mem_cons_of_mem _ hy)
    obtain ⟨d, g, s⟩ := h x (List.mem_cons_self ..)
    have q1 := s.can
    have q2 := s.short
    have q3 := s.bulk
    have q4 := s.dep
    refine ⟨d :: ds, .cons g h1, by simp [PyData.showableAll, q1, h2], by simp [PyData.leavesShortAll, q2, h3], ?_, ?_⟩
    · simp only [PyData.bulkAll, List.length_cons]
      rw [Nat.succ_mul]
      omega
    · simp only [PyData.depthAll]
      omega
theorem DatV.lst {K : PySem.W.Frag} {H : Hp} {n e : Nat} {a : Addr} {xs : List V} (ha : H a = some (.lst xs)) (h : ∀ x ∈ xs, DatV K H n e x) : DatV K H (xs.length * (n + 1)) (e + 1) (.ref a) := by
  obtain ⟨ds, h1, h2, h3, h4, h5⟩ := datAll h
  exact ⟨.list ds, .lst ha h1, by simpa [PyData.showable] using h2, by simpa [PyData.leavesShort] using h3, by simpa only [PyData.bulk] using h4, by simp only [PyData.depth]; omega⟩
theorem DatV.tup {K : PySem.W.Frag} {H : Hp} {n e : Nat} {a : Addr} {xs : List V} (ha : H a = some (.tup xs)) (h : ∀ x ∈ xs, DatV K H n e x) : DatV K H (xs.length * (n + 1)) (e + 1) (.ref a) := by
  obtain ⟨ds, h1, h2, h3, h4, h5⟩ := datAll h
  exact ⟨.tuple ds, .tup ha h1, by simpa [PyData.showable] using h2, by simpa [PyData.leavesShort] using h3, by simpa only [PyData.bulk] using h4, by simp only [PyData.depth]; omega⟩
theorem DatV.dic {K : PySem.W.Frag} {H : Hp} {a : Addr} (ha : H a = some (.dK [])) : DatV K H 0 1 (.ref a) :=
  ⟨.dict [], .dic ha .nil, by decide +kernel, by decide +kernel, by decide +kernel, by decide +kernel⟩
/-- a flat value that is shown short -/
def flatD : V → Option PyData
  | .non => some .none
  | .bl b => some (.bool b)
  | .int i => some (.int i)
  | .str x => some (.str x)
  | _ => none
def flatOk (v : V) : Bool := match flatD v with
  | some d => d.showable && d.leavesShort 40 && decide (d.bulk ≤ 8) && decide (d.depth ≤ 0)
  | none => false
theorem DatV.flat {K : PySem.W.Frag} {H : Hp} {v : V} (h : flatOk v = true) : DatV K H 8 0 v := by
  unfold flatOk at h
  have g : ∀ {d : PyData}, (d.showable && d.leavesShort 40 && decide (d.bulk ≤ 8) && decide (d.depth ≤ 0)) = true → Sz d 8 0 := fun {d} z => by
    simp only [Bool.and_eq_true, decide_eq_true_iff] at z
    exact ⟨z.1.1.1, z.1.1.2, z.1.2, z.2⟩
  cases v with
  | non => exact ⟨_, .non, g h⟩
  | bl b => exact ⟨_, .bl b, g h⟩
  | int i => exact ⟨_, .int i, g h⟩
  | str x => exact ⟨_, .str x, g h⟩
  | _ => cases h
theorem Sz.fits {d : PyData} {n e : Nat} (s : Sz d n e) (hn : n ≤ 100000) : d.shown.length ≤ sizeLine := by
  have h := PyData.shown_le_bulk 40 (by decide) d s.short
  have h2 : (40 + 2) * d.bulk ≤ 42 * 100000 := Nat.mul_le_mul (by omega) (Nat.le_trans s.bulk hn)
  rw [sizeLine_eq]
  omega
theorem DatV.text {K : PySem.W.Frag} {H : Hp} {n e : Nat} {v : V} (h : DatV K H n e v) (hn : n ≤ 100000) (he : e ≤ 100) : ∃ t, TextV K H v t := by
  obtain ⟨d, g, s⟩ := h
  have f := s.fits hn
  have c := s.can
  have e1 := s.dep
  cases g with
  | non => exact ⟨_, .flat .non⟩
  | bl b => exact ⟨_, .flat (.bl b)⟩
  | int i => exact ⟨_, .flat (.int i (by simpa [PyData.showable] using c))⟩
  | str x => exact ⟨_, .flat (.str x (by simpa [PyData.shown] using f))⟩
  | lst ha hx => exact ⟨_, .box ⟨.lst ha hx, c, by omega, f⟩⟩
  | tup ha hx => exact ⟨_, .box ⟨.tup ha hx, c, by omega, f⟩⟩
  | dic ha hx => exact ⟨_, .box ⟨.dic ha hx, c, by omega, f⟩⟩
/-- two boxes of one data: one text -/
theorem text_two {K : PySem.W.Frag} {H : Hp} {n e : Nat} {a b : Addr} {d : PyData} (ha : Dq K H (.ref a) d) (hb : Dq K H (.ref b) d) (s : Sz d n e) (hn : n ≤ 100000) (he : e ≤ 100) : TextV K H (.ref a) d.shown ∧ TextV K H (.ref b) d.shown := by
  have e1 := s.dep
  exact ⟨.box ⟨ha, s.can, by omega, s.fits hn⟩, .box ⟨hb, s.can, by omega, s.fits hn⟩⟩
end Pl
end L2
set_option Elab.async false
set_option linter.all false
set_option maxRecDepth 100000
set_option maxHeartbeats 2000000
namespace L2
namespace Pl
open PySem PySem.Spec PyProof.Rows
/-- the entries of a row of guards -/
inductive UsK (K : PySem.W.Frag) (H : Hp) (us : List V) : Prop
  | bad : us.length ≤ 3 → (∀ u ∈ us, EntV K H u) → us.all (fun u => inV u (sW gws)) = false → UsK K H us
  | txt {ws : List Str} : us = sW ws → ws.length ≤ 3 → (∀ x ∈ ws, x ∈ gws) → UsK K H us
theorem UsK.same {K : PySem.W.Frag} {H H' : Hp} {us : List V} (h : UsK K H us) (m : Same H H') : UsK K H' us := by
  cases h with
  | bad l en b => exact .bad l (fun u hu => (en u hu).same m) b
  | txt e l g => exact .txt e l g
theorem UsK.len {K : PySem.W.Frag} {H : Hp} {us : List V} (h : UsK K H us) : us.length ≤ 3 := by
  cases h with
  | bad l en b => exact l
  | txt e l g => rw [e, List.length_map]; exact l
/-- a value that is drawn as guards -/
inductive LotV (K : PySem.W.Frag) (H : Hp) (v : V) : Prop
  | lst {a : Addr} {us : List V} : v = .ref a → H a = some (.lst us) → UsK K H us → (∀ u ∈ us, DatV K H 40 2 u) → LotV K H v
  | tup {a : Addr} {us : List V} : v = .ref a → H a = some (.tup us) → UsK K H us → (∀ u ∈ us, DatV K H 40 2 u) → LotV K H v
  | flat : flatOk v = true → LotV K H v
  | dic {a : Addr} : v = .ref a → H a = some (.dK []) → LotV K H v
theorem kit_no {K : PySem.W.Frag} {t : Value} (h1 : PySem.W.kitOne K t (.type "list") = some false) (h2 : PySem.W.kitOne K t (.type "tuple") = some false) : PySem.W.kitAny K t [.type "list", .type "tuple"] = some false :=
  kitAny_cons (b := false) h1 (fun _ => kitAny_cons (b := false) h2 (fun _ => rfl) (fun z => by cases z)) (fun z => by cases z)
theorem flat_ty {K : PySem.W.Frag} {H : Hp} {v : V} (h : flatOk v = true) : ∃ t, TyX K H v t ∧ PySem.W.kitOne K t (.type "list") = some false ∧ PySem.W.kitOne K t (.type "tuple") = some false := by
  cases v with
  | non => exact ⟨_, .base .non, kit_ty (by decide +kernel), kit_ty (by decide +kernel)⟩
  | bl b => exact ⟨_, .base (.bl b), kit_ty (by decide +kernel), kit_ty (by decide +kernel)⟩
  | int i => exact ⟨_, .base (.int i), kit_ty (by decide +kernel), kit_ty (by decide +kernel)⟩
  | str z => exact ⟨_, .base (.str z), kit_ty (by decide +kernel), kit_ty (by decide +kernel)⟩
  | _ => cases h
theorem LotV.same {K : PySem.W.Frag} {H H' : Hp} {v : V} (h : LotV K H v) (m : Same H H') : LotV K H' v := by
  cases h with
  | lst e ha u d => exact .lst e (m _ _ ha) (u.same m) fun x hx => (d x hx).same m
  | tup e ha u d => exact .tup e (m _ _ ha) (u.same m) fun x hx => (d x hx).same m
  | flat f => exact .flat f
  | dic e h => exact .dic e (m _ _ h)
theorem LotV.dat {K : PySem.W.Frag} {H : Hp} {v : V} (h : LotV K H v) : DatV K H 200 3 v := by
  cases h with
  | @lst a us e ha u d =>
    subst e
    have l := u.len
    exact (DatV.lst ha d).more (by have := Nat.mul_le_mul_right (40 + 1) l; omega) (by decide)
  | @tup a us e ha u d =>
    subst e
    have l := u.len
    exact (DatV.tup ha d).more (by have := Nat.mul_le_mul_right (40 + 1) l; omega) (by decide)
  | flat f => exact (DatV.flat f).more (by decide) (by decide)
  | dic e h =>
    subst e
    exact (DatV.dic h).more (by decide) (by decide)
/-- what comes of the guards -/
inductive GuD (K : PySem.W.Frag) (H : Hp) (v : V) : Prop
  | non {t : Value} : TyX K H v t → PySem.W.kitAny K t [.type "list", .type "tuple"] = some false → GuD K H v
  | seq {a : Addr} {us : List V} : v = .ref a → SqB K H a us → UsK K H us → GuD K H v
theorem LotV.gu {K : PySem.W.Frag} {H : Hp} {v : V} (h : LotV K H v) : GuD K H v := by
  cases h with
  | lst e ha u d => exact .seq e (.inl (SqL.of ha)) u
  | tup e ha u d => exact .seq e (.inr (.inl (.inl ha))) u
  | flat f =>
    obtain ⟨t, ty, k1, k2⟩ := flat_ty (K := K) (H := H) f
    exact .non ty (kit_no k1 k2)
  | dic e h =>
    subst e
    exact .non (.base (.dK h)) (kit_no (kit_ty (by decide +kernel)) (kit_ty (by decide +kernel)))
theorem due_of {K : PySem.W.Frag} {H : Hp} {wv gv tv : V} {kw kt : Bool} (w : WayK K H wv kw) (g : GuD K H gv) (t : Btw K H 1 3 tv kt) : ∃ r, DueK K H wv gv tv r ∧ ∀ v, r = .inl v → v = wv ∨ v = gv ∨ v = tv := by
  cases kw with
  | false => exact ⟨_, .way w, fun v e => .inl (Sum.inl.inj e).symm⟩
  | true =>
    cases g with
    | non ty kt => exact ⟨_, .noseq w ty kt, fun v e => .inr (.inl (Sum.inl.inj e).symm)⟩
    | seq e sq u =>
      cases u with
      | bad l en b => exact ⟨_, .bad w e sq l en b, fun v e => .inr (.inl (Sum.inl.inj e).symm)⟩
      | @txt ws e2 l gd =>
        subst e2
        by_cases nd : ws.Nodup
        · cases kt with
          | false => exact ⟨_, .tries w e sq l gd nd t, fun v e => .inr (.inr (Sum.inl.inj e).symm)⟩
          | true =>
            generalize hk : true = k at t
            cases t with
            | int n =>
              have hk := hk.symm
              rw [Bool.and_eq_true, decide_eq_true_iff, decide_eq_true_iff] at hk
              have hw := w
              generalize hk2 : true = k2 at hw
              cases hw with
              | good hz => exact ⟨_, .good rfl hz e sq l gd nd rfl hk.1 hk.2, fun v e => nomatch e⟩
              | flat => cases hk2
              | box => cases hk2
            | bl x => cases hk
            | no nt => cases hk
        · exact ⟨_, .twice w e sq l gd nd, fun v e => .inr (.inl (Sum.inl.inj e).symm)⟩
/-- a value that is drawn as a way -/
inductive WayV (K : PySem.W.Frag) (H : Hp) (v : V) : Prop
  | flat {k : Bool} : WayK K H v k → flatOk v = true → WayV K H v
  | tup {a : Addr} : v = .ref a → H a = some (.tup [.str "key"]) → WayV K H v
  | dic {a : Addr} : v = .ref a → H a = some (.dK []) → WayV K H v
theorem WayV.way {K : PySem.W.Frag} {H : Hp} {v : V} (h : WayV K H v) : ∃ k, WayK K H v k := by
  cases h with
  | flat w _ => exact ⟨_, w⟩
  | tup e h => exact ⟨_, .box ⟨_, e, .inr (.inl ⟨_, .inl (.inl h)⟩)⟩⟩
  | dic e h => exact ⟨_, .box ⟨_, e, .inr (.inr ⟨_, .inl h⟩)⟩⟩
theorem WayV.same {K : PySem.W.Frag} {H H' : Hp} {v : V} (h : WayV K H v) (m : Same H H') : WayV K H' v := by
  cases h with
  | flat w f => exact .flat (wayKeep w m) f
  | tup e h => exact .tup e (m _ _ h)
  | dic e h => exact .dic e (m _ _ h)
theorem WayV.dat {K : PySem.W.Frag} {H : Hp} {v : V} (h : WayV K H v) : DatV K H 40 2 v := by
  cases h with
  | flat w f => exact (DatV.flat f).more (by decide) (by decide)
  | tup e h =>
    subst e
    exact (DatV.tup h (n := 8) (e := 0) fun x hx => by
      rw [List.mem_singleton.mp hx]
      exact .flat (by decide +kernel)).more (by decide) (by decide)
  | dic e h =>
    subst e
    exact (DatV.dic h).more (by decide) (by decide)
/-- a value that is drawn as tries -/
structure NumV (v : V) : Prop where
  btw : ∀ (K : PySem.W.Frag) (H : Hp), ∃ k, Btw K H 1 3 v k
  ok : flatOk v = true
theorem NumV.int {i : Int} (h : flatOk (.int i) = true) : NumV (.int i) := ⟨fun K H => ⟨_, .int i⟩, h⟩
theorem NumV.bl {b : Bool} : NumV (.bl b) := ⟨fun K H => ⟨_, .bl b⟩, by cases b <;> decide +kernel⟩
theorem NumV.non : NumV .non := ⟨fun K H => ⟨_, .no ⟨_, .base .non, kit_ty (by decide +kernel)⟩⟩, by decide +kernel⟩
theorem NumV.str {x : Str} (h : flatOk (.str x) = true) : NumV (.str x) := ⟨fun K H => ⟨_, .no ⟨_, .base (.str x), kit_ty (by decide +kernel)⟩⟩, h⟩
/-- a list that "late" was appended to: its entries are flat -/
def LateL (H : Hp) (a : Addr) (n : Nat) : Prop := ∃ xs, H a = some (.lst xs) ∧ xs.length ≤ n ∧ ∀ x ∈ xs, flatOk x = true
theorem LateL.dat {K : PySem.W.Frag} {H : Hp} {a : Addr} {n : Nat} (h : LateL H a n) (hn : n ≤ 200) : DatV K H 2000 1 (.ref a) := by
  obtain ⟨xs, h1, h2, h3⟩ := h
  refine (DatV.lst h1 (n := 8) (e := 0) fun x hx => .flat (h3 x hx)).more ?_ (by decide)
  have := Nat.mul_le_mul_right (8 + 1) h2
  omega
theorem LateL.way {K : PySem.W.Frag} {H : Hp} {a : Addr} {n : Nat} (h : LateL H a n) : WayK K H (.ref a) false := by
  obtain ⟨xs, h1, _⟩ := h
  exact .box ⟨_, rfl, .inl ⟨_, SqL.of h1⟩⟩
theorem LateL.btw {K : PySem.W.Frag} {H : Hp} {a : Addr} {n : Nat} (h : LateL H a n) : Btw K H 1 3 (.ref a) false := by
  obtain ⟨xs, h1, _⟩ := h
  exact .no ⟨_, .base (.lst h1), kit_ty (by decide +kernel)⟩
theorem LateL.add {H : Hp} {a : Addr} {n : Nat} {xs : List V} (h : H a = some (.lst xs)) (l : xs.length ≤ n) (g : ∀ x ∈ xs, flatOk x = true) : LateL (upd H a (.lst (xs ++ [.str "late"]))) a (n + 1) :=
  ⟨_, upd_same, by rw [List.length_append]; exact Nat.succ_le_succ l, fun x hx => (List.mem_append.mp hx).elim (g x) fun hx => by
    rw [List.mem_singleton.mp hx]
    decide +kernel⟩
end Pl
end L2
set_option Elab.async false
set_option linter.all false
set_option maxRecDepth 100000
set_option maxHeartbeats 2000000
namespace L2
namespace Pl
open PySem PySem.Spec PyProof.Rows
/-- a told plan: a tuple of way, guards and tries -/
def ToldT (H : Hp) (t : Addr) : Prop := ∃ (p : Pd) (g : Addr), H t = some (.tup [.str p.way, .ref g, .int p.n]) ∧ H g = some (.tup (sW p.gs)) ∧ p.Ok ∧ ∃ ws, p.gs = srtG ws
/-- what stands fixed while the law walks: G0 are the objects that never change -/
structure Cst (K : PySem.W.Frag) (G0 : Hp) (aW aL aN wl nl : Addr) (wsV lsV nsV : List V) : Prop where
  hW : G0 aW = some (.lst wsV)
  hL : G0 aL = some (.lst lsV)
  hN : G0 aN = some (.lst nsV)
  ws : ∀ v ∈ wsV, v = .ref wl ∨ WayV K G0 v
  ls : ∀ v ∈ lsV, LotV K G0 v
  ns : ∀ v ∈ nsV, v = .ref nl ∨ NumV v
  lW : wsV.length = 16
  lL : lsV.length = 22
  lN : nsV.length = 12
  wl0 : G0 wl = none
  nl0 : G0 nl = none
  ne : wl ≠ nl
structure TI (G0 : Hp) (wl nl so m : Addr) (n : Nat) (ts : List Addr) (H : Hp) : Prop where
  old : Same G0 H
  w : LateL H wl n
  nn : LateL H nl n
  src : Src H so
  mm : H m = some (.lst (ts.map V.ref))
  told : ∀ t ∈ ts, ToldT H t
  so0 : G0 so = none
  m0 : G0 m = none
  n1 : so ≠ wl
  n2 : so ≠ nl
  n3 : m ≠ so
  n4 : m ≠ wl
  n5 : m ≠ nl
section
variable {G0 H H' : Hp} {wl nl so m : Addr} {n : Nat} {ts : List Addr}
theorem LateL.same {a : Addr} (h : LateL H a n) (m : Same H H') : LateL H' a n := by
  obtain ⟨xs, h1, h2⟩ := h
  exact ⟨xs, m _ _ h1, h2⟩
theorem LateL.more {a : Addr} {k : Nat} (h : LateL H a n) (l : n ≤ k) : LateL H a k := by
  obtain ⟨xs, h1, h2, h3⟩ := h
  exact ⟨xs, h1, Nat.le_trans h2 l, h3⟩
theorem ToldT.same {t : Addr} (h : ToldT H t) (m : Same H H') : ToldT H' t := by
  obtain ⟨p, g, h1, h2, h3⟩ := h
  exact ⟨p, g, m _ _ h1, m _ _ h2, h3⟩
/-- a list is changed -/
theorem ToldT.upd {t a : Addr} {us xs : List V} (h : ToldT H t) (ha : H a = some (.lst us)) : ToldT (upd H a (.lst xs)) t := by
  obtain ⟨p, g, h1, h2, h3⟩ := h
  refine ⟨p, g, (upd_ne fun z => ?_).trans h1, (upd_ne fun z => ?_).trans h2, h3⟩
  · subst z
    rw [ha] at h1
    cases h1
  · subst z
    rw [ha] at h2
    cases h2
theorem TI.same (h : TI G0 wl nl so m n ts H) (e : Same H H') : TI G0 wl nl so m n ts H' := by
  obtain ⟨own, mixed, hs⟩ := id h.src
  exact ⟨h.old.trans e, h.w.same e, h.nn.same e, ⟨own, mixed, e _ _ hs⟩, e _ _ h.mm, fun t ht => (h.told t ht).same e, h.so0, h.m0, h.n1, h.n2, h.n3, h.n4, h.n5⟩
theorem TI.mv (h : TI G0 wl nl so m n ts H) (e : Mv so H H') : TI G0 wl nl so m n ts H' := by
  obtain ⟨xs, w1, w2⟩ := id h.w
  obtain ⟨ys, v1, v2⟩ := id h.nn
  obtain ⟨own, mixed, hs⟩ := id h.src
  refine ⟨fun b o q => e.get (fun z => ?_) (h.old _ _ q), ⟨xs, e.get h.n1.symm w1, w2⟩, ⟨ys, e.get h.n2.symm v1, v2⟩, e.src, e.get h.n3 h.mm, fun t ht => ?_, h.so0, h.m0, h.n1, h.n2, h.n3, h.n4, h.n5⟩
  · subst z
    rw [h.so0] at q
    cases q
  · obtain ⟨p, g, h1, h2, h3⟩ := h.told t ht
    refine ⟨p, g, e.get (fun z => ?_) h1, e.get (fun z => ?_) h2, h3⟩
    · subst z
      rw [hs] at h1
      cases h1
    · subst z
      rw [hs] at h2
      cases h2
/-- an own new list is changed -/
theorem TI.own {a : Addr} {us xs : List V} (h : TI G0 wl nl so m n ts H) (ha : H a = some (.lst us)) (a0 : G0 a = none) (n1 : a ≠ wl) (n2 : a ≠ nl) (n3 : a ≠ so) (n4 : a ≠ m) : TI G0 wl nl so m n ts (upd H a (.lst xs)) := by
  obtain ⟨ws, w1, w2⟩ := id h.w
  obtain ⟨ys, v1, v2⟩ := id h.nn
  obtain ⟨own, mixed, hs⟩ := id h.src
  refine ⟨fun b o q => (upd_ne fun z => ?_).trans (h.old _ _ q), ⟨ws, (upd_ne n1.symm).trans w1, w2⟩, ⟨ys, (upd_ne n2.symm).trans v1, v2⟩, ⟨own, mixed, (upd_ne n3.symm).trans hs⟩, (upd_ne n4.symm).trans h.mm, fun t ht => (h.told t ht).upd ha, h.so0, h.m0, h.n1, h.n2, h.n3, h.n4, h.n5⟩
  subst z
  rw [a0] at q
  cases q
theorem TI.late1 {xs : List V} (h : TI G0 wl nl so m n ts H) (w0 : G0 wl = none) (ne : wl ≠ nl) (hx : H wl = some (.lst xs)) (l : xs.length ≤ n) (g : ∀ x ∈ xs, flatOk x = true) : TI G0 wl nl so m (n + 1) ts (upd H wl (.lst (xs ++ [.str "late"]))) := by
  obtain ⟨ys, v1, v2⟩ := id h.nn
  obtain ⟨own, mixed, hs⟩ := id h.src
  refine ⟨fun b o q => (upd_ne fun z => ?_).trans (h.old _ _ q), .add hx l g, LateL.more ⟨ys, (upd_ne ne.symm).trans v1, v2⟩ (Nat.le_succ n), ⟨own, mixed, (upd_ne h.n1).trans hs⟩, (upd_ne h.n4).trans h.mm, fun t ht => (h.told t ht).upd hx, h.so0, h.m0, h.n1, h.n2, h.n3, h.n4, h.n5⟩
  subst z
  rw [w0] at q
  cases q
theorem TI.late2 {xs : List V} (h : TI G0 wl nl so m n ts H) (w0 : G0 nl = none) (ne : wl ≠ nl) (hx : H nl = some (.lst xs)) (l : xs.length ≤ n) (g : ∀ x ∈ xs, flatOk x = true) : TI G0 wl nl so m (n + 1) ts (upd H nl (.lst (xs ++ [.str "late"]))) := by
  obtain ⟨ys, v1, v2⟩ := id h.w
  obtain ⟨own, mixed, hs⟩ := id h.src
  refine ⟨fun b o q => (upd_ne fun z => ?_).trans (h.old _ _ q), LateL.more ⟨ys, (upd_ne ne).trans v1, v2⟩ (Nat.le_succ n), .add hx l g, ⟨own, mixed, (upd_ne h.n2).trans hs⟩, (upd_ne h.n5).trans h.mm, fun t ht => (h.told t ht).upd hx, h.so0, h.m0, h.n1, h.n2, h.n3, h.n4, h.n5⟩
  subst z
  rw [w0] at q
  cases q
theorem TI.more {k : Nat} (h : TI G0 wl nl so m n ts H) (l : n ≤ k) : TI G0 wl nl so m k ts H := ⟨h.old, h.w.more l, h.nn.more l, h.src, h.mm, h.told, h.so0, h.m0, h.n1, h.n2, h.n3, h.n4, h.n5⟩
theorem TI.app {t : Addr} (h : TI G0 wl nl so m n ts H) (ht : ToldT H t) : TI G0 wl nl so m n (ts ++ [t]) (upd H m (.lst (ts.map V.ref ++ [.ref t]))) := by
  obtain ⟨ws, w1, w2⟩ := id h.w
  obtain ⟨ys, v1, v2⟩ := id h.nn
  obtain ⟨own, mixed, hs⟩ := id h.src
  refine ⟨fun b o q => (upd_ne fun z => ?_).trans (h.old _ _ q), ⟨ws, (upd_ne h.n4.symm).trans w1, w2⟩, ⟨ys, (upd_ne h.n5.symm).trans v1, v2⟩, ⟨own, mixed, (upd_ne h.n3.symm).trans hs⟩, by rw [upd_same, List.map_append]; rfl, fun t' ht' => ?_, h.so0, h.m0, h.n1, h.n2, h.n3, h.n4, h.n5⟩
  · subst z
    rw [h.m0] at q
    cases q
  · rcases List.mem_append.mp ht' with q | q
    · exact (h.told t' q).upd h.mm
    · rw [List.mem_singleton.mp q]
      exact ht.upd h.mm
/-- the guards' own copy is appended to, or nothing is -/
theorem TI.keepG {a : Addr} {v : V} {us : List V} (h : TI G0 wl nl so m n ts H) (k : KeepG v H H') (hv : ∀ b, v = .ref b → (∃ xs, H b = some (.lst xs)) → G0 b = none ∧ b ≠ wl ∧ b ≠ nl ∧ b ≠ so ∧ b ≠ m) : TI G0 wl nl so m n ts H' := by
  have g : ∀ b o, H b = some o → (b = wl ∨ b = nl ∨ b = so ∨ b = m ∨ (∃ xs, o = .tup xs) ∨ ∃ o', G0 b = some o') → H' b = some o := fun b o e c => by
    rcases k b o e with q | ⟨e1, xs, e2, _⟩
    · exact q
    · exfalso
      subst e2
      obtain ⟨a0, a1, a2, a3, a4⟩ := hv b e1 ⟨_, e⟩
      rcases c with z | z | z | z | ⟨_, z⟩ | ⟨_, z⟩
      · exact a1 z
      · exact a2 z
      · exact a3 z
      · exact a4 z
      · cases z
      · rw [a0] at z
        cases z
  obtain ⟨ws, w1, w2⟩ := id h.w
  obtain ⟨ys, v1, v2⟩ := id h.nn
  obtain ⟨own, mixed, hs⟩ := id h.src
  refine ⟨fun b o q => g _ _ (h.old _ _ q) (.inr (.inr (.inr (.inr (.inr ⟨_, q⟩))))), ⟨ws, g _ _ w1 (.inl rfl), w2⟩, ⟨ys, g _ _ v1 (.inr (.inl rfl)), v2⟩, ⟨own, mixed, g _ _ hs (.inr (.inr (.inl rfl)))⟩, g _ _ h.mm (.inr (.inr (.inr (.inl rfl)))), fun t ht => ?_, h.so0, h.m0, h.n1, h.n2, h.n3, h.n4, h.n5⟩
  obtain ⟨p, u, h1, h2, h3⟩ := h.told t ht
  exact ⟨p, u, g _ _ h1 (.inr (.inr (.inr (.inr (.inl ⟨_, rfl⟩))))), g _ _ h2 (.inr (.inr (.inr (.inr (.inl ⟨_, rfl⟩))))), h3⟩
end
end Pl
end L2
set_option Elab.async false
set_option linter.all false
set_option maxRecDepth 100000
set_option maxHeartbeats 8000000
namespace L2
namespace Pl
open PySem PySem.Spec PyProof.Rows
/-- guards that are a list: an own copy, its entries stand fixed -/
def OwnG (K : PySem.W.Frag) (G0 : Hp) (wl nl so m : Addr) (H : Hp) (gv : V) : Prop := ∀ b xs, gv = .ref b → H b = some (.lst xs) → G0 b = none ∧ b ≠ wl ∧ b ≠ nl ∧ b ≠ so ∧ b ≠ m ∧ ∀ x ∈ xs, DatV K G0 40 2 x
theorem mem_cut {x : V} {xs : List V} {lo hi : Option Int} (h : x ∈ cutV xs lo hi) : x ∈ xs := List.mem_of_mem_drop (List.mem_of_mem_take h)
theorem mem_rep {x : V} {xs : List V} {k : Nat} (h : x ∈ (List.replicate k xs).flatten) : x ∈ xs := by
  obtain ⟨l, h1, h2⟩ := List.mem_flatten.mp h
  rw [List.eq_of_mem_replicate h1] at h2
  exact h2
theorem len_rep {xs : List V} {k : Nat} : (List.replicate k xs).flatten.length = k * xs.length := by
  induction k with
  | zero => simp
  | succ k ih => rw [List.replicate_succ, List.flatten_cons, List.length_append, ih, Nat.succ_mul]; omega
end Pl
end L2
namespace Bs
open PySem PySem.Spec PyProof.Rows L2 L2.Pl
abbrev nth (l : List Stmt) (i : Nat) : Stmt := l.getD i (.Pass ⟨0, 0, 0, 0⟩)
def forBody : Stmt → List Stmt
  | .For _ _ b _ _ => b
  | _ => []
abbrev sL1 (i : Nat) : Stmt := nth (forBody (nth (defBody sLaw) 6)) i
abbrev sL2 (i : Nat) : Stmt := nth (forBody (sL1 2)) i
abbrev NLw : List Str := ["script", "ways", "lots", "numbers", "start", "source", "made", "turn", "way", "number", "guards", "due", "told", "one", "two", "first", "second", "thing"]
theorem scLaw : FnScope NLw ["script"] (defScope sLaw) := ⟨rfl, rfl, rfl, by decide +kernel, rfl, by decide +kernel, by decide +kernel⟩
abbrev XL (P : Program) (w : World) (K : PySem.W.Frag) (mg : Str → Option Value) (base : Heap) (f : Addr) (cdv : Value) (A : Around) (outer : List Env) (s : Shared) (H0 : Hp) (E : XK) : Cx := (cxOf CX0 P w K mg base NLw "law" (defScope sLaw) f cdv A outer s H0 E).nox
section
variable {P : Program} {w : World} {K : PySem.W.Frag} {mg : Str → Option Value} {base : Heap} {f : Addr} {cdv : Value} {A : Around} {outer : List Env} {s : Shared} {H0 : Hp} {E : XK}
abbrev sg15 (a aW aL aN so m : Addr) (c4 c7 c8 c9 c10 c11 c12 c13 c14 c15 c16 c17 : Option V) : L2.St := [some (.ref a), some (.ref aW), some (.ref aL), some (.ref aN), c4, some (.ref so), some (.ref m), c7, c8, c9, c10, c11, c12, c13, c14, c15, c16, c17]
theorem ch_draws (G : Gn mg) (hr : Room 5 (A.deeper (envOfC "law" (defScope sLaw) s.heap.objs.size f cdv))) {rest : List Stmt} {u : TS} (hu : PSs (XL P w K mg base f cdv A outer s H0 E) rest u) (hP : Has P w K mg base CX0 "_law_pick" 2 ["source", "things"] (spPick K)) :
    ∃ t, PSs (XL P w K mg base f cdv A outer s H0 E) (sL2 0 :: sL2 1 :: sL2 2 :: rest) t ∧ ∀ (D : Ends) (G0 H : Hp) (a aW aL aN wl nl so m : Addr) (wsV lsV nsV : List V) (n : Nat) (ts : List Addr) (c4 c7 c8 c9 c10 c11 c12 c13 c14 c15 c16 c17 : Option V),
      Cst K G0 aW aL aN wl nl wsV lsV nsV → TI G0 wl nl so m n ts H →
      (∀ H' wv tv gv, TI G0 wl nl so m n ts H' → wv ∈ wsV → tv ∈ nsV → LotV K H' gv → OwnG K G0 wl nl so m H' gv →
        u D (sg15 a aW aL aN so m c4 c7 (some wv) (some tv) (some gv) c11 c12 c13 c14 c15 c16 c17) H') →
      t D (sg15 a aW aL aN so m c4 c7 c8 c9 c10 c11 c12 c13 c14 c15 c16 c17) H := by
  obtain ⟨fP, dP, oP, bP, gP, kP⟩ := hP.ex
  have hr2 := hr.mono (j := 2) (by decide)
  refine ⟨_, pss_cons (ps_par (i := 8) (j := 9) (by rfl) scLaw.nd rfl rfl (by decide) rfl rfl (pa_cons (pe_call oP hr2 (by rfl) gP kP bP .nil pass0 (pa_cons (pv 5) (pa_cons (pe_op op_cat (pe_slice sl_list (pv 1) po_none (po_some pe_int)) (pv 1)) pa_nil)))
      (pa_cons (pe_call oP hr2 (by rfl) gP kP bP .nil pass0 (pa_cons (pv 5) (pa_cons (pe_op op_cat (pe_op op_rep (pe_slice sl_list (pv 3) po_none (po_some pe_int)) pe_int) (pv 3)) pa_nil))) pa_nil)) (by rfl))
    (pss_cons (ps_set (i := 10) scLaw.nd rfl (.inl rfl) (pe_call oP hr2 (by rfl) gP kP bP .nil pass0 (pa_cons (pv 5) (pa_cons (pe_op op_cat (pe_slice sl_list (pv 2) po_none (po_some pe_int)) (pv 2)) pa_nil))))
    (pss_cons (ps_set (i := 10) scLaw.nd rfl (.inl rfl) (pe_ifExp (pt_val (pe_callB call_isi (by rfl) G.isi bIsi (pa_cons (pv 10) (pa_cons (pe_bltn (v := .ty "list") (by rfl) G.list bList rfl) pa_nil)))) (pe_callTy call_list_of (by rfl) G.list bList (pa_cons (pv 10) pa_nil)) (pv 10))) hu)),
    fun D G0 H a aW aL aN wl nl so m wsV lsV nsV n ts c4 c7 c8 c9 c10 c11 c12 c13 c14 c15 c16 c17 C I q => ?_⟩
  -- the way
  have lw := C.lW
  have ll := C.lL
  have ln := C.lN
  refine ⟨_, rfl, _, rfl, _, rfl, aW, wsV, rfl, SqL.of (I.old _ _ C.hW), fun p1 hp1 => ?_⟩
  have m1 := same_new hp1 (o := .lst (cutV wsV none (some 4)))
  have I1 := I.same m1
  refine ⟨_, rfl, p1, aW, _, _, rfl, rfl, upd_same, I1.old _ _ C.hW, by have := cutV_length wsV none (some 4); rw [sizeLine_eq]; omega, fun p2 hp2 => ?_⟩
  have I2 := I1.same (same_new hp2 (o := .lst (cutV wsV none (some 4) ++ wsV)))
  have c2 := cutV_length wsV none (some 4)
  refine ⟨so, .ref p2, _, rfl, I2.src, .inl ⟨p2, rfl, SqL.of (del_of (fun z => by
      subst z
      obtain ⟨_, _, e⟩ := I1.src
      rw [hp2] at e
      cases e) upd_same)⟩, ?_, by rw [List.length_append]; omega, fun H2 wv mv2 _ hw => ?_⟩
  · intro z
    have := congrArg List.length z
    rw [List.length_append, lw] at this
    simp at this
  have J2 := I2.mv mv2
  have hwv : wv ∈ wsV := (List.mem_append.mp hw).elim mem_cut id
  clear hw mv2
  -- the number
  refine ⟨_, rfl, _, rfl, _, rfl, aN, nsV, rfl, SqL.of (J2.old _ _ C.hN), fun p3 hp3 => ?_⟩
  have I3 := J2.same (same_new hp3 (o := .lst (cutV nsV none (some 3))))
  have c3 := cutV_length nsV none (some 3)
  refine ⟨p3, 3, _, rfl, rfl, upd_same, by decide, by decide, by rw [sizeLine_eq]; show _ * 3 ≤ _; omega, fun p4 hp4 => ?_⟩
  have I4 := I3.same (same_new hp4 (o := .lst (List.replicate (3 : Int).toNat (cutV nsV none (some 3))).flatten))
  have c4' : (List.replicate (3 : Int).toNat (cutV nsV none (some 3))).flatten.length ≤ 36 := by
    rw [len_rep]
    show 3 * _ ≤ 36
    omega
  refine ⟨_, rfl, p4, aN, _, _, rfl, rfl, upd_same, I4.old _ _ C.hN, by rw [sizeLine_eq]; omega, fun p5 hp5 => ?_⟩
  have I5 := I4.same (same_new hp5 (o := .lst ((List.replicate (3 : Int).toNat (cutV nsV none (some 3))).flatten ++ nsV)))
  refine ⟨so, .ref p5, _, rfl, I5.src, .inl ⟨p5, rfl, SqL.of (del_of (fun z => by
      subst z
      obtain ⟨_, _, e⟩ := I4.src
      rw [hp5] at e
      cases e) upd_same)⟩, ?_, by rw [List.length_append]; omega, fun H3 tv mv3 _ ht => ?_⟩
  · intro z
    have := congrArg List.length z
    rw [List.length_append, ln] at this
    simp at this
  have J3 := I5.mv mv3
  have htv : tv ∈ nsV := (List.mem_append.mp ht).elim (fun z => mem_cut (mem_rep z)) id
  clear ht mv3
  refine ⟨wv, tv, rfl, ?_⟩
  have J4 := J3
  -- the guards
  refine ⟨_, rfl, _, rfl, _, rfl, aL, lsV, rfl, SqL.of (J4.old _ _ C.hL), fun p6 hp6 => ?_⟩
  have I6 := J4.same (same_new hp6 (o := .lst (cutV lsV none (some 6))))
  have c6 := cutV_length lsV none (some 6)
  refine ⟨_, rfl, p6, aL, _, _, rfl, rfl, upd_same, I6.old _ _ C.hL, by rw [sizeLine_eq]; omega, fun p7 hp7 => ?_⟩
  have I7 := I6.same (same_new hp7 (o := .lst (cutV lsV none (some 6) ++ lsV)))
  refine ⟨so, .ref p7, _, rfl, I7.src, .inl ⟨p7, rfl, SqL.of (del_of (fun z => by
      subst z
      obtain ⟨_, _, e⟩ := I6.src
      rw [hp7] at e
      cases e) upd_same)⟩, ?_, by rw [List.length_append]; omega, fun H4 gv mv4 _ hg => ?_⟩
  · intro z
    have := congrArg List.length z
    rw [List.length_append, ll] at this
    simp at this
  have J5 := I7.mv mv4
  have hgv : gv ∈ lsV := (List.mem_append.mp hg).elim mem_cut id
  clear hg mv4
  have lg := (C.ls gv hgv).same J5.old
  have lg0 := C.ls gv hgv
  cases lg0 with
  | @lst b us e hb us0 ds =>
    subst e
    have hb4 := J5.old _ _ hb
    refine ⟨_, rfl, .ref b, .ty "list", _, _, true, rfl, .ty _, .base (.lst hb4), kitL_L, true, rfl, ?_⟩
    refine iteT ⟨_, rfl, b, us, rfl, .inl (SqL.of hb4), fun l hl => ?_⟩
    have m5 := same_new hl (o := .lst us)
    have J6 := J5.same m5
    refine q _ wv tv (.ref l) J6 hwv htv (.lst rfl upd_same (us0.same J6.old) fun x hx => (ds x hx).same J6.old) fun b' xs' e' h' => ?_
    obtain rfl := V.ref.inj e'
    obtain ⟨xs1, w1, _⟩ := J5.w
    obtain ⟨xs2, w2, _⟩ := J5.nn
    obtain ⟨o1, o2, w3⟩ := J5.src
    rw [upd_same] at h'
    cases h'
    refine ⟨J5.old.free hl, ?_, ?_, ?_, ?_, ds⟩
    · intro z; subst z; rw [hl] at w1; cases w1
    · intro z; subst z; rw [hl] at w2; cases w2
    · intro z; subst z; rw [hl] at w3; cases w3
    · intro z; subst z; have := J5.mm; rw [hl] at this; cases this
  | @tup b us e hb us0 ds =>
    subst e
    have hb4 := J5.old _ _ hb
    refine ⟨_, rfl, .ref b, .ty "list", _, _, false, rfl, .ty _, .base (.tup hb4), kit_ty (by decide +kernel), false, rfl, ?_⟩
    refine iteF ⟨_, rfl, q _ wv tv (.ref b) J5 hwv htv lg fun b' xs' e' h' => ?_⟩
    obtain rfl := V.ref.inj e'
    rw [hb4] at h'
    cases h'
  | flat f =>
    obtain ⟨t, ty, k1, k2⟩ := flat_ty (K := K) (H := H4) f
    refine ⟨_, rfl, gv, .ty "list", _, _, false, rfl, .ty _, ty, k1, false, rfl, ?_⟩
    refine iteF ⟨_, rfl, q _ wv tv gv J5 hwv htv lg fun b' xs' e' h' => ?_⟩
    subst e'
    cases f
  | @dic b e hb =>
    subst e
    have hb4 := J5.old _ _ hb
    refine ⟨_, rfl, .ref b, .ty "list", _, _, false, rfl, .ty _, .base (.dK hb4), kit_ty (by decide +kernel), false, rfl, ?_⟩
    refine iteF ⟨_, rfl, q _ wv tv (.ref b) J5 hwv htv lg fun b' xs' e' h' => ?_⟩
    obtain rfl := V.ref.inj e'
    rw [hb4] at h'
    cases h'
end
end Bs
set_option Elab.async false
set_option linter.all false
set_option maxRecDepth 100000
set_option maxHeartbeats 8000000
namespace L2
namespace Pl
open PySem PySem.Spec PyProof.Rows
theorem Sz.one {d : PyData} {n e : Nat} (s : Sz d n e) : Sz (.list [d]) (n + 1) (e + 1) := by
  have q1 := s.can
  have q2 := s.short
  have q3 := s.bulk
  have q4 := s.dep
  refine ⟨by simp [PyData.showable, PyData.showableAll, q1], by simp [PyData.leavesShort, PyData.leavesShortAll, q2], by simp only [PyData.bulk, PyData.bulkAll]; omega, by simp only [PyData.depth, PyData.depthAll]; omega⟩
/-- the data of a told plan -/
def pdD (p : Pd) : PyData := .tuple [.str p.way, .tuple (p.gs.map PyData.str), .int p.n]
theorem pd_all : ∀ w ∈ wws, ∀ g ∈ srt4, ∀ n ∈ ([1, 2, 3] : List Int), ((PyData.tuple [.str w, .tuple (g.map PyData.str), .int n]).showable && (PyData.tuple [.str w, .tuple (g.map PyData.str), .int n]).leavesShort 40 && decide ((PyData.tuple [.str w, .tuple (g.map PyData.str), .int n]).bulk ≤ 40) && decide ((PyData.tuple [.str w, .tuple (g.map PyData.str), .int n]).depth ≤ 2)) = true := by decide +kernel
theorem Pd.Ok.n123 {p : Pd} (h : p.Ok) : p.n ∈ ([1, 2, 3] : List Int) := by
  have h1 := h.n1
  have h3 := h.n3
  have : p.n = 1 ∨ p.n = 2 ∨ p.n = 3 := by omega
  rcases this with e | e | e <;> rw [e] <;> decide
theorem pd_sz {p : Pd} (h : p.Ok) : Sz (pdD p) 40 2 := by
  have := pd_all p.way h.way p.gs h.gs p.n h.n123
  simp only [Bool.and_eq_true, decide_eq_true_iff] at this
  exact ⟨this.1.1.1, this.1.1.2, this.1.2, this.2⟩
theorem dqW {K : PySem.W.Frag} {H : Hp} : ∀ {ws : List Str}, DqAll K H (sW ws) (ws.map PyData.str)
  | [] => .nil
  | w :: ws => .cons (.str w) dqW
theorem pd_dq {K : PySem.W.Frag} {H : Hp} {p : Pd} {t g : Addr} (h1 : H t = some (.tup [.str p.way, .ref g, .int p.n])) (h2 : H g = some (.tup (sW p.gs))) : Dq K H (.ref t) (pdD p) :=
  .tup h1 (.cons (.str _) (.cons (.tup h2 dqW) (.cons (.int _) .nil)))
theorem KeepG.tup {v : V} {H H' : Hp} {b : Addr} {xs : List V} (k : KeepG v H H') (h : H b = some (.tup xs)) : H' b = some (.tup xs) := by
  rcases k b _ h with q | ⟨_, _, e, _⟩
  · exact q
  · cases e
/-- a refused value: what it is -/
inductive BadV (K : PySem.W.Frag) (G0 : Hp) (wl nl so m : Addr) (H : Hp) (v : V) : Prop
  | wl : v = .ref wl → BadV K G0 wl nl so m H v
  | nl : v = .ref nl → BadV K G0 wl nl so m H v
  | own {a : Addr} {us : List V} : v = .ref a → H a = some (.lst us) → us.length ≤ 3 → G0 a = none → a ≠ wl → a ≠ nl → a ≠ so → a ≠ m → (∀ x ∈ us, DatV K G0 40 2 x) → BadV K G0 wl nl so m H v
  | no : NotTy K H "list" v → DatV K H 200 3 v → BadV K G0 wl nl so m H v
theorem NotTy.same {K : PySem.W.Frag} {H H' : Hp} {c : String} {v : V} (h : NotTy K H c v) (m : Same H H') : NotTy K H' c v := by
  obtain ⟨t, ty, k⟩ := h
  exact ⟨t, tyKeep ty m, k⟩
theorem BadV.same {K : PySem.W.Frag} {G0 H H' : Hp} {wl nl so m : Addr} {v : V} (h : BadV K G0 wl nl so m H v) (e : Same H H') : BadV K G0 wl nl so m H' v := by
  cases h with
  | wl h => exact .wl h
  | nl h => exact .nl h
  | own h1 h2 h3 h4 h5 h6 h7 h8 h9 => exact .own h1 (e _ _ h2) h3 h4 h5 h6 h7 h8 h9
  | no h1 h2 => exact .no (h1.same e) (h2.same e)
theorem lot_bad {K : PySem.W.Frag} {G0 H : Hp} {wl nl so m : Addr} {v : V} (h : LotV K H v) (o : OwnG K G0 wl nl so m H v) : BadV K G0 wl nl so m H v := by
  have d := h.dat
  cases h with
  | lst e ha u _ =>
    obtain ⟨o1, o2, o3, o4, o5, o6⟩ := o _ _ e ha
    exact .own e ha u.len o1 o2 o3 o4 o5 o6
  | tup e ha u _ =>
    subst e
    exact .no ⟨_, .base (.tup ha), kit_ty (by decide +kernel)⟩ d
  | flat f =>
    obtain ⟨t, ty, k1, k2⟩ := flat_ty (K := K) (H := H) f
    exact .no ⟨t, ty, k1⟩ d
  | dic e ha =>
    subst e
    exact .no ⟨_, .base (.dK ha), kit_ty (by decide +kernel)⟩ d
theorem way_bad {K : PySem.W.Frag} {G0 H : Hp} {wl nl so m : Addr} {v : V} (h : WayV K H v) : BadV K G0 wl nl so m H v := by
  have d := h.dat.more (n2 := 200) (e2 := 3) (by decide) (by decide)
  cases h with
  | flat _ f =>
    obtain ⟨t, ty, k1, k2⟩ := flat_ty (K := K) (H := H) f
    exact .no ⟨t, ty, k1⟩ d
  | tup e ha =>
    subst e
    exact .no ⟨_, .base (.tup ha), kit_ty (by decide +kernel)⟩ d
  | dic e ha =>
    subst e
    exact .no ⟨_, .base (.dK ha), kit_ty (by decide +kernel)⟩ d
theorem num_bad {K : PySem.W.Frag} {G0 H : Hp} {wl nl so m : Addr} {v : V} (h : NumV v) : BadV K G0 wl nl so m H v := by
  obtain ⟨t, ty, k1, k2⟩ := flat_ty (K := K) (H := H) h.ok
  exact .no ⟨t, ty, k1⟩ ((DatV.flat h.ok).more (by decide) (by decide))
theorem lot_gv {K : PySem.W.Frag} {H : Hp} {v : V} (h : LotV K H v) : GvK K H v := by
  cases h with
  | lst e ha u _ => exact .inl ⟨_, _, e, ha, u.len⟩
  | tup e ha u _ =>
    subst e
    exact .inr ⟨_, .base (.tup ha), kit_ty (by decide +kernel)⟩
  | flat f =>
    obtain ⟨t, ty, k1, k2⟩ := flat_ty (K := K) (H := H) f
    exact .inr ⟨t, ty, k1⟩
  | dic e ha =>
    subst e
    exact .inr ⟨_, .base (.dK ha), kit_ty (by decide +kernel)⟩
theorem kitL_LJ {K : PySem.W.Frag} : PySem.W.kitOne K (.type "list") (.type "list") = some true := kit_ty (by decide +kernel)

theorem BadV.late {K : PySem.W.Frag} {G0 H : Hp} {aW aL aN wl nl so m : Addr} {wsV lsV nsV : List V} {n : Nat} {ts : List Addr} {v : V} (C : Cst K G0 aW aL aN wl nl wsV lsV nsV) (I : TI G0 wl nl so m n ts H) (hn : n ≤ 190) (h : BadV K G0 wl nl so m H v) :
    (DatV K H 2000 3 v) ∧ ∃ t b, TyX K H v t ∧ PySem.W.kitOne K t (.type "list") = some b ∧ (b = true → ∃ a us, v = .ref a ∧ H a = some (.lst us) ∧ us.length ≤ 190 ∧ TI G0 wl nl so m (n + 1) ts (upd H a (.lst (us ++ [.str "late"]))) ∧ DatV K (upd H a (.lst (us ++ [.str "late"]))) 2000 3 (.ref a)) := by
  cases h with
  | wl e =>
    subst e
    refine ⟨(I.w.dat (by omega)).more (by decide) (by decide), ?_⟩
    obtain ⟨xs, h1, h2, h3⟩ := id I.w
    have J := I.late1 C.wl0 C.ne h1 h2 h3
    exact ⟨_, true, .base (.lst h1), kitL_LJ, fun _ => ⟨_, xs, rfl, h1, by omega, J, (J.w.dat (by omega)).more (by decide) (by decide)⟩⟩
  | nl e =>
    subst e
    refine ⟨(I.nn.dat (by omega)).more (by decide) (by decide), ?_⟩
    obtain ⟨xs, h1, h2, h3⟩ := id I.nn
    have J := I.late2 C.nl0 C.ne h1 h2 h3
    exact ⟨_, true, .base (.lst h1), kitL_LJ, fun _ => ⟨_, xs, rfl, h1, by omega, J, (J.nn.dat (by omega)).more (by decide) (by decide)⟩⟩
  | @own a us e ha l a0 a1 a2 a3 a4 ds =>
    subst e
    have d0 : ∀ xs, (∀ x ∈ xs, DatV K G0 40 2 x) → ∀ H', Same G0 H' → H' a = some (.lst xs) → xs.length ≤ 4 → DatV K H' 2000 3 (.ref a) := fun xs hx H' m' ha' l' => by
      refine (DatV.lst ha' fun x hx' => (hx x hx').same m').more ?_ (by decide)
      have := Nat.mul_le_mul_right (40 + 1) l'
      omega
    have J := I.own (xs := us ++ [.str "late"]) ha a0 a1 a2 a3 a4
    refine ⟨d0 us ds H I.old ha (by omega), _, true, .base (.lst ha), kitL_LJ, fun _ => ⟨a, us, rfl, ha, by omega, J.more (Nat.le_succ n), d0 _ (fun x hx => ?_) _ J.old upd_same (by rw [List.length_append]; show us.length + 1 ≤ 4; omega)⟩⟩
    rcases List.mem_append.mp hx with hx | hx
    · exact ds x hx
    · rw [List.mem_singleton.mp hx]
      exact (DatV.flat (by decide +kernel)).more (by decide) (by decide)
  | no nt d =>
    obtain ⟨t, ty, k⟩ := nt
    exact ⟨d.more (by decide) (by decide), t, false, ty, k, fun z => nomatch z⟩
end Pl
end L2
set_option Elab.async false
set_option linter.all false
set_option maxRecDepth 100000
set_option maxHeartbeats 8000000
namespace L2
namespace Pl
open PySem PySem.Spec PyProof.Rows
theorem wayB {K : PySem.W.Frag} {G0 H : Hp} {aW aL aN wl nl so m : Addr} {wsV lsV nsV : List V} {n : Nat} {ts : List Addr} {v : V} (C : Cst K G0 aW aL aN wl nl wsV lsV nsV) (I : TI G0 wl nl so m n ts H) (h : v ∈ wsV) : (∃ k, WayK K H v k) ∧ BadV K G0 wl nl so m H v := by
  rcases C.ws v h with e | w
  · subst e
    exact ⟨⟨_, I.w.way⟩, .wl rfl⟩
  · have w := w.same I.old
    exact ⟨w.way, way_bad w⟩
theorem numB {K : PySem.W.Frag} {G0 H : Hp} {aW aL aN wl nl so m : Addr} {wsV lsV nsV : List V} {n : Nat} {ts : List Addr} {v : V} (C : Cst K G0 aW aL aN wl nl wsV lsV nsV) (I : TI G0 wl nl so m n ts H) (h : v ∈ nsV) : (∃ k, Btw K H 1 3 v k) ∧ BadV K G0 wl nl so m H v := by
  rcases C.ns v h with e | w
  · subst e
    exact ⟨⟨_, I.nn.btw⟩, .nl rfl⟩
  · exact ⟨w.btw K H, num_bad w⟩
end Pl
end L2
namespace Bs
open PySem PySem.Spec PyProof.Rows L2 L2.Pl
section
variable {P : Program} {w : World} {K : PySem.W.Frag} {mg : Str → Option Value} {base : Heap} {f : Addr} {cdv : Value} {A : Around} {outer : List Env} {s : Shared} {H0 : Hp} {E : XK}
theorem ch_told (G : Gn mg) (hSys : SysK K) (hg : A.guards = some []) (hr : Room 5 (A.deeper (envOfC "law" (defScope sLaw) s.heap.objs.size f cdv))) (hD : Has P w K mg base CX0 "_law_due" 2 ["way", "guards", "number"] (spDue K))
    (hT : ∃ fT dT, FnG P w K mg base CX0 5 fT dT ["way", "guards", "number"] (spTold K) ∧ L2.Binds K dT ["way", "guards", "number"] [] ∧ mg "_law_told" = some (.ref fT) ∧ PySem.W.keepIn K (.ref fT) = true) :
    ∃ t, PSs (XL P w K mg base f cdv A outer s H0 E) [sL2 3, sL2 4, sL2 5, sL2 6, sL2 7] t ∧ ∀ (D : Ends) (G0 H : Hp) (a aW aL aN wl nl so m : Addr) (wsV lsV nsV : List V) (n : Nat) (ts : List Addr) (wv tv gv : V) (c4 c7 c11 c12 c13 c14 c15 c16 c17 : Option V),
      Cst K G0 aW aL aN wl nl wsV lsV nsV → TI G0 wl nl so m n ts H → n ≤ 190 → ts.length ≤ 100 → wv ∈ wsV → tv ∈ nsV → LotV K H gv → OwnG K G0 wl nl so m H gv →
      (∀ H' c11 c12 ts', TI G0 wl nl so m (n + 1) ts' H' → ts'.length ≤ ts.length + 1 → D.nx (sg15 a aW aL aN so m c4 c7 (some wv) (some tv) (some gv) c11 c12 c13 c14 c15 c16 c17) H') →
      t D (sg15 a aW aL aN so m c4 c7 (some wv) (some tv) (some gv) c11 c12 c13 c14 c15 c16 c17) H := by
  have due_use : ∀ {H : Hp} {wv gv tv : V} {r : V ⊕ Pd} {Q : VK} {E : XK}, DueK K H wv gv tv r → (∀ v, r = .inl v → ∀ H' p, Same H H' → H' p = some (.lst [v]) → H p = none → Q (.ref p) H') →
    (∀ p, r = .inr p → ∀ H' u t, Same H H' → H' u = some (.tup [.str p.way, .ref t, .int p.n]) → H u = none → H' t = some (.tup (sW p.gs)) → Q (.ref u) H') → spDue K [wv, gv, tv] H Q E := fun h1 h2 h3 => ⟨_, _, _, _, rfl, h1, h2, h3⟩
  have told_use : ∀ {H : Hp} {wv gv tv : V} {r : V ⊕ Pd} {Q : VK} {E : XK}, DueK K H wv gv tv r → LotV K H gv → (∀ v, r = .inl v → ∀ H' p, Same H H' → H' p = some (.lst [v]) → H p = none → Q (.ref p) H') →
    (∀ p, r = .inr p → ∀ H' u t, KeepG gv H H' → H' u = some (.tup [.str p.way, .ref t, .int p.n]) → H u = none → H' t = some (.tup (sW p.gs)) → Q (.ref u) H') → spTold K [wv, gv, tv] H Q E := fun h1 l h2 h3 => by
    obtain ⟨t, ht⟩ := l.dat.text (by decide) (by decide)
    exact ⟨_, _, _, _, t, rfl, h1, ht, lot_gv l, h2, h3⟩
  generalize spDue K = pD at hD due_use
  generalize spTold K = pT at hT told_use
  obtain ⟨fD, dD, oD, bD, gD, kD⟩ := hD.ex
  obtain ⟨fT, dT, oT, bT, gT, kT⟩ := hT
  have hr2 := hr.mono (j := 2) (by decide)
  refine ⟨_, pss_cons (ps_set (i := 11) scLaw.nd rfl (.inl rfl) (pe_call oD hr2 (by rfl) gD kD bD .nil pass0 (pa_cons (pv 8) (pa_cons (pv 10) (pa_cons (pv 9) pa_nil)))))
    (pss_cons (ps_set (i := 12) scLaw.nd rfl (.inl rfl) (pe_callG oT hg hr (by rfl) gT kT bT .nil pass0 (pa_cons (pv 8) (pa_cons (pv 10) (pa_cons (pv 9) pa_nil)))))
    (pss_cons (ps_if (PW.pt (pw_and (pt_val (pe_callB call_isi (by rfl) G.isi bIsi (pa_cons (pv 11) (pa_cons (pe_bltn (v := .ty "list") (by rfl) G.list bList rfl) pa_nil)))) (pw_and1 (pt_val (pe_callB call_isi (by rfl) G.isi bIsi (pa_cons (pe_ix ix_list (pv 11) pe_int (fun _ _ => rfl)) (pa_cons (pe_bltn (v := .ty "list") (by rfl) G.list bList rfl) pa_nil)))))))
        (pss_one (ps_expr (pe_bm PySem.F.plainAttrs_list PySem.F.slot_list_append PySem.F.type_list_append mt_append (pe_ix ix_list (pv 11) pe_int (fun _ _ => rfl)) (pa_cons pe_str pa_nil)))) pss_nil)
    (pss_cons (ps_if (pt_cmpR op_ne (pe_callB (call_reprV hSys hg hr) (by rfl) G.repr bRepr (pa_cons (pv 12) pa_nil)) (pe_callB (call_reprV hSys hg hr) (by rfl) G.repr bRepr (pa_cons (pv 11) pa_nil)) (nomark _)) (pss_one (ps_ret pe_bl)) pss_nil)
    (pss_one (ps_if (pt_val (pe_callB call_isi (by rfl) G.isi bIsi (pa_cons (pv 12) (pa_cons (pe_bltn (v := .ty "tuple") (by rfl) G.tuple bTuple rfl) pa_nil)))) (pss_one (ps_expr (pe_bm PySem.F.plainAttrs_list PySem.F.slot_list_append PySem.F.type_list_append mt_append (pv 6) (pa_cons (pv 12) pa_nil)))) pss_nil))))),
    fun D G0 H a aW aL aN wl nl so m wsV lsV nsV n ts wv tv gv c4 c7 c11 c12 c13 c14 c15 c16 c17 C I hn ht hwv htv lg og q => ?_⟩
  obtain ⟨⟨kw, wk⟩, bw⟩ := wayB C I hwv
  obtain ⟨⟨kt, tk⟩, bt⟩ := numB C I htv
  obtain ⟨r, dk, hv⟩ := due_of wk lg.gu tk
  have bg := lot_bad lg og
  refine ⟨_, rfl, _, rfl, _, rfl, due_use dk (fun v er H1 p1 m1 h1 n1 => ?_) (fun p er H1 u1 t1 m1 h1 n1 g1 => ?_)⟩
  · have I1 := I.same m1
    refine ⟨_, rfl, _, rfl, _, rfl, told_use (dk.same m1) (lg.same m1) (fun v' er' H2 p2 m2 h2 n2 => ?_) (fun p er' => by rw [er] at er'; cases er')⟩
    rw [er] at er'
    obtain rfl := Sum.inl.inj er'
    have I2 := I1.same m2
    have bv : BadV K G0 wl nl so m H2 v := by
      rcases hv v er with e | e | e
      · rw [e]; exact (bw.same m1).same m2
      · rw [e]; exact (bg.same m1).same m2
      · rw [e]; exact (bt.same m1).same m2
    obtain ⟨dv, t0, b, ty, kb, hb⟩ := bv.late C I2 hn
    have h12 := m2 _ _ h1
    refine ⟨_, rfl, .ref p1, .ty "list", _, _, true, rfl, .ty _, .base (.lst h12), kitL_L, true, rfl, iteT ?_⟩
    refine ⟨_, rfl, p1, [v], 0, v, rfl, rfl, SqL.of h12, atI_nat (j := 0) rfl, v, .ty "list", t0, _, b, rfl, .ty _, ty, kb, b, rfl, ite_cont (H1 := H2) (fun H3 => TI G0 wl nl so m (n + 1) ts H3 ∧ H3 p1 = some (.lst [v]) ∧ H3 p2 = some (.lst [v]) ∧ DatV K H3 2000 3 v) (fun H3 ⟨I3, e1, e2, d3⟩ => ?_) (fun eb cont => ?_) (fun eb => ⟨I2.more (Nat.le_succ n), h12, h2, dv⟩)⟩
    · obtain ⟨d, hd, sd⟩ := d3
      obtain ⟨x1, x2⟩ := text_two (.lst e2 (.cons hd .nil)) (.lst e1 (.cons hd .nil)) sd.one (by decide) (by decide)
      refine ⟨_, rfl, .ref p2, _, rfl, x1, _, rfl, .ref p1, _, rfl, x2, rfl, _, rfl, iteNS rfl ?_⟩
      refine ⟨_, rfl, .ref p2, .ty "tuple", _, _, false, rfl, .ty _, .base (.lst e2), kit_ty (by decide +kernel), false, rfl, iteF ?_⟩
      exact q _ _ _ ts I3 (Nat.le_succ _)
    · obtain ⟨x, us, rfl, hx, lx, J, dj⟩ := hb eb
      have old : ∃ o, H x = some o := by
        rcases hv _ er with e | e | e
        · subst e
          rcases C.ws _ hwv with e | w2
          · obtain ⟨xs, w1, _⟩ := I.w
            obtain rfl := V.ref.inj e
            exact ⟨_, w1⟩
          · cases w2 with
            | flat _ f => cases f
            | tup e h => cases e; exact ⟨_, I.old _ _ h⟩
            | dic e h => cases e; exact ⟨_, I.old _ _ h⟩
        · subst e
          cases lg with
          | lst e h _ _ => cases e; exact ⟨_, h⟩
          | tup e h _ _ => cases e; exact ⟨_, h⟩
          | flat f => cases f
          | dic e h => cases e; exact ⟨_, h⟩
        · subst e
          rcases C.ns _ htv with e | w2
          · obtain ⟨xs, w1, _⟩ := I.nn
            obtain rfl := V.ref.inj e
            exact ⟨_, w1⟩
          · cases w2.ok
      obtain ⟨o, ho⟩ := old
      have ne1 : p1 ≠ x := fun z => by
        subst z
        rw [n1] at ho
        cases ho
      have ne2 : p2 ≠ x := fun z => by
        subst z
        rw [m1 _ _ ho] at n2
        cases n2
      exact ⟨_, rfl, p1, [.ref x], 0, .ref x, rfl, rfl, SqL.of h12, atI_nat (j := 0) rfl, .inl ⟨rfl, us, SqL.of hx⟩, x, us, _, rfl, rfl, hx, by rw [sizeLine_eq]; omega, cont _ ⟨J, (upd_ne ne1).trans h12, (upd_ne ne2).trans h2, dj⟩⟩
  · have I1 := I.same m1
    have lg1 := lg.same m1
    refine ⟨_, rfl, _, rfl, _, rfl, told_use (dk.same m1) lg1 (fun v er' => by rw [er] at er'; cases er') (fun p' er' H2 u2 t2 k2 h2 n2 g2 => ?_)⟩
    rw [er] at er'
    obtain rfl := Sum.inr.inj er'
    obtain ⟨_, _, ok, hs⟩ := DueK.made (p := p) (by rw [← er]; exact dk)
    have og1 : OwnG K G0 wl nl so m H1 gv := fun b xs e h => by
      subst e
      cases lg with
      | lst e h0 _ _ => cases e; rw [m1 _ _ h0] at h; cases h; exact og _ _ rfl h0
      | tup e h0 _ _ => cases e; rw [m1 _ _ h0] at h; cases h
      | flat f => cases f
      | dic e h0 => cases e; rw [m1 _ _ h0] at h; cases h
    have I2 := I1.keepG (us := []) (a := 0) k2 fun b e ⟨xs, h⟩ => by
      obtain ⟨o1, o2, o3, o4, o5, _⟩ := og1 b xs e h
      exact ⟨o1, o2, o3, o4, o5⟩
    have h12 := k2.tup h1
    have g12 := k2.tup g1
    refine ⟨_, rfl, .ref u1, .ty "list", _, _, false, rfl, .ty _, .base (.tup h12), kit_ty (by decide +kernel), false, rfl, iteF ?_⟩
    obtain ⟨x1, x2⟩ := text_two (pd_dq h2 g2) (pd_dq (K := K) h12 g12) (pd_sz ok) (by decide) (by decide)
    refine ⟨_, rfl, .ref u2, _, rfl, x1, _, rfl, .ref u1, _, rfl, x2, rfl, _, rfl, iteNS rfl ?_⟩
    refine ⟨_, rfl, .ref u2, .ty "tuple", _, _, true, rfl, .ty _, .base (.tup h2), kit_ty (by decide +kernel), true, rfl, iteT ?_⟩
    refine ⟨_, rfl, .inl ⟨rfl, _, SqL.of I2.mm⟩, _, rfl, m, _, _, rfl, rfl, I2.mm, by rw [List.length_map, sizeLine_eq]; omega, ?_⟩
    exact q _ _ _ _ ((I2.app ⟨p, t2, h2, g2, ok, hs⟩).more (Nat.le_succ n)) (by rw [List.length_append]; exact Nat.le_refl _)
end
end Bs
set_option Elab.async false
set_option linter.all false
set_option maxRecDepth 100000
set_option maxHeartbeats 2000000
/-! x == y, x an instance of a class with an own ==, y such an instance or a plain value -/
namespace L2
namespace Pl
open PySem PySem.Spec PyProof.Rows
theorem looks_typeIs {M : Model} {s : Shared} {v : Value} {T : String} (h : s.TypeIs v T) : PySem.W.Looks M s.heap (typeOf v) (.type T) := by
  cases v with
  | ref a =>
    obtain ⟨o, h1, h2⟩ := h
    intro A Q E s' k q
    exact wpAny_typeOf_ref (k _ _ h1) (by rw [h2]; exact q)
  | _ => exact PySem.W.Looks.of_pure h
/-- the class at C is above none of these types -/
structure NoSub (K : PySem.W.Frag) (C : Addr) : Prop where
  non : PySem.W.subIn K (.type "NoneType") (.ref C) = some false
  bl : PySem.W.subIn K (.type "bool") (.ref C) = some false
  int : PySem.W.subIn K (.type "int") (.ref C) = some false
  str : PySem.W.subIn K (.type "str") (.ref C) = some false
  lst : PySem.W.subIn K (.type "list") (.ref C) = some false
  tup : PySem.W.subIn K (.type "tuple") (.ref C) = some false
  dic : PySem.W.subIn K (.type "dict") (.ref C) = some false
/-- the other side -/
inductive OthV (C : Addr) (H : Hp) : V → Prop
  | own {b dy : Addr} {gs : List (Str × V)} : H b = some (.ins C dy gs) → OthV C H (.ref b)
  | non : OthV C H .non
  | bl (b : Bool) : OthV C H (.bl b)
  | int (i : Int) : OthV C H (.int i)
  | str (x : Str) : OthV C H (.str x)
  | lst {b : Addr} {xs : List V} : H b = some (.lst xs) → OthV C H (.ref b)
  | tup {b : Addr} {xs : List V} : H b = some (.tup xs) → OthV C H (.ref b)
  | dic {b : Addr} {kvs : List (Key × V)} : H b = some (.dK kvs) → OthV C H (.ref b)
def rEqOwnV (C : Addr) (sp : Sp) (E : XK) : R2 := fun x y H Q => ∃ a dx fs, x = .ref a ∧ H a = some (.ins C dx fs) ∧ OthV C H y ∧ sp [.ref a, y] H (fun z H' => ∃ t, z = .bl t ∧ Q (.bl t) H') E
section
variable {X : Cx}
theorem oth_looks {pins : List (Addr × Obj)} {σ : L2.St} {H : Hp} {s : Shared} {C : Addr} {y : V} {u : Value} (S : NoSub X.K C) (I : Inv X pins σ H s) (o : OthV C H y) (ry : RelV y u) : ∃ tb, PySem.W.Looks (model X.prog X.w) s.heap (typeOf u) tb ∧ PySem.W.notFirst X.K C tb = true := by
  cases o with
  | own h =>
    cases (show u = Value.ref _ from ry)
    obtain ⟨m, J, _⟩ := ins_get I.hok h
    obtain ⟨od, J, _⟩ := J.look
    exact ⟨.ref C, J.type, by simp [PySem.W.notFirst]⟩
  | non =>
    cases (show u = Value.none from ry)
    exact ⟨.type "NoneType", looks_typeIs (s := s) (v := .none) (T := "NoneType") rfl, by simp [PySem.W.notFirst, S.non]⟩
  | bl b =>
    cases (show u = Value.bool b from ry)
    exact ⟨.type "bool", looks_typeIs (s := s) (v := .bool b) (T := "bool") rfl, by simp [PySem.W.notFirst, S.bl]⟩
  | int i =>
    obtain ⟨t, e⟩ := (show ∃ t, u = Value.int i t from ry)
    cases e
    exact ⟨.type "int", looks_typeIs (s := s) (v := .int i t) (T := "int") rfl, by simp [PySem.W.notFirst, S.int]⟩
  | str x =>
    obtain ⟨t, e⟩ := (show ∃ t, u = Value.str x t from ry)
    cases e
    exact ⟨.type "str", looks_typeIs (s := s) (v := .str x t) (T := "str") rfl, by simp [PySem.W.notFirst, S.str]⟩
  | lst h =>
    cases (show u = Value.ref _ from ry)
    obtain ⟨its, r, pl, _⟩ := I.list (.inl (.inl h))
    exact ⟨.type "list", looks_typeIs pl.isList.typeIs, by simp [PySem.W.notFirst, S.lst]⟩
  | tup h =>
    cases (show u = Value.ref _ from ry)
    obtain ⟨its, r, pl, _⟩ := I.tuple (.inl (.inl h))
    exact ⟨.type "tuple", looks_typeIs pl.typeIs, by simp [PySem.W.notFirst, S.tup]⟩
  | @dic a kvs h =>
    cases (show u = Value.ref _ from ry)
    obtain ⟨_, hS, vs, rel, hD⟩ := (show ObjOk X.prog X.w H s.heap a (.dK kvs) from I.hok a _ h)
    refine ⟨.type "dict", ?_, by simp [PySem.W.notFirst, S.dic]⟩
    obtain ⟨o, es, ep, h1, h2, _⟩ := hD
    exact looks_typeIs (s := s) (v := .ref a) ⟨o, h1, h2.1⟩
theorem op_eqOwnV {CX : CXT} {C f : Addr} {fd : FuncData} {ps : List Str} {n : Nat} {sp : Sp} {E : XK} (F : FnOk X.prog X.w X.K X.mg X.base CX n f fd ps sp) (N : NeC X.K C f) (S : NoSub X.K C) (hb : Binds X.K fd ps []) (hr : Room n X.A) (hx : Passes CX X E) :
    OpR X (compareOp .Eq) (rEqOwnV C sp E) := by
  intro pins s σ H x y v u Q I rx ry h
  obtain ⟨a, dx, fs, rfl, ha, oth, hsp⟩ := h
  cases (show v = Value.ref a from rx)
  obtain ⟨mA, J, _⟩ := ins_get I.hok ha
  obtain ⟨od, J, _⟩ := J.look
  obtain ⟨m, hF⟩ := I.fr
  obtain ⟨tb, hl, hn⟩ := oth_looks S I oth ry
  show wpAny (model X.prog X.w) X.A (richCompare .Eq (.ref a) u) (EP X pins σ Q) X.xe s
  have r2 : Vals [V.ref a, y] [Value.ref a, u] := .cons rfl (.cons ry .nil)
  have hlen := F.len _ _ _ _ hsp
  refine PySem.W.cmp_K (op := .Eq) hr.units0 hF I.ok.mod.kin J hl hn N.eq N.fn ?_
  refine wpAny_call (codeAny_mono (F.run X.A X.stack s H ⟨[.ref a, u], []⟩ [.ref a, u] [.ref a, y] _ E hr I.env0 (by
    have := hb s [.ref a, u] I.kIn (by simpa using hlen)
    simpa using this) r2 hsp) fun r s' hq => ?_)
  cases r with
  | error e => exact hx pins σ H s e s' I hq
  | ok fl =>
    cases fl with
    | ret w =>
      obtain ⟨z, H', I', rz, t, ez, q⟩ := I.after hq
      subst ez
      cases rz
      exact ⟨.bl t, H', I', rfl, q⟩
    | next => exact False.elim hq
    | brk => exact False.elim hq
    | cont => exact False.elim hq
end
end Pl
end L2
set_option Elab.async false
set_option linter.all false
set_option maxRecDepth 100000
set_option maxHeartbeats 8000000
namespace L2
namespace Pl
open PySem PySem.Spec PyProof.Rows
theorem pd_eqv : ∀ w ∈ wws, ∀ g ∈ srt4, ∀ n ∈ ([1, 2, 3] : List Int), ∀ w2 ∈ wws, ∀ g2 ∈ srt4, ∀ n2 ∈ ([1, 2, 3] : List Int),
    PyData.eqv (.tuple [.str w, .tuple (g.map PyData.str), .int n]) (.tuple [.str w2, .tuple (g2.map PyData.str), .int n2]) = (decide (w = w2) && (decide (g = g2) && decide (n = n2))) := by decide +kernel
theorem pd_shaped : ∀ w ∈ wws, ∀ g ∈ srt4, ∀ n ∈ ([1, 2, 3] : List Int), SeqAt.shaped (.tuple [.str w, .tuple (g.map PyData.str), .int n]) = true := by decide +kernel
theorem pd_same {p q : Pd} (h : p.Ok) (g : q.Ok) : PyData.eqv (pdD p) (pdD q) = p.same q := pd_eqv _ h.way _ h.gs _ h.n123 _ g.way _ g.gs _ g.n123
theorem pd_dp {K : PySem.W.Frag} {H : Hp} {p : Pd} {t g : Addr} (h1 : H t = some (.tup [.str p.way, .ref g, .int p.n])) (h2 : H g = some (.tup (sW p.gs))) : Dp K H (.ref t) (pdD p) :=
  .tup (.inl (.inl h1)) (.cons (.str _) (.cons (.tup (.inl (.inl h2)) dpW) (.cons (.int _) .nil)))
end Pl
end L2
set_option Elab.async false
set_option linter.all false
set_option maxRecDepth 100000
set_option maxHeartbeats 8000000
namespace L2
namespace Pl
open PySem PySem.Spec PyProof.Rows
theorem gs_rev {p : Pd} (h : ∃ ws, p.gs = srtG ws) : srtG p.gs.reverse = p.gs := by
  obtain ⟨ws, e⟩ := h
  have e2 : srtG p.gs = p.gs := by rw [e, srtG_srtG]
  rw [← e2]
  unfold srtG
  refine List.filter_congr fun g _ => ?_
  rw [Bool.eq_iff_iff, decide_eq_true_iff, decide_eq_true_iff, List.mem_reverse, ← srtG, e2]
/-- guards in the other sequence -/
theorem plan_rev {K : PySem.W.Frag} {H : Hp} {p : Pd} {t : Addr} (ok : p.Ok) (hs : ∃ ws, p.gs = srtG ws) (ht : H t = some (.tup (sW p.gs.reverse))) : PlanK K H (.str p.way) (.ref t) (.int p.n) (.inr p) := by
  have hs0 := hs
  obtain ⟨ws, e⟩ := hs
  have g := PlanK.good (K := K) (H := H) (wv := .str p.way) (gv := .ref t) (tv := .int p.n) (ws := p.gs.reverse) rfl ok.way rfl (.inr (.inl (.inl ht))) (by rw [List.length_reverse, e]; exact srtG_le) (fun x hx => by
    rw [List.mem_reverse, e] at hx
    exact srtG_sub x hx) ((List.reverse_perm _).nodup_iff.mpr (by rw [e]; exact srtG_nd)) rfl ok.n1 ok.n3
  rw [gs_rev hs0] at g
  exact g
theorem told_keep {H H' : Hp} {ts : List Addr} (h : ∀ t ∈ ts, ToldT H t) (m : Same H H') : ∀ t ∈ ts, ToldT H' t := fun t ht => (h t ht).same m
theorem pd1_ok : (⟨"letter", [], 1⟩ : Pd).Ok := ⟨by decide +kernel, by decide +kernel, by decide, by decide⟩
theorem pd2_ok : (⟨"key", ["once", "stamp"], 3⟩ : Pd).Ok := ⟨by decide +kernel, by decide +kernel, by decide, by decide⟩
theorem mem_cutA {x : Addr} {ts : List Addr} {n : Nat} (hn : n ≤ 1000) : cutV (ts.map V.ref) none (some (n : Int)) = (ts.take n).map V.ref := by
  unfold cutV
  have h0 : ¬ ((n : Int) < 0) := by omega
  simp only [HT.sIx, h0, if_false, List.drop_zero, Nat.sub_zero, Int.toNat_natCast, List.length_map]
  rw [← List.map_take]
  congr 1
  by_cases h : n ≤ ts.length
  · rw [Nat.min_eq_left h]
  · rw [Nat.min_eq_right (by omega), List.take_of_length_le (Nat.le_refl _), List.take_of_length_le (by omega)]
end Pl
end L2
namespace Bs
open PySem PySem.Spec PyProof.Rows L2 L2.Pl
section
variable {P : Program} {w : World} {K : PySem.W.Frag} {mg : Str → Option Value} {base : Heap} {f : Addr} {cdv : Value} {A : Around} {outer : List Env} {s : Shared} {H0 : Hp} {E : XK}
theorem ch_pairs {C CB : Addr} (G : Gn mg) (T : PlF K mg C) (M : PlM P w K mg base C CB) (S : NoSub K C) (hr : Room 5 (A.deeper (envOfC "law" (defScope sLaw) s.heap.objs.size f cdv))) :
    ∃ t, PSs (XL P w K mg base f cdv A outer s H0 E) [sL1 3, sL1 4] t ∧ ∀ (D : Ends) (H : Hp) (a aW aL aN so m : Addr) (ts : List Addr) (c4 c7 c8 c9 c10 c11 c12 c13 c14 c15 c16 c17 : Option V),
      H m = some (.lst (ts.map V.ref)) → ts.length ≤ 200 → (∀ t ∈ ts, ToldT H t) →
      (∀ H' m' c13 c14 c15 c16, Same H H' → D.nx (sg15 a aW aL aN so m' c4 c7 c8 c9 c10 c11 c12 c13 c14 c15 c16 c17) H') →
      t D (sg15 a aW aL aN so m c4 c7 c8 c9 c10 c11 c12 c13 c14 c15 c16 c17) H := by
  have mk_use : ∀ {H : Hp} {x dx : Addr} {wv gv tv : V} {p : Pd} {R : VK}, H x = none → H dx = none → dx ≠ x → PlanK K (upd (upd H dx (.own x)) x (.ins C dx [])) wv gv tv (.inr p) → (∀ H', Same H H' → PlAt C H' x p → R .non H') → spPlan K C CB [.ref x, wv, gv, tv] (upd (upd H dx (.own x)) x (.ins C dx [])) R E0 := fun {H x dx wv gv tv p R} nx ndx ne pk q =>
    ⟨upd H dx (.own x), x, dx, wv, gv, tv, .inr p, rfl, same_new ((upd_ne ne.symm).trans nx), (upd_ne ne.symm).trans nx, upd_same, pk, fun v er => (nomatch er), fun p' er' H3 m3 pb => by
      obtain rfl := Sum.inr.inj er'
      exact q H3 ((same_new ndx).trans m3) pb⟩
  obtain ⟨fI, dI, gI, mkI, oI, kI⟩ := M.ini
  obtain ⟨fQ, dQ, oQ, bQ, nQ⟩ := M.eq
  generalize spPlan K C CB = pI at oI mk_use
  have hr4 := hr.mono (j := 4) (by decide)
  have hr2 := hr.mono (j := 2) (by decide)
  refine ⟨_, pss_cons (ps_set (i := 6) scLaw.nd rfl (.inl rfl) (pe_op op_cat (pe_slice sl_list (pv 6) po_none (po_some pe_int)) (pe_lst (pa_cons (pe_tup (pa_cons pe_str (pa_cons (pe_tup pa_nil) (pa_cons pe_int pa_nil)))) (pa_cons (pe_tup (pa_cons pe_str (pa_cons (pe_tup (pa_cons pe_str (pa_cons pe_str pa_nil))) (pa_cons pe_int pa_nil)))) pa_nil)))))
    (pss_one (ps_for PassesOwn.never rfl (pi_list (pv 6)) (pg_name (i := 13) scLaw.nd rfl (.inl rfl))
      (pss_one (ps_for PassesOwn.never rfl (pi_list (pv 6)) (pg_name (i := 14) scLaw.nd rfl (.inl rfl))
        (pss_cons (ps_par (i := 15) (j := 16) (by rfl) scLaw.nd rfl rfl (by decide) rfl rfl (pa_cons (pe_makeK mkI oI hr4 (by rfl) T.gC kI passL (pa_cons (pe_ix ix_tup (pv 13) pe_int (fun _ _ => rfl)) (pa_cons (pe_revT (pe_ix ix_tup (pv 13) pe_int (fun _ _ => rfl))) pa_nil)) (pk_cons (pe_ix ix_tup (pv 13) pe_int (fun _ _ => rfl)) pk_nil))
            (pa_cons (pe_makeK mkI oI hr4 (by rfl) T.gC kI passL (pa_cons (pe_ix ix_tup (pv 14) pe_int (fun _ _ => rfl)) (pa_cons (pe_ix ix_tup (pv 14) pe_int (fun _ _ => rfl)) pa_nil)) (pk_cons (pe_ix ix_tup (pv 14) pe_int (fun _ _ => rfl)) pk_nil)) pa_nil)) (by rfl))
        (pss_one (ps_if (pt_cmpR op_ne (pe_cmpR (op_eqOwnV oQ nQ S bQ hr2 pass0) (pv 15) (pv 16) (by rfl)) (pe_cmpR (op_eqD hr.units) (pv 13) (pv 14) (by rfl)) (nomark _)) (pss_one (ps_ret pe_bl)) pss_nil))))))),
    fun D H a aW aL aN so m ts c4 c7 c8 c9 c10 c11 c12 c13 c14 c15 c16 c17 hm lm ht q => ?_⟩
  refine ⟨_, rfl, _, rfl, m, _, rfl, SqL.of hm, fun p1 hp1 => ?_⟩
  have m1 := same_new hp1 (o := .lst (cutV (ts.map V.ref) none (some 6)))
  have e1 : (upd H p1 (.lst (cutV (ts.map V.ref) none (some 6)))) p1 = some (.lst ((ts.take 6).map V.ref)) := by
    rw [upd_same]
    exact congrArg (fun z => some (HO.lst z)) (mem_cutA (x := 0) (n := 6) (by decide))
  generalize upd H p1 (.lst (cutV (ts.map V.ref) none (some 6))) = H1 at *
  refine ⟨by show 0 ≤ sizeLine; decide, fun t0 h0 => ⟨by show 3 ≤ sizeLine; decide, fun t1 h1 => ⟨by show 2 ≤ sizeLine; decide, fun t2 h2 => ⟨by show 3 ≤ sizeLine; decide, fun t3 h3 => ⟨by show 2 ≤ sizeLine; decide, fun l hl => ?_⟩⟩⟩⟩⟩
  have n0 := same_new h0 (o := .tup [])
  have n1 := same_new h1 (o := .tup [.str "letter", .ref t0, .int 1])
  have n2 := same_new h2 (o := .tup [.str "once", .str "stamp"])
  have n3 := same_new h3 (o := .tup [.str "key", .ref t2, .int 3])
  have n4 := same_new hl (o := .lst [.ref t1, .ref t3])
  have k1 : ToldT _ t1 := ToldT.same (⟨⟨"letter", [], 1⟩, t0, upd_same, n1 _ _ upd_same, pd1_ok, [], by decide +kernel⟩) ((n2.trans n3).trans n4)
  have k3 : ToldT _ t3 := ToldT.same (⟨⟨"key", ["once", "stamp"], 3⟩, t2, upd_same, n3 _ _ upd_same, pd2_ok, ["once", "stamp"], by decide +kernel⟩) n4
  have mm := (((n0.trans n1).trans n2).trans n3).trans n4
  have el := upd_same (H := (upd (upd (upd (upd H1 t0 (.tup [])) t1 (.tup [.str "letter", .ref t0, .int 1])) t2 (.tup [.str "once", .str "stamp"])) t3 (.tup [.str "key", .ref t2, .int 3]))) (a := l) (o := .lst [.ref t1, .ref t3])
  generalize upd (upd (upd (upd (upd H1 t0 (.tup [])) t1 (.tup [.str "letter", .ref t0, .int 1])) t2 (.tup [.str "once", .str "stamp"])) t3 (.tup [.str "key", .ref t2, .int 3])) l (.lst [.ref t1, .ref t3]) = H2 at *
  have m2 := m1.trans mm
  refine ⟨p1, l, _, _, rfl, rfl, mm _ _ e1, el, ?_, fun p2 hp2 => ?_⟩
  · rw [List.length_map, List.length_take, sizeLine_eq]
    show min 6 _ + 2 ≤ _
    omega
  have m3 := same_new hp2 (o := .lst ((ts.take 6).map V.ref ++ [.ref t1, .ref t3]))
  have e3 : (upd H2 p2 (.lst ((ts.take 6).map V.ref ++ [.ref t1, .ref t3]))) p2 = some (.lst ((ts.take 6 ++ [t1, t3]).map V.ref)) := by
    rw [upd_same, List.map_append]
    rfl
  have ht3 : ∀ t ∈ ts.take 6 ++ [t1, t3], ToldT (upd H2 p2 (.lst ((ts.take 6).map V.ref ++ [.ref t1, .ref t3]))) t := fun t h => by
    rcases List.mem_append.mp h with h | h
    · exact ((ht t (List.mem_of_mem_take h)).same m2).same m3
    · rcases List.mem_cons.mp h with h | h
      · rw [h]; exact k1.same m3
      · rw [List.mem_singleton.mp h]; exact k3.same m3
  have mH := m2.trans m3
  generalize upd H2 p2 (.lst ((ts.take 6).map V.ref ++ [.ref t1, .ref t3])) = HB at *
  generalize ts.take 6 ++ [t1, t3] = us at *
  have pick : ∀ {i : Nat} {y : V}, (us.map V.ref)[i]? = some y → ∃ t, y = .ref t ∧ t ∈ us := fun {i y} hi => by
    rw [List.getElem?_map] at hi
    cases e : us[i]? with
    | none => rw [e] at hi; cases hi
    | some u => rw [e] at hi; exact ⟨u, (Option.some.inj hi).symm, List.mem_of_getElem? e⟩
  refine ⟨_, rfl, p2, rfl, ⟨_, SqL.of e3⟩, for_list (K := K) (a := p2) (xs := us.map V.ref) (fun i σ H' => ∃ c13 c14 c15 c16, σ = sg15 a aW aL aN so p2 c4 c7 c8 c9 c10 c11 c12 c13 c14 c15 c16 c17 ∧ Same HB H')
    ⟨_, _, _, _, rfl, Same.refl _⟩ (fun i σ H' _ ⟨_, _, _, _, _, n⟩ => SqL.of (n _ _ e3)) ?_ ?_⟩
  · rintro i y σ H' hi ⟨c13, c14, c15, c16, rfl, n⟩
    obtain ⟨one, rfl, i1⟩ := pick hi
    refine ⟨_, rfl, p2, rfl, ⟨_, SqL.of (n _ _ e3)⟩, for_list (K := K) (a := p2) (xs := us.map V.ref) (fun j σ H' => ∃ c14 c15 c16, σ = sg15 a aW aL aN so p2 c4 c7 c8 c9 c10 c11 c12 (some (.ref one)) c14 c15 c16 c17 ∧ Same HB H')
      ⟨_, _, _, rfl, n⟩ (fun j σ H' _ ⟨_, _, _, _, n⟩ => SqL.of (n _ _ e3)) ?_ ?_⟩
    · rintro j y σ H'' hj ⟨c14, c15, c16, rfl, n⟩
      obtain ⟨two, rfl, i2⟩ := pick hj
      obtain ⟨po, go, o1, o2, o3, o4⟩ := (ht3 one i1).same n
      obtain ⟨pt, gt, q1, q2, q3, q4⟩ := (ht3 two i2).same n
      refine ⟨_, rfl, one, _, 0, .str po.way, rfl, rfl, .inl (.inl o1), atI_nat (j := 0) rfl, _, rfl, one, _, 1, .ref go, rfl, rfl, .inl (.inl o1), atI_nat (j := 1) rfl, go, _, rfl, .inl (.inl o2), fun r hr1 => ?_⟩
      have a1 := same_new hr1 (o := .tup (sW po.gs).reverse)
      have ar : (upd H'' r (.tup (sW po.gs).reverse)) r = some (.tup (sW po.gs.reverse)) := by
        rw [upd_same]
        show _ = some (HO.tup (po.gs.reverse.map V.str))
        rw [List.map_reverse]
      generalize upd H'' r (.tup (sW po.gs).reverse) = H3 at *
      refine ⟨_, rfl, one, _, 2, .int po.n, rfl, rfl, .inl (.inl (a1 _ _ o1)), atI_nat (j := 2) rfl, rfl, rfl, fun x dx nx ndx ne => mk_use nx ndx ne (plan_rev o3 o4 (((same_new ndx).trans (same_new ((upd_ne ne.symm).trans nx))) _ _ ar)) fun H4 b1 pa => ⟨rfl, ?_⟩⟩
      have n4 := a1.trans b1
      refine ⟨_, rfl, two, _, 0, .str pt.way, rfl, rfl, .inl (.inl (n4 _ _ q1)), atI_nat (j := 0) rfl, _, rfl, two, _, 1, .ref gt, rfl, rfl, .inl (.inl (n4 _ _ q1)), atI_nat (j := 1) rfl, _, rfl, two, _, 2, .int pt.n, rfl, rfl, .inl (.inl (n4 _ _ q1)), atI_nat (j := 2) rfl, rfl, rfl, fun y dy ny ndy ney => mk_use ny ndy ney (plan_again q3 q4 ((n4.trans ((same_new ndy).trans (same_new ((upd_ne ney.symm).trans ny)))) _ _ q2)) fun H5 b2 pb => ⟨rfl, ?_⟩⟩
      have n5 := n4.trans b2
      refine ⟨_, _, rfl, ?_⟩
      have pa5 := pa.same b2
      obtain ⟨ddx, tx, hx, _⟩ := id pa5
      obtain ⟨ddy, ty, hy, _⟩ := id pb
      refine ⟨_, rfl, _, rfl, x, ddx, _, rfl, hx, .own hy, x, .ref y, po, rfl, pa5, o3, .inl ⟨y, pt, rfl, pb, q3, po.same pt, rfl, ?_⟩⟩
      refine ⟨_, rfl, _, rfl, _, _, pd_dp (n5 _ _ o1) (n5 _ _ o2), pd_dp (n5 _ _ q1) (n5 _ _ q2), pd_shaped _ o3.way _ o3.gs _ o3.n123, pd_shaped _ q3.way _ q3.gs _ q3.n123, ?_⟩
      show rNe (V.bl (po.same pt)) (V.bl (PyData.eqv (pdD po) (pdD pt))) H5 _
      rw [pd_same o3 q3]
      exact ⟨rfl, _, rfl, iteNS rfl ⟨_, _, _, rfl, n.trans n5⟩⟩
    · rintro σ H'' ⟨c14, c15, c16, rfl, n⟩
      exact ⟨_, _, _, _, rfl, n⟩
  · rintro σ H' ⟨c13, c14, c15, c16, rfl, n⟩
    exact q _ _ _ _ _ _ (mH.trans n)
end
end Bs
set_option Elab.async false
set_option linter.all false
set_option maxRecDepth 100000
set_option maxHeartbeats 8000000
namespace L2
namespace Pl
open PySem PySem.Spec PyProof.Rows
/-- what stands between two starts -/
structure AtI (G0 : Hp) (wl nl : Addr) (n : Nat) (H : Hp) : Prop where
  old : Same G0 H
  w : LateL H wl n
  nn : LateL H nl n
end Pl
end L2
namespace Bs
open PySem PySem.Spec PyProof.Rows L2 L2.Pl
section
variable {P : Program} {w : World} {K : PySem.W.Frag} {mg : Str → Option Value} {base : Heap} {f : Addr} {cdv : Value} {A : Around} {outer : List Env} {s : Shared} {H0 : Hp} {E : XK}
theorem ch_start {C CB : Addr} (G : Gn mg) (hSys : SysK K) (T : PlF K mg C) (M : PlM P w K mg base C CB) (S : NoSub K C) (hg : A.guards = some []) (hr : Room 5 (A.deeper (envOfC "law" (defScope sLaw) s.heap.objs.size f cdv))) (hSo : Has P w K mg base CX0 "_law_source" 1 ["script", "start"] (spSource K)) (hP : Has P w K mg base CX0 "_law_pick" 2 ["source", "things"] (spPick K)) (hD : Has P w K mg base CX0 "_law_due" 2 ["way", "guards", "number"] (spDue K))
    (hT : ∃ fT dT, FnG P w K mg base CX0 5 fT dT ["way", "guards", "number"] (spTold K) ∧ L2.Binds K dT ["way", "guards", "number"] [] ∧ mg "_law_told" = some (.ref fT) ∧ PySem.W.keepIn K (.ref fT) = true) :
    ∃ t, PSs (XL P w K mg base f cdv A outer s H0 E) [sL1 0, sL1 1, sL1 2, sL1 3, sL1 4] t ∧ ∀ (D : Ends) (G0 H : Hp) (a aW aL aN wl nl : Addr) (wsV lsV nsV : List V) (n : Nat) (ns : List Int) (st : Nat) (c5 c6 c7 c8 c9 c10 c11 c12 c13 c14 c15 c16 c17 : Option V),
      Cst K G0 aW aL aN wl nl wsV lsV nsV → AtI G0 wl nl n H → n ≤ 100 → SqL K G0 a (ns.map V.int) → ns.length ≤ 63 → (∀ z ∈ ns, Builtin.Int.intBits z ≤ 1048576) → st < 100 →
      (∀ H' c5 c6 c7 c8 c9 c10 c11 c12 c13 c14 c15 c16, AtI G0 wl nl (n + 30) H' → D.nx [some (.ref a), some (.ref aW), some (.ref aL), some (.ref aN), some (.int (st : Int)), c5, c6, c7, c8, c9, c10, c11, c12, c13, c14, c15, c16, c17] H') →
      t D [some (.ref a), some (.ref aW), some (.ref aL), some (.ref aN), some (.int (st : Int)), c5, c6, c7, c8, c9, c10, c11, c12, c13, c14, c15, c16, c17] H := by
  obtain ⟨fS, dS, oS, bS, gS, kS⟩ := hSo.ex
  have hr1 := hr.mono (j := 1) (by decide)
  obtain ⟨tT, pT, rT⟩ := ch_told (outer := outer) (H0 := H0) (E := E) G hSys hg hr hD hT
  obtain ⟨tD, pD, rD⟩ := ch_draws G hr pT hP
  obtain ⟨tP, pP, rP⟩ := ch_pairs (outer := outer) (H0 := H0) (E := E) G T M S hr
  refine ⟨_, pss_cons (ps_set (i := 5) scLaw.nd rfl (.inl rfl) (pe_call oS hr1 (by rfl) gS kS bS .nil pass0 (pa_cons (pv 0) (pa_cons (pv 4) pa_nil))))
    (pss_cons (ps_set (i := 6) scLaw.nd rfl (.inl rfl) (pe_lst pa_nil))
    (pss_cons (ps_for PassesOwn.never rfl (pi_range1 (by rfl) G.range (pa_cons pe_int pa_nil)) (pg_name (i := 7) scLaw.nd rfl (.inl rfl)) pD) pP)),
    fun D G0 H a aW aL aN wl nl wsV lsV nsV n ns st c5 c6 c7 c8 c9 c10 c11 c12 c13 c14 c15 c16 c17 C I hn hA hlen hbits hst q => ?_⟩
  refine ⟨_, rfl, _, rfl, a, ns, st, rfl, I.old.seq hA, hlen, hbits, hst, fun so own mixed hso => ⟨by show 0 ≤ sizeLine; decide, fun m hm => ?_⟩⟩
  have s1 := same_new hso (o := .lst [.int own, .int mixed])
  have s2 := same_new hm (o := .lst [])
  obtain ⟨xs, w1, w2⟩ := id I.w
  obtain ⟨ys, v1, v2⟩ := id I.nn
  have hso0 : G0 so = none := I.old.free hso
  have hm0 : G0 m = none := (I.old.trans s1).free hm
  have e1 : (upd (upd H so (.lst [.int own, .int mixed])) m (.lst [])) so = some (.lst [.int own, .int mixed]) := s2 _ _ upd_same
  have I0 : TI G0 wl nl so m n [] (upd (upd H so (.lst [.int own, .int mixed])) m (.lst [])) := by
    refine ⟨(I.old.trans s1).trans s2, (I.w.same s1).same s2, (I.nn.same s1).same s2, ⟨own, mixed, e1⟩, upd_same, fun t ht => (nomatch ht), hso0, hm0, ?_, ?_, ?_, ?_, ?_⟩
    · intro z; subst z; rw [hso] at w1; cases w1
    · intro z; subst z; rw [hso] at v1; cases v1
    · intro z; subst z; rw [upd_same] at hm; cases hm
    · intro z; subst z; rw [s1 _ _ w1] at hm; cases hm
    · intro z; subst z; rw [s1 _ _ v1] at hm; cases hm
  refine ⟨30, rfl, by decide, by decide, for_range (n := 30) (fun i σ H' => ∃ c7 c8 c9 c10 c11 c12 c13 c14 c15 c16 ts, σ = sg15 a aW aL aN so m (some (.int (st : Int))) c7 c8 c9 c10 c11 c12 c13 c14 c15 c16 c17 ∧ TI G0 wl nl so m (n + i) ts H' ∧ ts.length ≤ i) ⟨_, _, _, _, _, _, _, _, _, _, [], rfl, I0, Nat.le_refl _⟩ ?_ ?_⟩
  · rintro i σ H' hi ⟨c7, c8, c9, c10, c11, c12, c13, c14, c15, c16, ts, rfl, J, lt⟩
    have hi30 : i < 30 := by simpa using hi
    refine rD _ G0 H' a aW aL aN wl nl so m wsV lsV nsV (n + i) ts _ _ _ _ _ _ _ _ _ _ _ _ C J fun H2 wv tv gv J2 hw ht lg og => ?_
    refine rT _ G0 H2 a aW aL aN wl nl so m wsV lsV nsV (n + i) ts wv tv gv _ _ _ _ _ _ _ _ _ C J2 (by omega) (by omega) hw ht lg og fun H3 c11 c12 ts' J3 l3 => ?_
    exact ⟨_, _, _, _, _, _, _, _, _, _, ts', rfl, J3, by omega⟩
  · rintro σ H' ⟨c7, c8, c9, c10, c11, c12, c13, c14, c15, c16, ts, rfl, J, lt⟩
    have hl : ts.length ≤ 30 := by simpa using lt
    refine rP D H' a aW aL aN so m ts _ _ _ _ _ _ _ _ _ _ _ _ J.mm (by omega) J.told fun H2 m' c13 c14 c15 c16 e => ?_
    have J' : AtI G0 wl nl (n + 30) H' := ⟨J.old, by simpa using J.w, by simpa using J.nn⟩
    exact q _ _ _ _ _ _ _ _ _ _ _ _ _ ⟨J'.old.trans e, J'.w.same e, J'.nn.same e⟩
end
end Bs
set_option Elab.async false
set_option linter.all false
set_option maxRecDepth 100000
set_option maxHeartbeats 8000000
namespace L2
namespace Pl
open PySem PySem.Spec PyProof.Rows
section
variable {K : PySem.W.Frag} {H : Hp}
theorem datF {us : List V} (h : us.all flatOk = true) : ∀ x ∈ us, DatV K H 40 2 x := fun x hx => (DatV.flat (List.all_eq_true.mp h x hx)).more (by decide) (by decide)
def entOk : V → Bool
  | .str x => (PyData.str x).canLay0 && decide ((PyData.str x).depth ≤ 10)
  | .non => PyData.none.canLay0 && decide (PyData.none.depth ≤ 10)
  | _ => false
theorem entF {us : List V} (h : us.all entOk = true) : ∀ u ∈ us, EntV K H u := fun u hu => by
  have h := List.all_eq_true.mp h u hu
  cases u with
  | non =>
    unfold entOk at h
    rw [Bool.and_eq_true, decide_eq_true_iff] at h
    exact ⟨.inl rfl, .none, fun _ _ => .non, h.1, h.2⟩
  | str x =>
    unfold entOk at h
    rw [Bool.and_eq_true, decide_eq_true_iff] at h
    exact ⟨.inl rfl, .str x, fun _ _ => .str x, h.1, h.2⟩
  | _ => cases h
def gwsOk (ws : List Str) : Bool := decide (ws.length ≤ 3) && ws.all (fun x => decide (x ∈ gws)) && (sW ws).all flatOk
def badOk (us : List V) : Bool := decide (us.length ≤ 3) && us.all entOk && !us.all (fun u => inV u (sW gws)) && us.all flatOk
theorem gws_us {ws : List Str} (h : gwsOk ws = true) : UsK K H (sW ws) ∧ ∀ x ∈ sW ws, DatV K H 40 2 x := by
  unfold gwsOk at h
  simp only [Bool.and_eq_true, decide_eq_true_iff] at h
  exact ⟨.txt rfl h.1.1 fun x hx => of_decide_eq_true (List.all_eq_true.mp h.1.2 x hx), datF h.2⟩
theorem bad_us {us : List V} (h : badOk us = true) : UsK K H us ∧ ∀ x ∈ us, DatV K H 40 2 x := by
  unfold badOk at h
  simp only [Bool.and_eq_true, decide_eq_true_iff, Bool.not_eq_true'] at h
  exact ⟨.bad h.1.1.1 (entF h.1.1.2) h.1.2, datF h.2⟩
theorem lotGL {a : Addr} (ws : List Str) (h : H a = some (.lst (sW ws))) (g : gwsOk ws = true) : LotV K H (.ref a) := .lst rfl h (gws_us g).1 (gws_us g).2
theorem lotGT {a : Addr} (ws : List Str) (h : H a = some (.tup (sW ws))) (g : gwsOk ws = true) : LotV K H (.ref a) := .tup rfl h (gws_us g).1 (gws_us g).2
theorem lotBL {a : Addr} (us : List V) (h : H a = some (.lst us)) (g : badOk us = true) : LotV K H (.ref a) := .lst rfl h (bad_us g).1 (bad_us g).2
theorem lotBT {a : Addr} (us : List V) (h : H a = some (.tup us)) (g : badOk us = true) : LotV K H (.ref a) := .tup rfl h (bad_us g).1 (bad_us g).2
theorem lotNest {a b : Addr} (h : H a = some (.lst [.ref b])) (hb : H b = some (.lst [.str "once"])) : LotV K H (.ref a) := by
  refine .lst rfl h (.bad (by show 1 ≤ 3; decide) (fun u hu => ?_) ?_) fun x hx => ?_
  · rw [List.mem_singleton.mp hu]
    exact ⟨.inr ⟨b, rfl, .inl ⟨_, SqL.of hb⟩⟩, .list [.str "once"], fun H' m => .lst (SqL.of (m _ _ hb)) (.cons (.str _) .nil), by decide +kernel, by decide +kernel⟩
  · show (inV (.ref b) (sW gws) && true) = false
    rw [inV_ref]
    rfl
  · rw [List.mem_singleton.mp hx]
    exact (DatV.lst hb (n := 8) (e := 0) fun y hy => by
      rw [List.mem_singleton.mp hy]
      exact .flat (by decide +kernel)).more (by decide) (by decide)
/-- flat ways -/
theorem wayF {v : V} (f : flatV v = true) (n : inV v (sW wws) = false) (o : flatOk v = true) : WayV K H v := .flat (.flat f n) o
theorem wayT {z : Str} (h : z ∈ wws) (o : flatOk (.str z) = true) : WayV K H (.str z) := .flat (.good h) o
theorem del2 {H : Hp} {a b p : Addr} {o : HO} (n1 : a ≠ p) (n2 : b ≠ p) (h : H p = some o) : del (del H a) b p = some o := del_of (Ne.symm n2) (del_of (Ne.symm n1) h)
end
end Pl
end L2
set_option Elab.async false
set_option linter.all false
set_option maxRecDepth 100000
set_option maxHeartbeats 8000000
namespace L2
namespace Pl
open PySem PySem.Spec PyProof.Rows
theorem del_none {H : Hp} (a b : Addr) : del (del H a) b a = none := by
  by_cases e : a = b
  · rw [e, del_same]
  · rw [del_ne e, del_same]
end Pl
end L2
namespace Bs
open PySem PySem.Spec PyProof.Rows L2 L2.Pl
abbrev sL0 (i : Nat) : Stmt := nth (defBody sLaw) i
section
variable {P : Program} {w : World} {K : PySem.W.Frag} {mg : Str → Option Value} {base : Heap} {f : Addr} {cdv : Value} {A : Around} {outer : List Env} {s : Shared} {H0 : Hp} {E : XK}
theorem ch_prelude {rest : List Stmt} {u : TS} (hu : PSs (XL P w K mg base f cdv A outer s H0 E) rest u) :
    ∃ t, PSs (XL P w K mg base f cdv A outer s H0 E) (sL0 0 :: sL0 1 :: sL0 2 :: sL0 3 :: sL0 4 :: sL0 5 :: rest) t ∧ ∀ (D : Ends) (H : Hp) (a : Addr) (c1 c2 c3 c4 c5 c6 c7 c8 c9 c10 c11 c12 c13 c14 c15 c16 c17 : Option V),
      (∀ H' G0 aW aL aN wl nl wsV lsV nsV, Same H G0 → Cst K G0 aW aL aN wl nl wsV lsV nsV → AtI G0 wl nl 1 H' → u D [some (.ref a), some (.ref aW), some (.ref aL), some (.ref aN), c4, c5, c6, c7, c8, c9, c10, c11, c12, c13, c14, c15, c16, c17] H') →
      t D [some (.ref a), c1, c2, c3, c4, c5, c6, c7, c8, c9, c10, c11, c12, c13, c14, c15, c16, c17] H := by
  refine ⟨_, pss_cons (ps_set (i := 1) scLaw.nd rfl (.inl rfl) (pe_lst (pa_cons pe_str (pa_cons pe_str (pa_cons pe_str (pa_cons pe_str (pa_cons pe_str (pa_cons pe_str (pa_cons pe_non (pa_cons pe_int (pa_cons (pe_lst (pa_cons pe_str pa_nil)) (pa_cons (pe_tup (pa_cons pe_str pa_nil)) (pa_cons pe_dnewK (pa_cons pe_bl pa_nil))))))))))))))
    (pss_cons (ps_set (i := 1) scLaw.nd rfl (.inl rfl) (pe_op op_cat (pv 1) (pe_lst (pa_cons pe_str (pa_cons pe_str (pa_cons pe_str (pa_cons pe_str pa_nil)))))))
    (pss_cons (ps_set (i := 2) scLaw.nd rfl (.inl rfl) (pe_lst (pa_cons (pe_tup pa_nil) (pa_cons (pe_lst pa_nil) (pa_cons (pe_lst (pa_cons pe_str pa_nil)) (pa_cons (pe_lst (pa_cons pe_str pa_nil)) (pa_cons (pe_lst (pa_cons pe_str (pa_cons pe_str pa_nil))) (pa_cons (pe_tup (pa_cons pe_str (pa_cons pe_str pa_nil))) (pa_cons (pe_lst (pa_cons pe_str (pa_cons pe_str pa_nil))) (pa_cons pe_non (pa_cons pe_str (pa_cons pe_dnewK (pa_cons pe_int pa_nil)))))))))))))
    (pss_cons (ps_set (i := 2) scLaw.nd rfl (.inl rfl) (pe_op op_cat (pv 2) (pe_lst (pa_cons (pe_lst (pa_cons pe_str pa_nil)) (pa_cons (pe_lst (pa_cons pe_non pa_nil)) (pa_cons (pe_lst (pa_cons (pe_lst (pa_cons pe_str pa_nil)) pa_nil)) (pa_cons (pe_tup (pa_cons pe_str (pa_cons pe_str pa_nil))) (pa_cons (pe_lst (pa_cons pe_str (pa_cons pe_str (pa_cons pe_str pa_nil)))) (pa_cons (pe_tup (pa_cons pe_str pa_nil)) pa_nil)))))))))
    (pss_cons (ps_set (i := 2) scLaw.nd rfl (.inl rfl) (pe_op op_cat (pv 2) (pe_lst (pa_cons (pe_lst (pa_cons pe_str (pa_cons pe_str pa_nil))) (pa_cons (pe_lst (pa_cons pe_str (pa_cons pe_str pa_nil))) (pa_cons (pe_tup (pa_cons pe_str (pa_cons pe_non pa_nil))) (pa_cons (pe_lst (pa_cons pe_str (pa_cons pe_str (pa_cons pe_str pa_nil)))) (pa_cons (pe_tup (pa_cons pe_str pa_nil)) pa_nil))))))))
    (pss_cons (ps_set (i := 3) scLaw.nd rfl (.inl rfl) (pe_lst (pa_cons pe_int (pa_cons pe_int (pa_cons pe_int (pa_cons pe_int (pa_cons pe_int (pa_cons pe_bl (pa_cons pe_bl (pa_cons pe_non (pa_cons pe_str (pa_cons (pe_lst (pa_cons pe_int pa_nil)) (pa_cons (pe_op op_sub pe_int pe_int) (pa_cons (pe_op op_pow pe_int pe_int) pa_nil))))))))))))))
    (hu)))))), fun D H a c1 c2 c3 c4 c5 c6 c7 c8 c9 c10 c11 c12 c13 c14 c15 c16 c17 q => ?_⟩
  refine ⟨by show 1 ≤ sizeLine; decide, fun p1 hp1 => ?_⟩
  have hW0 : H p1 = none := (Same.refl H).free hp1
  have s1 := same_new hp1 (o := .lst [.str "key"])
  have f1 : (upd H p1 (.lst [.str "key"])) p1 = some (.lst [.str "key"]) := upd_same
  generalize upd H p1 (.lst [.str "key"]) = H1 at *
  have fw := f1
  refine ⟨by show 1 ≤ sizeLine; decide, fun p2 hp2 => ?_⟩
  have nw2 : p1 ≠ p2 := ne_of_none fw hp2
  have s2 := same_new hp2 (o := .tup [.str "key"])
  have f2 : (upd H1 p2 (.tup [.str "key"])) p2 = some (.tup [.str "key"]) := upd_same
  generalize upd H1 p2 (.tup [.str "key"]) = H2 at *
  have fw := s2 _ _ fw
  refine fun p3 hp3 => ?_
  have nw3 : p1 ≠ p3 := ne_of_none fw hp3
  have s3 := same_new hp3 (o := .dK [])
  have f3 : (upd H2 p3 (.dK [])) p3 = some (.dK []) := upd_same
  generalize upd H2 p3 (.dK []) = H3 at *
  have fw := s3 _ _ fw
  refine ⟨by show 12 ≤ sizeLine; decide, fun p4 hp4 => ?_⟩
  have nw4 : p1 ≠ p4 := ne_of_none fw hp4
  have s4 := same_new hp4 (o := .lst [.str "letter", .str "key", .str "all", .str "letter", .str "Key", .str "", .non, .int 5, .ref p1, .ref p2, .ref p3, .bl true])
  have f4 : (upd H3 p4 (.lst [.str "letter", .str "key", .str "all", .str "letter", .str "Key", .str "", .non, .int 5, .ref p1, .ref p2, .ref p3, .bl true])) p4 = some (.lst [.str "letter", .str "key", .str "all", .str "letter", .str "Key", .str "", .non, .int 5, .ref p1, .ref p2, .ref p3, .bl true]) := upd_same
  generalize upd H3 p4 (.lst [.str "letter", .str "key", .str "all", .str "letter", .str "Key", .str "", .non, .int 5, .ref p1, .ref p2, .ref p3, .bl true]) = H4 at *
  have fw := s4 _ _ fw
  refine ⟨_, rfl, by show 4 ≤ sizeLine; decide, fun p5 hp5 => ?_⟩
  have nw5 : p1 ≠ p5 := ne_of_none fw hp5
  have s5 := same_new hp5 (o := .lst [.str "keys", .str "once", .str "a", .str "letters"])
  have f5 : (upd H4 p5 (.lst [.str "keys", .str "once", .str "a", .str "letters"])) p5 = some (.lst [.str "keys", .str "once", .str "a", .str "letters"]) := upd_same
  generalize upd H4 p5 (.lst [.str "keys", .str "once", .str "a", .str "letters"]) = H5 at *
  have fw := s5 _ _ fw
  refine ⟨p4, p5, _, _, rfl, rfl, (s5 _ _ (f4)), f5, by rw [sizeLine_eq]; show 12 + 4 ≤ 16777216; decide, fun p6 hp6 => ?_⟩
  have nw6 : p1 ≠ p6 := ne_of_none fw hp6
  have s6 := same_new hp6 (o := .lst ([.str "letter", .str "key", .str "all", .str "letter", .str "Key", .str "", .non, .int 5, .ref p1, .ref p2, .ref p3, .bl true] ++ [.str "keys", .str "once", .str "a", .str "letters"]))
  have f6 : (upd H5 p6 (.lst ([.str "letter", .str "key", .str "all", .str "letter", .str "Key", .str "", .non, .int 5, .ref p1, .ref p2, .ref p3, .bl true] ++ [.str "keys", .str "once", .str "a", .str "letters"]))) p6 = some (.lst [.str "letter", .str "key", .str "all", .str "letter", .str "Key", .str "", .non, .int 5, .ref p1, .ref p2, .ref p3, .bl true, .str "keys", .str "once", .str "a", .str "letters"]) := upd_same
  generalize upd H5 p6 (.lst ([.str "letter", .str "key", .str "all", .str "letter", .str "Key", .str "", .non, .int 5, .ref p1, .ref p2, .ref p3, .bl true] ++ [.str "keys", .str "once", .str "a", .str "letters"])) = H6 at *
  have fw := s6 _ _ fw
  refine ⟨by show 0 ≤ sizeLine; decide, fun p7 hp7 => ?_⟩
  have nw7 : p1 ≠ p7 := ne_of_none fw hp7
  have s7 := same_new hp7 (o := .tup [])
  have f7 : (upd H6 p7 (.tup [])) p7 = some (.tup []) := upd_same
  generalize upd H6 p7 (.tup []) = H7 at *
  have fw := s7 _ _ fw
  refine ⟨by show 0 ≤ sizeLine; decide, fun p8 hp8 => ?_⟩
  have nw8 : p1 ≠ p8 := ne_of_none fw hp8
  have s8 := same_new hp8 (o := .lst [])
  have f8 : (upd H7 p8 (.lst [])) p8 = some (.lst []) := upd_same
  generalize upd H7 p8 (.lst []) = H8 at *
  have fw := s8 _ _ fw
  refine ⟨by show 1 ≤ sizeLine; decide, fun p9 hp9 => ?_⟩
  have nw9 : p1 ≠ p9 := ne_of_none fw hp9
  have s9 := same_new hp9 (o := .lst [.str "once"])
  have f9 : (upd H8 p9 (.lst [.str "once"])) p9 = some (.lst [.str "once"]) := upd_same
  generalize upd H8 p9 (.lst [.str "once"]) = H9 at *
  have fw := s9 _ _ fw
  refine ⟨by show 1 ≤ sizeLine; decide, fun p10 hp10 => ?_⟩
  have nw10 : p1 ≠ p10 := ne_of_none fw hp10
  have s10 := same_new hp10 (o := .lst [.str "stamp"])
  have f10 : (upd H9 p10 (.lst [.str "stamp"])) p10 = some (.lst [.str "stamp"]) := upd_same
  generalize upd H9 p10 (.lst [.str "stamp"]) = H10 at *
  have fw := s10 _ _ fw
  refine ⟨by show 2 ≤ sizeLine; decide, fun p11 hp11 => ?_⟩
  have nw11 : p1 ≠ p11 := ne_of_none fw hp11
  have s11 := same_new hp11 (o := .lst [.str "stamp", .str "once"])
  have f11 : (upd H10 p11 (.lst [.str "stamp", .str "once"])) p11 = some (.lst [.str "stamp", .str "once"]) := upd_same
  generalize upd H10 p11 (.lst [.str "stamp", .str "once"]) = H11 at *
  have fw := s11 _ _ fw
  refine ⟨by show 2 ≤ sizeLine; decide, fun p12 hp12 => ?_⟩
  have nw12 : p1 ≠ p12 := ne_of_none fw hp12
  have s12 := same_new hp12 (o := .tup [.str "once", .str "stamp"])
  have f12 : (upd H11 p12 (.tup [.str "once", .str "stamp"])) p12 = some (.tup [.str "once", .str "stamp"]) := upd_same
  generalize upd H11 p12 (.tup [.str "once", .str "stamp"]) = H12 at *
  have fw := s12 _ _ fw
  refine ⟨by show 2 ≤ sizeLine; decide, fun p13 hp13 => ?_⟩
  have nw13 : p1 ≠ p13 := ne_of_none fw hp13
  have s13 := same_new hp13 (o := .lst [.str "once", .str "once"])
  have f13 : (upd H12 p13 (.lst [.str "once", .str "once"])) p13 = some (.lst [.str "once", .str "once"]) := upd_same
  generalize upd H12 p13 (.lst [.str "once", .str "once"]) = H13 at *
  have fw := s13 _ _ fw
  refine fun p14 hp14 => ?_
  have nw14 : p1 ≠ p14 := ne_of_none fw hp14
  have s14 := same_new hp14 (o := .dK [])
  have f14 : (upd H13 p14 (.dK [])) p14 = some (.dK []) := upd_same
  generalize upd H13 p14 (.dK []) = H14 at *
  have fw := s14 _ _ fw
  refine ⟨by show 11 ≤ sizeLine; decide, fun p15 hp15 => ?_⟩
  have nw15 : p1 ≠ p15 := ne_of_none fw hp15
  have s15 := same_new hp15 (o := .lst [.ref p7, .ref p8, .ref p9, .ref p10, .ref p11, .ref p12, .ref p13, .non, .str "once", .ref p14, .int 5])
  have f15 : (upd H14 p15 (.lst [.ref p7, .ref p8, .ref p9, .ref p10, .ref p11, .ref p12, .ref p13, .non, .str "once", .ref p14, .int 5])) p15 = some (.lst [.ref p7, .ref p8, .ref p9, .ref p10, .ref p11, .ref p12, .ref p13, .non, .str "once", .ref p14, .int 5]) := upd_same
  generalize upd H14 p15 (.lst [.ref p7, .ref p8, .ref p9, .ref p10, .ref p11, .ref p12, .ref p13, .non, .str "once", .ref p14, .int 5]) = H15 at *
  have fw := s15 _ _ fw
  refine ⟨_, rfl, by show 1 ≤ sizeLine; decide, fun p16 hp16 => ?_⟩
  have nw16 : p1 ≠ p16 := ne_of_none fw hp16
  have s16 := same_new hp16 (o := .lst [.str "late"])
  have f16 : (upd H15 p16 (.lst [.str "late"])) p16 = some (.lst [.str "late"]) := upd_same
  generalize upd H15 p16 (.lst [.str "late"]) = H16 at *
  have fw := s16 _ _ fw
  refine ⟨by show 1 ≤ sizeLine; decide, fun p17 hp17 => ?_⟩
  have nw17 : p1 ≠ p17 := ne_of_none fw hp17
  have s17 := same_new hp17 (o := .lst [.non])
  have f17 : (upd H16 p17 (.lst [.non])) p17 = some (.lst [.non]) := upd_same
  generalize upd H16 p17 (.lst [.non]) = H17 at *
  have fw := s17 _ _ fw
  refine ⟨by show 1 ≤ sizeLine; decide, fun p18 hp18 => ?_⟩
  have nw18 : p1 ≠ p18 := ne_of_none fw hp18
  have s18 := same_new hp18 (o := .lst [.str "once"])
  have f18 : (upd H17 p18 (.lst [.str "once"])) p18 = some (.lst [.str "once"]) := upd_same
  generalize upd H17 p18 (.lst [.str "once"]) = H18 at *
  have fw := s18 _ _ fw
  refine ⟨by show 1 ≤ sizeLine; decide, fun p19 hp19 => ?_⟩
  have nw19 : p1 ≠ p19 := ne_of_none fw hp19
  have s19 := same_new hp19 (o := .lst [.ref p18])
  have f19 : (upd H18 p19 (.lst [.ref p18])) p19 = some (.lst [.ref p18]) := upd_same
  generalize upd H18 p19 (.lst [.ref p18]) = H19 at *
  have fw := s19 _ _ fw
  refine ⟨by show 2 ≤ sizeLine; decide, fun p20 hp20 => ?_⟩
  have nw20 : p1 ≠ p20 := ne_of_none fw hp20
  have s20 := same_new hp20 (o := .tup [.str "stamp", .str "stamp"])
  have f20 : (upd H19 p20 (.tup [.str "stamp", .str "stamp"])) p20 = some (.tup [.str "stamp", .str "stamp"]) := upd_same
  generalize upd H19 p20 (.tup [.str "stamp", .str "stamp"]) = H20 at *
  have fw := s20 _ _ fw
  refine ⟨by show 3 ≤ sizeLine; decide, fun p21 hp21 => ?_⟩
  have nw21 : p1 ≠ p21 := ne_of_none fw hp21
  have s21 := same_new hp21 (o := .lst [.str "once", .str "stamp", .str "once"])
  have f21 : (upd H20 p21 (.lst [.str "once", .str "stamp", .str "once"])) p21 = some (.lst [.str "once", .str "stamp", .str "once"]) := upd_same
  generalize upd H20 p21 (.lst [.str "once", .str "stamp", .str "once"]) = H21 at *
  have fw := s21 _ _ fw
  refine ⟨by show 1 ≤ sizeLine; decide, fun p22 hp22 => ?_⟩
  have nw22 : p1 ≠ p22 := ne_of_none fw hp22
  have s22 := same_new hp22 (o := .tup [.str "stamp"])
  have f22 : (upd H21 p22 (.tup [.str "stamp"])) p22 = some (.tup [.str "stamp"]) := upd_same
  generalize upd H21 p22 (.tup [.str "stamp"]) = H22 at *
  have fw := s22 _ _ fw
  refine ⟨by show 6 ≤ sizeLine; decide, fun p23 hp23 => ?_⟩
  have nw23 : p1 ≠ p23 := ne_of_none fw hp23
  have s23 := same_new hp23 (o := .lst [.ref p16, .ref p17, .ref p19, .ref p20, .ref p21, .ref p22])
  have f23 : (upd H22 p23 (.lst [.ref p16, .ref p17, .ref p19, .ref p20, .ref p21, .ref p22])) p23 = some (.lst [.ref p16, .ref p17, .ref p19, .ref p20, .ref p21, .ref p22]) := upd_same
  generalize upd H22 p23 (.lst [.ref p16, .ref p17, .ref p19, .ref p20, .ref p21, .ref p22]) = H23 at *
  have fw := s23 _ _ fw
  refine ⟨p15, p23, _, _, rfl, rfl, (s23 _ _ (s22 _ _ (s21 _ _ (s20 _ _ (s19 _ _ (s18 _ _ (s17 _ _ (s16 _ _ (f15))))))))), f23, by rw [sizeLine_eq]; show 11 + 6 ≤ 16777216; decide, fun p24 hp24 => ?_⟩
  have nw24 : p1 ≠ p24 := ne_of_none fw hp24
  have s24 := same_new hp24 (o := .lst ([.ref p7, .ref p8, .ref p9, .ref p10, .ref p11, .ref p12, .ref p13, .non, .str "once", .ref p14, .int 5] ++ [.ref p16, .ref p17, .ref p19, .ref p20, .ref p21, .ref p22]))
  have f24 : (upd H23 p24 (.lst ([.ref p7, .ref p8, .ref p9, .ref p10, .ref p11, .ref p12, .ref p13, .non, .str "once", .ref p14, .int 5] ++ [.ref p16, .ref p17, .ref p19, .ref p20, .ref p21, .ref p22]))) p24 = some (.lst [.ref p7, .ref p8, .ref p9, .ref p10, .ref p11, .ref p12, .ref p13, .non, .str "once", .ref p14, .int 5, .ref p16, .ref p17, .ref p19, .ref p20, .ref p21, .ref p22]) := upd_same
  generalize upd H23 p24 (.lst ([.ref p7, .ref p8, .ref p9, .ref p10, .ref p11, .ref p12, .ref p13, .non, .str "once", .ref p14, .int 5] ++ [.ref p16, .ref p17, .ref p19, .ref p20, .ref p21, .ref p22])) = H24 at *
  have fw := s24 _ _ fw
  refine ⟨_, rfl, by show 2 ≤ sizeLine; decide, fun p25 hp25 => ?_⟩
  have nw25 : p1 ≠ p25 := ne_of_none fw hp25
  have s25 := same_new hp25 (o := .lst [.str "once", .str "late"])
  have f25 : (upd H24 p25 (.lst [.str "once", .str "late"])) p25 = some (.lst [.str "once", .str "late"]) := upd_same
  generalize upd H24 p25 (.lst [.str "once", .str "late"]) = H25 at *
  have fw := s25 _ _ fw
  refine ⟨by show 2 ≤ sizeLine; decide, fun p26 hp26 => ?_⟩
  have nw26 : p1 ≠ p26 := ne_of_none fw hp26
  have s26 := same_new hp26 (o := .lst [.str "late", .str "stamp"])
  have f26 : (upd H25 p26 (.lst [.str "late", .str "stamp"])) p26 = some (.lst [.str "late", .str "stamp"]) := upd_same
  generalize upd H25 p26 (.lst [.str "late", .str "stamp"]) = H26 at *
  have fw := s26 _ _ fw
  refine ⟨by show 2 ≤ sizeLine; decide, fun p27 hp27 => ?_⟩
  have nw27 : p1 ≠ p27 := ne_of_none fw hp27
  have s27 := same_new hp27 (o := .tup [.str "stamp", .non])
  have f27 : (upd H26 p27 (.tup [.str "stamp", .non])) p27 = some (.tup [.str "stamp", .non]) := upd_same
  generalize upd H26 p27 (.tup [.str "stamp", .non]) = H27 at *
  have fw := s27 _ _ fw
  refine ⟨by show 3 ≤ sizeLine; decide, fun p28 hp28 => ?_⟩
  have nw28 : p1 ≠ p28 := ne_of_none fw hp28
  have s28 := same_new hp28 (o := .lst [.str "once", .str "stamp", .str "late"])
  have f28 : (upd H27 p28 (.lst [.str "once", .str "stamp", .str "late"])) p28 = some (.lst [.str "once", .str "stamp", .str "late"]) := upd_same
  generalize upd H27 p28 (.lst [.str "once", .str "stamp", .str "late"]) = H28 at *
  have fw := s28 _ _ fw
  refine ⟨by show 1 ≤ sizeLine; decide, fun p29 hp29 => ?_⟩
  have nw29 : p1 ≠ p29 := ne_of_none fw hp29
  have s29 := same_new hp29 (o := .tup [.str "keys"])
  have f29 : (upd H28 p29 (.tup [.str "keys"])) p29 = some (.tup [.str "keys"]) := upd_same
  generalize upd H28 p29 (.tup [.str "keys"]) = H29 at *
  have fw := s29 _ _ fw
  refine ⟨by show 5 ≤ sizeLine; decide, fun p30 hp30 => ?_⟩
  have nw30 : p1 ≠ p30 := ne_of_none fw hp30
  have s30 := same_new hp30 (o := .lst [.ref p25, .ref p26, .ref p27, .ref p28, .ref p29])
  have f30 : (upd H29 p30 (.lst [.ref p25, .ref p26, .ref p27, .ref p28, .ref p29])) p30 = some (.lst [.ref p25, .ref p26, .ref p27, .ref p28, .ref p29]) := upd_same
  generalize upd H29 p30 (.lst [.ref p25, .ref p26, .ref p27, .ref p28, .ref p29]) = H30 at *
  have fw := s30 _ _ fw
  refine ⟨p24, p30, _, _, rfl, rfl, (s30 _ _ (s29 _ _ (s28 _ _ (s27 _ _ (s26 _ _ (s25 _ _ (f24))))))), f30, by rw [sizeLine_eq]; show 17 + 5 ≤ 16777216; decide, fun p31 hp31 => ?_⟩
  have nw31 : p1 ≠ p31 := ne_of_none fw hp31
  have s31 := same_new hp31 (o := .lst ([.ref p7, .ref p8, .ref p9, .ref p10, .ref p11, .ref p12, .ref p13, .non, .str "once", .ref p14, .int 5, .ref p16, .ref p17, .ref p19, .ref p20, .ref p21, .ref p22] ++ [.ref p25, .ref p26, .ref p27, .ref p28, .ref p29]))
  have f31 : (upd H30 p31 (.lst ([.ref p7, .ref p8, .ref p9, .ref p10, .ref p11, .ref p12, .ref p13, .non, .str "once", .ref p14, .int 5, .ref p16, .ref p17, .ref p19, .ref p20, .ref p21, .ref p22] ++ [.ref p25, .ref p26, .ref p27, .ref p28, .ref p29]))) p31 = some (.lst [.ref p7, .ref p8, .ref p9, .ref p10, .ref p11, .ref p12, .ref p13, .non, .str "once", .ref p14, .int 5, .ref p16, .ref p17, .ref p19, .ref p20, .ref p21, .ref p22, .ref p25, .ref p26, .ref p27, .ref p28, .ref p29]) := upd_same
  generalize upd H30 p31 (.lst ([.ref p7, .ref p8, .ref p9, .ref p10, .ref p11, .ref p12, .ref p13, .non, .str "once", .ref p14, .int 5, .ref p16, .ref p17, .ref p19, .ref p20, .ref p21, .ref p22] ++ [.ref p25, .ref p26, .ref p27, .ref p28, .ref p29])) = H31 at *
  have fw := s31 _ _ fw
  refine ⟨by show 1 ≤ sizeLine; decide, fun p32 hp32 => ?_⟩
  have nw32 : p1 ≠ p32 := ne_of_none fw hp32
  have u31 := Same.refl H31
  have u30 := s31.trans u31
  have u29 := s30.trans u30
  have u28 := s29.trans u29
  have u27 := s28.trans u28
  have u26 := s27.trans u27
  have u25 := s26.trans u26
  have u24 := s25.trans u25
  have u23 := s24.trans u24
  have u22 := s23.trans u23
  have u21 := s22.trans u22
  have u20 := s21.trans u21
  have u19 := s20.trans u20
  have u18 := s19.trans u19
  have u17 := s18.trans u18
  have u16 := s17.trans u17
  have u15 := s16.trans u16
  have u14 := s15.trans u15
  have u13 := s14.trans u14
  have u12 := s13.trans u13
  have u11 := s12.trans u12
  have u10 := s11.trans u11
  have u9 := s10.trans u10
  have u8 := s9.trans u9
  have u7 := s8.trans u8
  have u6 := s7.trans u7
  have u5 := s6.trans u6
  have u4 := s5.trans u5
  have u3 := s4.trans u4
  have u2 := s3.trans u3
  have u1 := s2.trans u2
  have u0 := s1.trans u1
  have nn1 : p32 ≠ p1 := (ne_of_none (u1 _ _ f1) hp32).symm
  have nn2 : p32 ≠ p2 := (ne_of_none (u2 _ _ f2) hp32).symm
  have nn3 : p32 ≠ p3 := (ne_of_none (u3 _ _ f3) hp32).symm
  have nn4 : p32 ≠ p4 := (ne_of_none (u4 _ _ f4) hp32).symm
  have nn5 : p32 ≠ p5 := (ne_of_none (u5 _ _ f5) hp32).symm
  have nn6 : p32 ≠ p6 := (ne_of_none (u6 _ _ f6) hp32).symm
  have nn7 : p32 ≠ p7 := (ne_of_none (u7 _ _ f7) hp32).symm
  have nn8 : p32 ≠ p8 := (ne_of_none (u8 _ _ f8) hp32).symm
  have nn9 : p32 ≠ p9 := (ne_of_none (u9 _ _ f9) hp32).symm
  have nn10 : p32 ≠ p10 := (ne_of_none (u10 _ _ f10) hp32).symm
  have nn11 : p32 ≠ p11 := (ne_of_none (u11 _ _ f11) hp32).symm
  have nn12 : p32 ≠ p12 := (ne_of_none (u12 _ _ f12) hp32).symm
  have nn13 : p32 ≠ p13 := (ne_of_none (u13 _ _ f13) hp32).symm
  have nn14 : p32 ≠ p14 := (ne_of_none (u14 _ _ f14) hp32).symm
  have nn15 : p32 ≠ p15 := (ne_of_none (u15 _ _ f15) hp32).symm
  have nn16 : p32 ≠ p16 := (ne_of_none (u16 _ _ f16) hp32).symm
  have nn17 : p32 ≠ p17 := (ne_of_none (u17 _ _ f17) hp32).symm
  have nn18 : p32 ≠ p18 := (ne_of_none (u18 _ _ f18) hp32).symm
  have nn19 : p32 ≠ p19 := (ne_of_none (u19 _ _ f19) hp32).symm
  have nn20 : p32 ≠ p20 := (ne_of_none (u20 _ _ f20) hp32).symm
  have nn21 : p32 ≠ p21 := (ne_of_none (u21 _ _ f21) hp32).symm
  have nn22 : p32 ≠ p22 := (ne_of_none (u22 _ _ f22) hp32).symm
  have nn23 : p32 ≠ p23 := (ne_of_none (u23 _ _ f23) hp32).symm
  have nn24 : p32 ≠ p24 := (ne_of_none (u24 _ _ f24) hp32).symm
  have nn25 : p32 ≠ p25 := (ne_of_none (u25 _ _ f25) hp32).symm
  have nn26 : p32 ≠ p26 := (ne_of_none (u26 _ _ f26) hp32).symm
  have nn27 : p32 ≠ p27 := (ne_of_none (u27 _ _ f27) hp32).symm
  have nn28 : p32 ≠ p28 := (ne_of_none (u28 _ _ f28) hp32).symm
  have nn29 : p32 ≠ p29 := (ne_of_none (u29 _ _ f29) hp32).symm
  have nn30 : p32 ≠ p30 := (ne_of_none (u30 _ _ f30) hp32).symm
  have nn31 : p32 ≠ p31 := (ne_of_none (u31 _ _ f31) hp32).symm
  have hN0 : H p32 = none := u0.free hp32
  have s32 := same_new hp32 (o := .lst [.int 1])
  have f32 : (upd H31 p32 (.lst [.int 1])) p32 = some (.lst [.int 1]) := upd_same
  generalize upd H31 p32 (.lst [.int 1]) = H32 at *
  have fw := s32 _ _ fw
  have fn := f32
  refine ⟨_, _, rfl, rfl, _, _, rfl, rfl, ⟨by decide, by decide, by decide⟩, by show 12 ≤ sizeLine; decide, fun p33 hp33 => ?_⟩
  have nw33 : p1 ≠ p33 := ne_of_none fw hp33
  have nn33 : p32 ≠ p33 := ne_of_none fn hp33
  have s33 := same_new hp33 (o := .lst [.int 1, .int 2, .int 3, .int 0, .int 4, .bl true, .bl false, .non, .str "1", .ref p32, .int (0 - 1), .int (10 ^ (30 : Int).toNat)])
  have f33 : (upd H32 p33 (.lst [.int 1, .int 2, .int 3, .int 0, .int 4, .bl true, .bl false, .non, .str "1", .ref p32, .int (0 - 1), .int (10 ^ (30 : Int).toNat)])) p33 = some (.lst [.int 1, .int 2, .int 3, .int 0, .int 4, .bl true, .bl false, .non, .str "1", .ref p32, .int (0 - 1), .int (10 ^ (30 : Int).toNat)]) := upd_same
  generalize upd H32 p33 (.lst [.int 1, .int 2, .int 3, .int 0, .int 4, .bl true, .bl false, .non, .str "1", .ref p32, .int (0 - 1), .int (10 ^ (30 : Int).toNat)]) = H33 at *
  have fw := s33 _ _ fw
  have fn := s33 _ _ fn
  have e33 := Same.refl H33
  have e32 := s33.trans e33
  have e31 := s32.trans e32
  have e30 := s31.trans e31
  have e29 := s30.trans e30
  have e28 := s29.trans e29
  have e27 := s28.trans e28
  have e26 := s27.trans e27
  have e25 := s26.trans e26
  have e24 := s25.trans e25
  have e23 := s24.trans e24
  have e22 := s23.trans e23
  have e21 := s22.trans e22
  have e20 := s21.trans e21
  have e19 := s20.trans e20
  have e18 := s19.trans e19
  have e17 := s18.trans e18
  have e16 := s17.trans e17
  have e15 := s16.trans e16
  have e14 := s15.trans e15
  have e13 := s14.trans e14
  have e12 := s13.trans e13
  have e11 := s12.trans e12
  have e10 := s11.trans e11
  have e9 := s10.trans e10
  have e8 := s9.trans e9
  have e7 := s8.trans e8
  have e6 := s7.trans e7
  have e5 := s6.trans e6
  have e4 := s5.trans e5
  have e3 := s4.trans e4
  have e2 := s3.trans e3
  have e1 := s2.trans e2
  have e0 := s1.trans e1
  have g2 := del2 nw2 nn2 (e2 _ _ f2)
  have g3 := del2 nw3 nn3 (e3 _ _ f3)
  have g4 := del2 nw4 nn4 (e4 _ _ f4)
  have g5 := del2 nw5 nn5 (e5 _ _ f5)
  have g6 := del2 nw6 nn6 (e6 _ _ f6)
  have g7 := del2 nw7 nn7 (e7 _ _ f7)
  have g8 := del2 nw8 nn8 (e8 _ _ f8)
  have g9 := del2 nw9 nn9 (e9 _ _ f9)
  have g10 := del2 nw10 nn10 (e10 _ _ f10)
  have g11 := del2 nw11 nn11 (e11 _ _ f11)
  have g12 := del2 nw12 nn12 (e12 _ _ f12)
  have g13 := del2 nw13 nn13 (e13 _ _ f13)
  have g14 := del2 nw14 nn14 (e14 _ _ f14)
  have g15 := del2 nw15 nn15 (e15 _ _ f15)
  have g16 := del2 nw16 nn16 (e16 _ _ f16)
  have g17 := del2 nw17 nn17 (e17 _ _ f17)
  have g18 := del2 nw18 nn18 (e18 _ _ f18)
  have g19 := del2 nw19 nn19 (e19 _ _ f19)
  have g20 := del2 nw20 nn20 (e20 _ _ f20)
  have g21 := del2 nw21 nn21 (e21 _ _ f21)
  have g22 := del2 nw22 nn22 (e22 _ _ f22)
  have g23 := del2 nw23 nn23 (e23 _ _ f23)
  have g24 := del2 nw24 nn24 (e24 _ _ f24)
  have g25 := del2 nw25 nn25 (e25 _ _ f25)
  have g26 := del2 nw26 nn26 (e26 _ _ f26)
  have g27 := del2 nw27 nn27 (e27 _ _ f27)
  have g28 := del2 nw28 nn28 (e28 _ _ f28)
  have g29 := del2 nw29 nn29 (e29 _ _ f29)
  have g30 := del2 nw30 nn30 (e30 _ _ f30)
  have g31 := del2 nw31 nn31 (e31 _ _ f31)
  have g33 := del2 nw33 nn33 (e33 _ _ f33)
  have gg : Same H (del (del H33 p1) p32) := fun b o e => del2 (ne_of_none e hW0).symm (ne_of_none e hN0).symm (e0 _ _ e)
  refine q H33 (del (del H33 p1) p32) p6 p31 p33 p1 p32 _ _ _ gg ⟨g6, g31, g33, ?_, ?_, ?_, rfl, rfl, rfl, ?_, del_same, nn1.symm⟩ ⟨fun b o e => (del_some (del_some e).2).2, ⟨_, fw, by decide, fun x hx => by rw [List.mem_singleton.mp hx]; decide +kernel⟩, ⟨_, fn, by decide, fun x hx => by rw [List.mem_singleton.mp hx]; decide +kernel⟩⟩
  · intro v hv
    rcases List.mem_cons.mp hv with rfl | hv
    · exact .inr (wayT (by decide +kernel) (by decide +kernel))
    rcases List.mem_cons.mp hv with rfl | hv
    · exact .inr (wayT (by decide +kernel) (by decide +kernel))
    rcases List.mem_cons.mp hv with rfl | hv
    · exact .inr (wayT (by decide +kernel) (by decide +kernel))
    rcases List.mem_cons.mp hv with rfl | hv
    · exact .inr (wayT (by decide +kernel) (by decide +kernel))
    rcases List.mem_cons.mp hv with rfl | hv
    · exact .inr (wayF rfl (by decide +kernel) (by decide +kernel))
    rcases List.mem_cons.mp hv with rfl | hv
    · exact .inr (wayF rfl (by decide +kernel) (by decide +kernel))
    rcases List.mem_cons.mp hv with rfl | hv
    · exact .inr (wayF rfl (by decide +kernel) (by decide +kernel))
    rcases List.mem_cons.mp hv with rfl | hv
    · exact .inr (wayF rfl (by decide +kernel) (by decide +kernel))
    rcases List.mem_cons.mp hv with rfl | hv
    · exact .inl rfl
    rcases List.mem_cons.mp hv with rfl | hv
    · exact .inr (.tup rfl g2)
    rcases List.mem_cons.mp hv with rfl | hv
    · exact .inr (.dic rfl g3)
    rcases List.mem_cons.mp hv with rfl | hv
    · exact .inr (wayF rfl (by decide +kernel) (by decide +kernel))
    rcases List.mem_cons.mp hv with rfl | hv
    · exact .inr (wayF rfl (by decide +kernel) (by decide +kernel))
    rcases List.mem_cons.mp hv with rfl | hv
    · exact .inr (wayF rfl (by decide +kernel) (by decide +kernel))
    rcases List.mem_cons.mp hv with rfl | hv
    · exact .inr (wayF rfl (by decide +kernel) (by decide +kernel))
    rcases List.mem_cons.mp hv with rfl | hv
    · exact .inr (wayF rfl (by decide +kernel) (by decide +kernel))
    cases hv
  · intro v hv
    rcases List.mem_cons.mp hv with rfl | hv
    · exact lotGT [] g7 (by decide +kernel)
    rcases List.mem_cons.mp hv with rfl | hv
    · exact lotGL [] g8 (by decide +kernel)
    rcases List.mem_cons.mp hv with rfl | hv
    · exact lotGL ["once"] g9 (by decide +kernel)
    rcases List.mem_cons.mp hv with rfl | hv
    · exact lotGL ["stamp"] g10 (by decide +kernel)
    rcases List.mem_cons.mp hv with rfl | hv
    · exact lotGL ["stamp", "once"] g11 (by decide +kernel)
    rcases List.mem_cons.mp hv with rfl | hv
    · exact lotGT ["once", "stamp"] g12 (by decide +kernel)
    rcases List.mem_cons.mp hv with rfl | hv
    · exact lotGL ["once", "once"] g13 (by decide +kernel)
    rcases List.mem_cons.mp hv with rfl | hv
    · exact .flat (by decide +kernel)
    rcases List.mem_cons.mp hv with rfl | hv
    · exact .flat (by decide +kernel)
    rcases List.mem_cons.mp hv with rfl | hv
    · exact .dic rfl g14
    rcases List.mem_cons.mp hv with rfl | hv
    · exact .flat (by decide +kernel)
    rcases List.mem_cons.mp hv with rfl | hv
    · exact lotBL [.str "late"] g16 (by decide +kernel)
    rcases List.mem_cons.mp hv with rfl | hv
    · exact lotBL [.non] g17 (by decide +kernel)
    rcases List.mem_cons.mp hv with rfl | hv
    · exact lotNest g19 g18
    rcases List.mem_cons.mp hv with rfl | hv
    · exact lotGT ["stamp", "stamp"] g20 (by decide +kernel)
    rcases List.mem_cons.mp hv with rfl | hv
    · exact lotGL ["once", "stamp", "once"] g21 (by decide +kernel)
    rcases List.mem_cons.mp hv with rfl | hv
    · exact lotGT ["stamp"] g22 (by decide +kernel)
    rcases List.mem_cons.mp hv with rfl | hv
    · exact lotBL [.str "once", .str "late"] g25 (by decide +kernel)
    rcases List.mem_cons.mp hv with rfl | hv
    · exact lotBL [.str "late", .str "stamp"] g26 (by decide +kernel)
    rcases List.mem_cons.mp hv with rfl | hv
    · exact lotBT [.str "stamp", .non] g27 (by decide +kernel)
    rcases List.mem_cons.mp hv with rfl | hv
    · exact lotBL [.str "once", .str "stamp", .str "late"] g28 (by decide +kernel)
    rcases List.mem_cons.mp hv with rfl | hv
    · exact lotBT [.str "keys"] g29 (by decide +kernel)
    cases hv
  · intro v hv
    rcases List.mem_cons.mp hv with rfl | hv
    · exact .inr (.int (by decide +kernel))
    rcases List.mem_cons.mp hv with rfl | hv
    · exact .inr (.int (by decide +kernel))
    rcases List.mem_cons.mp hv with rfl | hv
    · exact .inr (.int (by decide +kernel))
    rcases List.mem_cons.mp hv with rfl | hv
    · exact .inr (.int (by decide +kernel))
    rcases List.mem_cons.mp hv with rfl | hv
    · exact .inr (.int (by decide +kernel))
    rcases List.mem_cons.mp hv with rfl | hv
    · exact .inr .bl
    rcases List.mem_cons.mp hv with rfl | hv
    · exact .inr .bl
    rcases List.mem_cons.mp hv with rfl | hv
    · exact .inr .non
    rcases List.mem_cons.mp hv with rfl | hv
    · exact .inr (.str (by decide +kernel))
    rcases List.mem_cons.mp hv with rfl | hv
    · exact .inl rfl
    rcases List.mem_cons.mp hv with rfl | hv
    · exact .inr (.int (by decide +kernel))
    rcases List.mem_cons.mp hv with rfl | hv
    · exact .inr (.int (by decide +kernel))
    cases hv
  · exact del_none p1 p32
end
end Bs
set_option Elab.async false
set_option linter.all false
set_option maxRecDepth 100000
set_option maxHeartbeats 8000000
namespace L2
namespace Pl
open PySem PySem.Spec PyProof.Rows
/-- Plan(..) by place -/
structure PlD (P : Program) (w : World) (K : PySem.W.Frag) (mg : Str → Option Value) (base : Heap) (C CB : Addr) : Prop where
  ini : ∃ f fd d0 ds1 ds2, Mk K C f ∧ FnOk P w K mg base (L2.CX P w) 3 f fd ["self", "way", "guards", "tries"] (spPlan K C CB) ∧ (∀ H, SqT K H d0 []) ∧ Vals [.ref d0, .int 1] ds1 ∧ L2.Binds K fd ["self", "way", "guards", "tries"] ds1 ∧ Vals [.int 1] ds2 ∧ L2.Binds K fd ["self", "way", "guards", "tries"] ds2
/-- the class at C is above none of these types, as isinstance asks -/
structure NoKit (K : PySem.W.Frag) (C : Addr) : Prop where
  non : PySem.W.kitOne K (.type "NoneType") (.ref C) = some false
  int : PySem.W.kitOne K (.type "int") (.ref C) = some false
  str : PySem.W.kitOne K (.type "str") (.ref C) = some false
  tup : PySem.W.kitOne K (.type "tuple") (.ref C) = some false
  dic : PySem.W.kitOne K (.type "dict") (.ref C) = some false
theorem plan_none {K : PySem.W.Frag} {H : Hp} {d0 : Addr} (h : SqT K H d0 []) : PlanK K H (.str "key") (.ref d0) (.int 1) (.inr ⟨"key", srtG [], 1⟩) :=
  .good (ws := []) rfl (by decide +kernel) rfl (.inr h) (by decide) (by simp) List.nodup_nil rfl (by decide) (by decide)
theorem pdK_ok : (⟨"key", srtG [], 1⟩ : Pd).Ok := ⟨by decide +kernel, by decide +kernel, by decide, by decide⟩
theorem pdA_ok : (⟨"all", srtG ["once"], 1⟩ : Pd).Ok := ⟨by decide +kernel, by decide +kernel, by decide, by decide⟩
theorem plan_once {K : PySem.W.Frag} {H : Hp} {a : Addr} (h : SqB K H a (sW ["once"])) : PlanK K H (.str "all") (.ref a) (.int 1) (.inr ⟨"all", srtG ["once"], 1⟩) :=
  .good (ws := ["once"]) rfl (by decide +kernel) rfl h (by decide) (by decide +kernel) (by decide +kernel) rfl (by decide) (by decide)
theorem sW_none : sW (srtG []) = [] := by
  unfold srtG
  simp
theorem eqv_t0 : PyData.eqv (.tuple []) (.tuple []) = true := by decide +kernel
theorem shaped_t0 : SeqAt.shaped (.tuple []) = true := by decide +kernel
theorem eqv_l0 : PyData.eqv (.list []) (.list []) = true := by decide +kernel
theorem shaped_l0 : SeqAt.shaped (.list []) = true := by decide +kernel
end Pl
end L2
namespace Bs
open PySem PySem.Spec PyProof.Rows L2 L2.Pl
section
variable {P : Program} {w : World} {K : PySem.W.Frag} {mg : Str → Option Value} {base : Heap} {f : Addr} {cdv : Value} {A : Around} {outer : List Env} {s : Shared} {H0 : Hp} {E : XK}
theorem ch_last {C CB : Addr} (G : Gn mg) (T : PlF K mg C) (M : PlM P w K mg base C CB) (N : PlD P w K mg base C CB) (S : NoSub K C) (S2 : NoKit K C) (hr : Room 5 (A.deeper (envOfC "law" (defScope sLaw) s.heap.objs.size f cdv))) :
    ∃ t, PSs (XL P w K mg base f cdv A outer s H0 E) [sL0 7, sL0 8] t ∧ ∀ (D : Ends) (H : Hp) (c0 c1 c2 c3 c4 c5 c6 c7 c8 c9 c10 c11 c12 c13 c14 c15 c16 c17 : Option V), (∀ H', D.rt (.bl true) H') → t D [c0, c1, c2, c3, c4, c5, c6, c7, c8, c9, c10, c11, c12, c13, c14, c15, c16, c17] H := by
  have mk_use : ∀ {H : Hp} {x dx : Addr} {wv gv tv : V} {p : Pd} {R : VK}, H x = none → H dx = none → dx ≠ x → PlanK K (upd (upd H dx (.own x)) x (.ins C dx [])) wv gv tv (.inr p) → (∀ H', Same H H' → PlAt C H' x p → R .non H') → spPlan K C CB [.ref x, wv, gv, tv] (upd (upd H dx (.own x)) x (.ins C dx [])) R E0 := fun {H x dx wv gv tv p R} nx ndx ne pk q =>
    ⟨upd H dx (.own x), x, dx, wv, gv, tv, .inr p, rfl, same_new ((upd_ne ne.symm).trans nx), (upd_ne ne.symm).trans nx, upd_same, pk, fun v er => (nomatch er), fun p' er' H3 m3 pb => by
      obtain rfl := Sum.inr.inj er'
      exact q H3 ((same_new ndx).trans m3) pb⟩
  obtain ⟨pG, fG, dG, oG, bG, mG⟩ := M.gs
  obtain ⟨pT, fT, dT, oT, bT, mT⟩ := M.tr
  obtain ⟨fI, dI, gI, mkI, oI, kI⟩ := M.ini
  obtain ⟨fJ, dJ, d0, ds1, ds2, mkJ, oJ, hd0, v1, b1, v2, b2⟩ := N.ini
  obtain ⟨fQ, dQ, oQ, bQ, nQ⟩ := M.eq
  generalize spPlan K C CB = pI at oI oJ mk_use
  have hr4 := hr.mono (j := 4) (by decide)
  have hr3 := hr.mono (j := 3) (by decide)
  have hr2 := hr.mono (j := 2) (by decide)
  refine ⟨_, pss_cons (ps_if (PW.pt (pw_or (pt_cmpR (op_neD hr.units) (pe_prop (pe_make mkJ oJ hr4 (by rfl) T.gC b1 v1 passL (pa_cons pe_str pa_nil)) T.cl mG oG hr2 bG .nil pass0 (by rfl)) (pe_tup pa_nil) (nomark _))
      (pw_or (pt_cmpR op_ne (pe_prop (pe_make mkJ oJ hr4 (by rfl) T.gC b1 v1 passL (pa_cons pe_str pa_nil)) T.cl mT oT hr2 bT .nil pass0 (by rfl)) pe_int (nomark _))
      (pw_or1 (pt_cmpR (op_neOwn oQ nQ bQ hr3 pass0) (pe_make mkJ oJ hr4 (by rfl) T.gC b2 v2 passL (pa_cons pe_str (pa_cons (pe_lst (pa_cons pe_str pa_nil)) pa_nil))) (pe_makeK mkI oI hr4 (by rfl) T.gC kI passL (pa_cons pe_str (pa_cons (pe_tup (pa_cons pe_str pa_nil)) pa_nil)) (pk_cons pe_int pk_nil)) (nomark _))))))
      (pss_one (ps_ret pe_bl)) pss_nil)
    (pss_one (ps_ret (pe_cmpR (op_eqD hr.units) (pe_lc (own := [("thing", 17)]) (g := gName 17) (tt := tTest (tOp (rEqOwnV C (spEqPl K C) E0) (tMake C pI [.ref d0, .int 1] E0 (tCons (tC (.str "key")) tNil)) (tVar 17))) (te := tVar 17) rfl scLaw.nd (pi_list (pe_lst (pa_cons pe_non (pa_cons pe_str (pa_cons (pe_tup (pa_cons pe_str (pa_cons (pe_tup pa_nil) (pa_cons pe_int pa_nil)))) (pa_cons pe_int (pa_cons pe_dnewK pa_nil)))))))
        (blkOk_by (N := NLw) (sc := defScope sLaw) (by decide +kernel)) (fun _ _ _ _ _ => pg_name (i := 17) scLaw.nd rfl (.inl rfl)) (fun _ _ _ _ _ => pts_one (pt_cmpR (op_eqOwnV oQ nQ S bQ hr2 pass0) (pe_make mkJ oJ hr4 (by rfl) T.gC b1 v1 passL (pa_cons pe_str pa_nil)) (pv 17) (nomark _))) (fun _ _ _ _ _ => pv 17)) (pe_lst pa_nil) (by rfl)))),
    fun D H c0 c1 c2 c3 c4 c5 c6 c7 c8 c9 c10 c11 c12 c13 c14 c15 c16 c17 q => ?_⟩
  -- the guards that are left out
  refine fun x dx nx ndx ne => mk_use nx ndx ne (plan_none (hd0 _)) fun H1 m1 pa => ⟨rfl, ?_⟩
  obtain ⟨ex, tx, hx, htx⟩ := pa
  have htx : H1 tx = some (.tup []) := htx.trans (congrArg (fun z => some (HO.tup z)) sW_none)
  refine ⟨x, ex, _, rfl, hx, x, ex, _, .ref tx, rfl, hx, pl_look2, by show 0 ≤ sizeLine; decide, fun t ht => ?_⟩
  have n1 := same_new ht (o := .tup [])
  refine ⟨.tuple [], .tuple [], .tup (.inl (.inl (n1 _ _ htx))) .nil, .tup (.inl (.inl upd_same)) .nil, shaped_t0, shaped_t0, _, rfl, ?_⟩
  rw [eqv_t0]
  refine iteF ?_
  -- the tries
  refine fun x2 dx2 nx2 ndx2 ne2 => mk_use nx2 ndx2 ne2 (plan_none (hd0 _)) fun H2 m2 pa2 => ⟨rfl, ?_⟩
  obtain ⟨ex2, tx2, hx2, htx2⟩ := pa2
  refine ⟨x2, ex2, _, rfl, hx2, x2, ex2, _, .int 1, rfl, hx2, pl_look3, rfl, _, rfl, ?_⟩
  refine iteF ?_
  -- all, once
  refine ⟨by show 1 ≤ sizeLine; decide, fun l hl => ?_⟩
  have hl1 : (upd H2 l (.lst [.str "once"])) l = some (.lst (sW ["once"])) := upd_same
  generalize upd H2 l (.lst [.str "once"]) = H3 at *
  refine fun x3 dx3 nx3 ndx3 ne3 => mk_use nx3 ndx3 ne3 (plan_once (.inl (SqL.of (((same_new ndx3).trans (same_new ((upd_ne ne3.symm).trans nx3))) _ _ hl1)))) fun H4 m4 pa3 => ⟨rfl, ?_⟩
  refine ⟨by show 1 ≤ sizeLine; decide, fun t4 ht4 => ?_⟩
  have n4 := same_new ht4 (o := .tup [.str "once"])
  have ht5 : (upd H4 t4 (.tup [.str "once"])) t4 = some (.tup (sW ["once"])) := upd_same
  generalize upd H4 t4 (.tup [.str "once"]) = H5 at *
  refine ⟨rfl, rfl, fun x6 dx6 nx6 ndx6 ne6 => mk_use nx6 ndx6 ne6 (plan_once (.inr (.inl (.inl (((same_new ndx6).trans (same_new ((upd_ne ne6.symm).trans nx6))) _ _ ht5))))) fun H6 m6 pa6 => ⟨rfl, ?_⟩⟩
  have pa4 := pa3.same (n4.trans m6)
  obtain ⟨e4, u4, hx4, hu4⟩ := id pa4
  obtain ⟨e6, u6, hx6, hu6⟩ := id pa6
  refine ⟨x3, x6, e4, e6, _, _, rfl, rfl, hx4, hx6, x3, .ref x6, _, rfl, pa4, pdA_ok, .inl ⟨x6, _, rfl, pa6, pdA_ok, true, by rw [Pd.same_self], ?_⟩⟩
  refine ⟨false, rfl, iteF ?_⟩
  -- unlike values
  refine ⟨by show 0 ≤ sizeLine; decide, fun q0 g0 => ⟨by show 3 ≤ sizeLine; decide, fun q1 g1 => fun d gd => ⟨by show 5 ≤ sizeLine; decide, fun l2 gl => ?_⟩⟩⟩
  have w1 := same_new g1 (o := .tup [.str "key", .ref q0, .int 1])
  have w2 := same_new gd (o := .dK [])
  have w3 := same_new gl (o := .lst [.non, .str "key", .ref q1, .int 1, .ref d])
  have hq := w3 _ _ (w2 _ _ (upd_same (H := upd H6 q0 (.tup [])) (a := q1) (o := .tup [.str "key", .ref q0, .int 1])))
  have hd := w3 _ _ (upd_same (H := upd (upd H6 q0 (.tup [])) q1 (.tup [.str "key", .ref q0, .int 1])) (a := d) (o := .dK []))
  have hl2 := upd_same (H := upd (upd (upd H6 q0 (.tup [])) q1 (.tup [.str "key", .ref q0, .int 1])) d (.dK [])) (a := l2) (o := .lst [.non, .str "key", .ref q1, .int 1, .ref d])
  generalize upd (upd (upd (upd H6 q0 (.tup [])) q1 (.tup [.str "key", .ref q0, .int 1])) d (.dK [])) l2 (.lst [.non, .str "key", .ref q1, .int 1, .ref d]) = H7 at *
  refine ⟨l2, rfl, ⟨_, SqL.of hl2⟩, fun DD hD => ?_⟩
  refine lc_genJ (walk_list (K := K) (a := l2) (xs := [.non, .str "key", .ref q1, .int 1, .ref d])) (fun H2 => Same H7 H2 ∧ ∃ ys, H2 DD = some (.lst ys)) (fun _ => false) (fun x y => True) ⟨same_new hD, _, upd_same⟩ (fun H2 acc ⟨m2, _⟩ _ y => ⟨same_wrJ m2 hD, _, upd_same⟩) (fun H2 ⟨m2, _⟩ => SqL.of (m2 _ _ hl2)) (by show 5 ≤ 1000; decide) (fun x H8 N YK hx ⟨m8, yo, ho⟩ kf kt => ?_) (fun H8 ys ⟨m8, _⟩ hy pr => ?_)
  · have kx : OthV C H8 x ∧ ∃ t, TyX K H8 x t ∧ PySem.W.kitOne K t (.ref C) = some false := by
      rcases List.mem_cons.mp hx with rfl | hx
      · exact ⟨.non, _, .base .non, S2.non⟩
      rcases List.mem_cons.mp hx with rfl | hx
      · exact ⟨.str _, _, .base (.str _), S2.str⟩
      rcases List.mem_cons.mp hx with rfl | hx
      · exact ⟨.tup (m8 _ _ hq), _, .base (.tup (m8 _ _ hq)), S2.tup⟩
      rcases List.mem_cons.mp hx with rfl | hx
      · exact ⟨.int _, _, .base (.int _), S2.int⟩
      rcases List.mem_cons.mp hx with rfl | hx
      · exact ⟨.dic (m8 _ _ hd), _, .base (.dK (m8 _ _ hd)), S2.dic⟩
      cases hx
    obtain ⟨ox, t0, ty, kk⟩ := kx
    refine ⟨rfl, fun y dy ny ndy ney => mk_use ny ndy ney (plan_none (hd0 _)) fun H9 m9 pb => ⟨rfl, ?_⟩⟩
    obtain ⟨ey, uy, hy, huy⟩ := id pb
    have ox9 : OthV C H9 x := by
      cases ox with
      | own h => exact .own (m9 _ _ h)
      | non => exact .non
      | bl b => exact .bl b
      | int i => exact .int i
      | str z => exact .str z
      | lst h => exact .lst (m9 _ _ h)
      | tup h => exact .tup (m9 _ _ h)
      | dic h => exact .dic (m9 _ _ h)
    refine ⟨_, rfl, y, ey, _, rfl, hy, ox9, y, x, _, rfl, pb, pdK_ok, .inr ⟨t0, tyKeep ty m9, kk, ?_⟩⟩
    refine ⟨false, rfl, ?_⟩
    exact ⟨_, rfl, iteF (kf rfl _ ⟨m8.trans m9, _, m9 _ _ ho⟩ ((m9 _ _ ho).trans ho.symm))⟩
  · have e : ys = [] := by
      have := pr.length
      rw [List.filter_eq_nil_iff.mpr (fun x _ => by simp)] at this
      exact List.eq_nil_of_length_eq_zero this.symm
    subst e
    refine ⟨Nat.zero_le _, fun p hp => ?_⟩
    refine ⟨.list [], .list [], .lst (SqL.of (same_new hp _ _ hy)) .nil, .lst (SqL.of upd_same) .nil, shaped_l0, shaped_l0, ?_⟩
    rw [eqv_l0]
    exact q _
end
end Bs
set_option Elab.async false
set_option linter.all false
set_option maxRecDepth 100000
set_option maxHeartbeats 8000000
namespace L2
namespace Pl
open PySem PySem.Spec PyProof.Rows
def spLaw (K : Fr) : Sp := fun vs H Q _ => ∃ (a : Addr) (ns : List Int), vs = [.ref a] ∧ SqL K H a (ns.map V.int) ∧ ns.length ≤ 63 ∧ (∀ z ∈ ns, Builtin.Int.intBits z ≤ 1048576) ∧ ∀ H', Q (.bl true) H'
end Pl
end L2
namespace Bs
open PySem PySem.Spec PyProof.Rows L2 L2.Pl
section
variable {P : Program} {w : World} {K : PySem.W.Frag} {mg : Str → Option Value} {base : Heap} {f : Addr} {fd : FuncData}
theorem ok_law {C CB : Addr} (G : Gn mg) (hSys : SysK K) (T : PlF K mg C) (M : PlM P w K mg base C CB) (N : PlD P w K mg base C CB) (S : NoSub K C) (S2 : NoKit K C) (hSo : Has P w K mg base CX0 "_law_source" 1 ["script", "start"] (spSource K)) (hP : Has P w K mg base CX0 "_law_pick" 2 ["source", "things"] (spPick K)) (hD : Has P w K mg base CX0 "_law_due" 2 ["way", "guards", "number"] (spDue K))
    (hT : ∃ fT dT, FnG P w K mg base CX0 5 fT dT ["way", "guards", "number"] (spTold K) ∧ L2.Binds K dT ["way", "guards", "number"] [] ∧ mg "_law_told" = some (.ref fT) ∧ PySem.W.keepIn K (.ref fT) = true) (F : FnP K "law" sLaw f fd) : FnG P w K mg base CX0 6 f fd ["script"] (spLaw K) := by
  refine fnG_of F scLaw (fun vs H Q E h => ?_) (fun cdv A hg outer s H vs Q E hr h => ?_)
  · obtain ⟨_, _, rfl, _⟩ := h
    rfl
  · obtain ⟨a, ns, rfl, hA, hlen, hbits, q⟩ := h
    obtain ⟨tS, pS, rS⟩ := ch_start (outer := outer) (H0 := H) (E := E) G hSys T M S hg hr hSo hP hD hT
    obtain ⟨tL, pL, rL⟩ := ch_last (outer := outer) (H0 := H) (E := E) G T M N S S2 hr
    obtain ⟨tP, pP, rP⟩ := ch_prelude (P := P) (w := w) (K := K) (mg := mg) (base := base) (f := f) (cdv := cdv) (A := A) (outer := outer) (s := s) (H0 := H) (E := E) (pss_cons (ps_for PassesOwn.never rfl (pi_range1 (by rfl) G.range (pa_cons (pe_callB (call_max2 rfl) (by rfl) G.max bMax (pa_cons pe_int (pa_cons (pe_callB (call_min2 rfl) (by rfl) G.min bMin (pa_cons pe_int (pa_cons (pe_callB call_len_seq (by rfl) G.len bLen (pa_cons (pv 0) pa_nil)) pa_nil))) pa_nil))) pa_nil)) (pg_name (i := 4) scLaw.nd rfl (.inl rfl)) pS) pL)
    refine ⟨_, PSs.nox pP, ?_⟩
    refine rP _ H a _ _ _ _ _ _ _ _ _ _ _ _ _ _ _ _ _ fun H' G0 aW aL aN wl nl wsV lsV nsV m0 C I => ?_
    have hA0 := m0.seq hA
    refine ⟨_, rfl, a, _, rfl, .inl (I.old.seq hA0), _, _, rfl, _, _, rfl, _, rfl, ?_, ?_, for_range (fun i σ H' => ∃ c4 c5 c6 c7 c8 c9 c10 c11 c12 c13 c14 c15 c16 c17, σ = [some (.ref a), some (.ref aW), some (.ref aL), some (.ref aN), c4, c5, c6, c7, c8, c9, c10, c11, c12, c13, c14, c15, c16, c17] ∧ AtI G0 wl nl (1 + 30 * i) H') ⟨_, _, _, _, _, _, _, _, _, _, _, _, _, _, rfl, I⟩ ?_ ?_⟩
    · split <;> split <;> omega
    · split <;> split <;> omega
    · rintro i σ H1 hi ⟨c4, c5, c6, c7, c8, c9, c10, c11, c12, c13, c14, c15, c16, c17, rfl, J⟩
      have hi3 : i < 3 := by
        revert hi
        split <;> split <;> omega
      have hst : (0 : Int) + (i : Int) = ((i : Nat) : Int) := by omega
      rw [hst]
      refine rS _ G0 H1 a aW aL aN wl nl wsV lsV nsV (1 + 30 * i) ns i _ _ _ _ _ _ _ _ _ _ _ _ _ C J (by omega) hA0 hlen hbits (by omega) fun H2 c5 c6 c7 c8 c9 c10 c11 c12 c13 c14 c15 c16 J2 => ?_
      exact ⟨_, _, _, _, _, _, _, _, _, _, _, _, _, _, rfl, by
        have e : 1 + 30 * (i + 1) = 1 + 30 * i + 30 := by omega
        rw [e]
        exact J2⟩
    · rintro σ H1 ⟨c4, c5, c6, c7, c8, c9, c10, c11, c12, c13, c14, c15, c16, c17, rfl, J⟩
      exact rL _ H1 _ _ _ _ _ _ _ _ _ _ _ _ _ _ _ _ _ _ fun H2 => q H2
end
end Bs
set_option Elab.async false
set_option linter.all false
set_option maxRecDepth 100000
set_option maxHeartbeats 4000000
/-! the head, with the defs behind properties -/
namespace L2
namespace Pl
open PySem PySem.Spec PyProof.Rows
abbrev PrD : Type := (Str × Str) × He.DefD
/-- the def behind the property q.2 of the class q.1 -/
def gAd (K : Fr) (q : Str × Str) : Addr := match PySem.W.recIn K (He.ma K (He.ga K q.1) q.2) "property" with
  | some (.ref g :: _) => g
  | _ => 0
def fnAt (K : Fr) (a : Addr) : He.FnW := match K.lookup a with
  | some ob => (match ob.data with
    | .func u => some (u.name, u.qualname, u.params, u.body, u.scope, u.globals, u.closure, u.builtins)
    | _ => none)
  | none => none
def goodAt (K : Fr) (a : Addr) (d : He.DefD) : Bool := PySem.W.keepIn K (.ref a) && (match K.lookup a with
  | some ob => (match ob.data with
    | .func u => PySem.W.codeIn K u.code d.qual && (He.dflB K u.defaults (d.dvs K) && He.kwdB K u.kwdefaults (d.kws K))
    | _ => false)
  | none => false)
theorem funAt {K : Fr} {a : Addr} {d : He.DefD} (e : fnAt K a = d.val) (c : goodAt K a d = true) : ∃ fd, FunD K d.name d.qual d.params d.body d.scope (d.dvs K) (d.kws K) a fd := by
  obtain ⟨kp, c⟩ := He.ba c
  unfold fnAt at e
  cases q : K.lookup a with
  | none =>
    simp only [q] at e
    cases e
  | some ob =>
    simp only [q] at e c
    obtain ⟨oc, od, dt, sl⟩ := ob
    cases dt with
    | func u =>
      obtain ⟨u1, u2, u3, u4, u5, u6, u7, u8, u9, u10, u11, u12, u13, u14, u15⟩ := u
      simp only [He.DefD.val, Option.some.injEq, Prod.mk.injEq] at e
      obtain ⟨z1, z2, z3, z4, z5, z6, z7, z8⟩ := e
      dsimp only at c
      obtain ⟨k1, c⟩ := He.ba c
      obtain ⟨k2, k3⟩ := He.ba c
      subst z1 z2 z3 z4 z5 z6 z7 z8
      refine ⟨_, ⟨oc, od, u8, u9, u10, u11, u12, u13, u14, sl, rfl, q, k1, ?_, ?_⟩, kp⟩
      · exact He.dflB_ok k2
      · exact He.kwdB_ok k3
    | _ => cases e
def propB (K : Fr) (q : Str × Str) : Bool :=
  isB (PySem.W.findIn K (.ref (He.ga K q.1)) q.2) (some (some (.ref (He.ma K (He.ga K q.1) q.2)))) && (isB (PySem.W.specialIn K (.ref (He.ma K (He.ga K q.1) q.2)) "__get__") (some (some (.builtin "property.__get__"))) && (decide (PySem.W.takesIn K (.ref (He.ma K (He.ga K q.1) q.2)) = some true) &&
  (match PySem.W.recIn K (He.ma K (He.ga K q.1) q.2) "property" with
    | some (.ref _ :: _) => true
    | _ => false)))
theorem prop_ok {K : Fr} {q : Str × Str} (h : propB K q = true) : PropOf K (He.ga K q.1) q.2 (He.ma K (He.ga K q.1) q.2) (gAd K q) := by
  obtain ⟨h1, h⟩ := He.ba h
  obtain ⟨h2, h⟩ := He.ba h
  obtain ⟨h3, h4⟩ := He.ba h
  refine ⟨of_decide_eq_true h1, of_decide_eq_true h2, of_decide_eq_true h3, ?_⟩
  unfold gAd
  split at h4
  · rename_i g r e
    simp only [e]
    exact ⟨r, rfl⟩
  · cases h4
abbrev AlQ : Type := AlP × Bool × List He.FnW
def obsQK (fa : List He.Fa) (fn : List He.DefD) (pr : List PrD) (ex : Fr → Bool) (K : Fr) : AlQ := ((He.obsD fa fn K, ex K), (pr.all fun p => propB K p.1 && goodAt K (gAd K p.1) p.2), pr.map fun p => fnAt K (gAd K p.1))
def obsQ (n : Nat) (fa : List He.Fa) (fn : List He.DefD) (pr : List PrD) (ex : Fr → Bool) (g : Addr → Option Obj) : AlQ := obsQK fa fn pr ex (fragP n g)
structure SaysQ (fa : List He.Fa) (fn : List He.DefD) (pr : List PrD) (ex : Fr → Bool) (K : Fr) : Prop where
  d : He.SaysD fa fn K
  more : ex K = true
  ok : (pr.all fun p => propB K p.1 && goodAt K (gAd K p.1) p.2) = true
  defs : (pr.map fun p => fnAt K (gAd K p.1)) = pr.map fun p => p.2.val
def hookQ (n : Nat) (fa : List He.Fa) (fn : List He.DefD) (pr : List PrD) (ex : Fr → Bool) : PySem.W.Hook where
  α := AlQ
  obs := fun s => obsQ n fa fn pr ex s.heap.get?
  val := fun _ => ((He.valD fn, true), true, pr.map fun p : PrD => He.DefD.val p.2)
  says := fun _ h => ∃ K : Fr, K.In h ∧ SaysQ fa fn pr ex K
  of := fun _ _ e => ⟨_, He.frG_in, congrArg (fun z : AlQ => z.1.1) e, congrArg (fun z : AlQ => z.1.2) e, congrArg (fun z : AlQ => z.2.1) e, congrArg (fun z : AlQ => z.2.2) e⟩
  keeps := fun _ _ _ ⟨K, hK, c⟩ k => ⟨K, PySem.W.Frag.In.keeps hK k, c⟩
theorem obsQ_eq {n : Nat} {fa : List He.Fa} {fn : List He.DefD} {pr : List PrD} {ex : Fr → Bool} {g : Addr → Option Obj} {s : Shared} (h : ∀ a, g a = s.heap.get? a) : obsQ n fa fn pr ex g = (hookQ n fa fn pr ex).obs s := by
  have e : g = s.heap.get? := funext h
  rw [e] <;> rfl
theorem SaysQ.prop {fa : List He.Fa} {fn : List He.DefD} {pr : List PrD} {ex : Fr → Bool} {K : Fr} (c : SaysQ fa fn pr ex K) (i : Nat) {p : PrD} (h : pr[i]? = some p := by rfl) :
    PropOf K (He.ga K p.1.1) p.1.2 (He.ma K (He.ga K p.1.1) p.1.2) (gAd K p.1) ∧ ∃ fd, FunD K p.2.name p.2.qual p.2.params p.2.body p.2.scope (p.2.dvs K) (p.2.kws K) (gAd K p.1) fd := by
  obtain ⟨h1, h2⟩ := He.ba (List.all_eq_true.mp c.ok p (List.mem_of_getElem? h))
  have e : (pr.map fun p => fnAt K (gAd K p.1))[i]? = (pr.map fun p => p.2.val)[i]? := by rw [c.defs]
  rw [List.getElem?_map, List.getElem?_map, h] at e
  exact ⟨prop_ok h1, funAt (Option.some.inj e) h2⟩
/-! ### Store's own class, as the laws ask -/
def storeB (K : Fr) : Bool :=
  let C := He.ga K "Store"
  isB (PySem.W.findIn K (.ref C) "__class__") (some (some (.builtin "object.__class__"))) && (isB (PySem.W.specialIn K (.builtin "object.__class__") "__get__") (some (some (.builtin "getset_descriptor.__get__"))) && (decide (PySem.W.takesIn K (.builtin "object.__class__") = some true) && (decide (PySem.W.mroIn K C (.type "object") = some true) &&
  (decide (PySem.W.kitOne K (.ref C) (.ref C) = some true) && (isB (PySem.W.findIn K (.ref C) "__eq__") (some (some (.ref (He.ma K C "__eq__")))) && (PySem.W.isFn K (.ref (He.ma K C "__eq__")) && isB (PySem.W.findIn K (.ref C) "__ne__") (some (some (.builtin "object.__ne__")))))))))
def raB (K : Fr) (x f : Str) : Bool := excB K x f && xfB K (He.ga K x)
end Pl
end L2
set_option Elab.async false
set_option linter.all false
set_option maxRecDepth 100000
set_option maxHeartbeats 0
namespace L2
namespace Pl
open PySem PySem.Spec PyProof.Rows
/-- an empty tuple stands at a -/
def emptyAt (K : Fr) (a : Addr) : Bool := match K.lookup a with
  | some ⟨.type c, _, .seq its _, _⟩ => decide (c = "tuple") && decide (its.toList = [])
  | _ => false
theorem emptyAt_ok {K : Fr} {a : Addr} (h : emptyAt K a = true) (H : Hp) : SqT K H a [] := by
  unfold emptyAt at h
  cases q : K.lookup a with
  | none =>
    rw [q] at h
    cases h
  | some o =>
    obtain ⟨oc, od, dt, osl⟩ := o
    rw [q] at h
    cases oc with
    | type c =>
      cases dt with
      | seq its n =>
        obtain ⟨h1, h2⟩ := He.ba (show (decide (c = "tuple") && decide (its.toList = [])) = true from h)
        have e : its.toList = [] := of_decide_eq_true h2
        refine .inr ⟨_, its, n, q, congrArg Value.type (of_decide_eq_true h1), rfl, ?_, ?_⟩
        · have : its.size = 0 := by rw [← Array.length_toList, e]; rfl
          rw [this]
          exact Nat.zero_le _
        · rw [e]
          exact .nil
      | _ => cases h
    | _ => cases dt <;> cases h
def subB (K : Fr) (C : Addr) (t : String) : Bool := decide (PySem.W.subIn K (.type t) (.ref C) = some false)
def kitB2 (K : Fr) (C : Addr) (t : String) : Bool := decide (PySem.W.kitOne K (.type t) (.ref C) = some false)
def noSubB (K : Fr) (C : Addr) : Bool := subB K C "NoneType" && (subB K C "bool" && (subB K C "int" && (subB K C "str" && (subB K C "list" && (subB K C "tuple" && subB K C "dict")))))
theorem noSub_ok {K : Fr} {C : Addr} (h : noSubB K C = true) : NoSub K C := by
  obtain ⟨h1, h⟩ := He.ba h
  obtain ⟨h2, h⟩ := He.ba h
  obtain ⟨h3, h⟩ := He.ba h
  obtain ⟨h4, h⟩ := He.ba h
  obtain ⟨h5, h⟩ := He.ba h
  obtain ⟨h6, h7⟩ := He.ba h
  exact ⟨of_decide_eq_true h1, of_decide_eq_true h2, of_decide_eq_true h3, of_decide_eq_true h4, of_decide_eq_true h5, of_decide_eq_true h6, of_decide_eq_true h7⟩
def noKitB (K : Fr) (C : Addr) : Bool := kitB2 K C "NoneType" && (kitB2 K C "int" && (kitB2 K C "str" && (kitB2 K C "tuple" && kitB2 K C "dict")))
theorem noKit_ok {K : Fr} {C : Addr} (h : noKitB K C = true) : NoKit K C := by
  obtain ⟨h1, h⟩ := He.ba h
  obtain ⟨h2, h⟩ := He.ba h
  obtain ⟨h3, h⟩ := He.ba h
  obtain ⟨h4, h5⟩ := He.ba h
  exact ⟨of_decide_eq_true h1, of_decide_eq_true h2, of_decide_eq_true h3, of_decide_eq_true h4, of_decide_eq_true h5⟩
/-- an own class with an own ==, as the laws ask -/
def ownB (K : Fr) (x : Str) : Bool :=
  let C := He.ga K x
  isB (PySem.W.findIn K (.ref C) "__class__") (some (some (.builtin "object.__class__"))) && (isB (PySem.W.specialIn K (.builtin "object.__class__") "__get__") (some (some (.builtin "getset_descriptor.__get__"))) && (decide (PySem.W.takesIn K (.builtin "object.__class__") = some true) && (decide (PySem.W.mroIn K C (.type "object") = some true) &&
  (decide (PySem.W.kitOne K (.ref C) (.ref C) = some true) && (isB (PySem.W.findIn K (.ref C) "__eq__") (some (some (.ref (He.ma K C "__eq__")))) && (PySem.W.isFn K (.ref (He.ma K C "__eq__")) && isB (PySem.W.findIn K (.ref C) "__ne__") (some (some (.builtin "object.__ne__")))))))))
theorem own_ok {K : Fr} {x : Str} (c : ownB K x = true) : PlE K (He.ga K x) ∧ NeC K (He.ga K x) (He.ma K (He.ga K x) "__eq__") := by
  obtain ⟨h1, h⟩ := He.ba c
  obtain ⟨h2, h⟩ := He.ba h
  obtain ⟨h3, h⟩ := He.ba h
  obtain ⟨h4, h⟩ := He.ba h
  obtain ⟨h5, h⟩ := He.ba h
  obtain ⟨h6, h⟩ := He.ba h
  obtain ⟨h7, h8⟩ := He.ba h
  exact ⟨⟨of_decide_eq_true h1, of_decide_eq_true h2, of_decide_eq_true h3, of_decide_eq_true h4, of_decide_eq_true h5⟩, ⟨of_decide_eq_true h6, h7, of_decide_eq_true h8, of_decide_eq_true h4⟩⟩
end Pl
end L2
namespace Bs
open PySem PySem.Spec PyProof.Rows L2 L2.Pl
def glD (x : Str) (i : Nat) : He.DefD := ⟨(x, none), x, x, defArgs (top i), defBody (top i), defScope (top i), [], []⟩
def meD (C m : Str) (i j : Nat) : He.DefD := ⟨(C, some m), m, C ++ "." ++ m, defArgs (inClass (top i) j), defBody (inClass (top i) j), defScope (inClass (top i) j), [], []⟩
def pInit : Str × Option Str := ("Plan", some "__init__")
def iniD : He.DefD := ⟨pInit, "__init__", "Plan.__init__", defArgs (inClass (top 10) 0), defBody (inClass (top 10) 0), defScope (inClass (top 10) 0), [.adr (He.dflAt pInit 0)], [("tries", .int 1)]⟩
def glos : List (Str × Nat) := [("is_between", 4), ("right_guards", 9), ("_law_source", 12), ("_law_draw", 13), ("_law_pick", 14), ("_law_due", 15), ("_law_told", 16), ("law", 17)]
def fn : List He.DefD := glos.map (fun p => glD p.1 p.2) ++ [iniD, meD "Plan" "__eq__" 10 1, meD "BadPlan" "__init__" 2 0]
def pr : List PrD := [(("Plan", "way"), meD "Plan" "way" 10 2), (("Plan", "guards"), meD "Plan" "guards" 10 3), (("Plan", "tries"), meD "Plan" "tries" 10 4)]
def faA : List He.Fa := glos.map (fun p => .glo p.1)
def faB : List He.Fa := [.glo "Plan", .glo "WAYS", .glo "GUARDS", .free "len", .free "int", .free "isinstance", .free "range", .free "max", .free "min", .free "enumerate", .free "list", .free "dict", .free "tuple", .free "zip", .free "set", .free "all", .free "str", .free "repr", .free "sorted", .free "bool"]
def faC : List He.Fa := [.int "MOST_TRIES" 3, .cls "Plan", .noat "Plan" "_way", .noat "Plan" "_guards", .noat "Plan" "_tries", .mkr "Plan", .exm "BadPlan" "BadPlan" true]
def fa : List He.Fa := faA ++ (faB ++ faC)
def ex (K : Fr) : Bool := raB K "BadPlan" "value" && (ownB K "Plan" && (sysB K && (He.tupB K "WAYS" [.str "letter", .str "key", .str "all"] && (He.tupB K "GUARDS" [.str "once", .str "stamp"] && (emptyAt K (He.dflAt pInit 0 K) && (noSubB K (He.ga K "Plan") && noKitB K (He.ga K "Plan")))))))
abbrev R : PySem.W.OpenRow := PySem.W.OpenLaw.row rw0
abbrev hk : PySem.W.Hook := hookQ 6 fa fn pr ex
def ob (s : PySem.W.SharedT) : AlQ := obsQ 6 fa fn pr ex (HandSHeadRun.getT s)
theorem ob_eq (s : PySem.W.SharedT) : ob s = hk.obs s.abs := obsQ_eq (HandSHeadRun.getT_eq s)
def loose : List Str := ["LateError", "BadPlan", "is_between", "WAYS", "GUARDS", "MOST_TRIES", "right_guards", "Plan", "_law_source", "_law_draw", "_law_pick", "_law_due", "_law_told"]
theorem run (w : World) : HandSHeadRun.RunEq R (PySem.W.view R.prog [17]) hk ob 8000 loose w := by
  intro os
  kernel_rfl
end Bs
set_option Elab.async false
set_option linter.all false
set_option maxRecDepth 100000
set_option maxHeartbeats 4000000
namespace Bs
open PySem PySem.Spec PyProof.Rows L2 L2.Pl
section
variable {P : Program} {w : World} {K : PySem.W.Frag} {mg : Str → Option Value} {base : Heap}
theorem raise_ok {h : Heap} (X : K.In h) (G : h.Ns mainGlobals mg) {x f qual : Str} {params : Arguments} {scope : Scope} {fd : FuncData} {q1 q2 q3 q4 : Pos} (c : raB K x f = true) (F : FunD K "__init__" qual params [.Assign [.Attribute (.Name "self" q1) f q2] (.Name f q3) q4] scope [] [] (He.ma K (He.ga K x) "__init__") fd)
    (S : FnScope ["self", f] ["self", f] scope) (v1 : scope.names.lookup ("self" : Str) = some NameKind.local) (v2 : scope.names.lookup f = some NameKind.local) (d1 : (f == ("__debug__" : Str)) = false) (d2 : (f == ("__classdict__" : Str)) = false)
    (hb : L2.Binds K fd ["self", f] []) : RaF P w K mg base x f (He.ga K x) := by
  obtain ⟨c1, c2⟩ := He.ba c
  have e := exc_ok c1
  exact ⟨e.o, xfB_ok c2, e.nf, PySem.W.mg_of X G e.gl, _, fd, e.iC, e.tI, ini_ok F S v1 v2 d1 d2 e.o e.nf, hb⟩
abbrev PP : List Str := ["self", "way", "guards", "tries"]
theorem facts {P : Program} {w : World} {K : Fr} {h : Heap} {mg : Str → Option Value} {f : Addr} (X : K.In h) (G : h.Ns mainGlobals mg) (hfa : mg ("law" : Str) = some (.ref f)) (c : SaysQ fa fn pr ex K) :
    ∃ fd : FuncData, (∀ (s : Shared) (v : Value), BindsTo s fd ⟨[v], []⟩ [("script", v)]) ∧ ∀ base : Heap, K.In base → base.Ns mainGlobals mg → FnG P w K mg base CX0 6 f fd ["script"] (spLaw K) := by
  obtain ⟨m1, m2⟩ := He.ba c.more
  obtain ⟨m2, m3⟩ := He.ba m2
  obtain ⟨m3, m4⟩ := He.ba m3
  obtain ⟨m4, m5⟩ := He.ba m4
  obtain ⟨m5, m6⟩ := He.ba m5
  obtain ⟨m6, m7⟩ := He.ba m6
  obtain ⟨m7, m8⟩ := He.ba m7
  obtain ⟨plE, neC⟩ := own_ok m2
  have hSys := sys_ok m3
  have free : ∀ {x : Str} (i : Nat), fa[i]? = some (.free x) → mg x = none := fun i e => He.free_ok X G (c.d.fact i e)
  have gn : Gn mg := ⟨free 11 rfl, free 12 rfl, free 13 rfl, free 14 rfl, free 15 rfl, free 16 rfl, free 17 rfl, free 18 rfl, free 19 rfl, free 20 rfl, free 21 rfl, free 22 rfl, free 23 rfl, free 24 rfl, free 25 rfl⟩
  have hso : mg "sorted" = none := free 26 rfl
  have hbo : mg "bool" = none := free 27 rfl
  have g : ∀ {x : Str} (i : Nat), fa[i]? = some (.glo x) → mg x = some (.ref (He.ga K x)) := fun i e => He.glo_ok X G (c.d.fact i e)
  have e := hfa.symm.trans (g (x := "law") 7 rfl)
  cases e
  have cst : CstG K mg := ⟨⟨_, g 10 rfl, fun H => He.tupB_ok m5 H⟩, ⟨_, g 9 rfl, fun H => He.tupB_ok m4 H⟩, He.int_ok X G (c.d.fact (f := .int "MOST_TRIES" 3) 28 rfl)⟩
  have plF : PlF K mg (He.ga K "Plan") := ⟨He.cls_ok (c.d.fact (f := .cls "Plan") 29 rfl), He.noat_ok (c.d.fact (f := .noat "Plan" "_way") 30 rfl), He.noat_ok (c.d.fact (f := .noat "Plan" "_guards") 31 rfl), He.noat_ok (c.d.fact (f := .noat "Plan" "_tries") 32 rfl), g 8 rfl⟩
  have mk := He.mkr_ok (c.d.fact (f := .mkr "Plan") 33 rfl)
  have exm := He.exm_ok (c.d.fact (f := .exm "BadPlan" "BadPlan" true) 34 rfl)
  obtain ⟨d0, F0⟩ := c.d.def_ 0 (d := glD "is_between" 4) rfl
  have b0 := FunD.bindsN (ps := ["value", "least", "most"]) F0 fun _ _ _ _ _ _ us hl => match us, hl with | [_, _, _], _ => rfl
  obtain ⟨d1, F1⟩ := c.d.def_ 1 (d := glD "right_guards" 9) rfl
  have b1 := FunD.bindsN (ps := ["value"]) F1 fun _ _ _ _ _ _ us hl => match us, hl with | [_], _ => rfl
  obtain ⟨d2, F2⟩ := c.d.def_ 2 (d := glD "_law_source" 12) rfl
  have b2 := FunD.bindsN (ps := ["script", "start"]) F2 fun _ _ _ _ _ _ us hl => match us, hl with | [_, _], _ => rfl
  obtain ⟨d3, F3⟩ := c.d.def_ 3 (d := glD "_law_draw" 13) rfl
  have b3 := FunD.bindsN (ps := ["source", "span"]) F3 fun _ _ _ _ _ _ us hl => match us, hl with | [_, _], _ => rfl
  obtain ⟨d4, F4⟩ := c.d.def_ 4 (d := glD "_law_pick" 14) rfl
  have b4 := FunD.bindsN (ps := ["source", "things"]) F4 fun _ _ _ _ _ _ us hl => match us, hl with | [_, _], _ => rfl
  obtain ⟨d5, F5⟩ := c.d.def_ 5 (d := glD "_law_due" 15) rfl
  have b5 := FunD.bindsN (ps := ["way", "guards", "number"]) F5 fun _ _ _ _ _ _ us hl => match us, hl with | [_, _, _], _ => rfl
  obtain ⟨d6, F6⟩ := c.d.def_ 6 (d := glD "_law_told" 16) rfl
  have b6 := FunD.bindsN (ps := ["way", "guards", "number"]) F6 fun _ _ _ _ _ _ us hl => match us, hl with | [_, _, _], _ => rfl
  obtain ⟨d7, F7⟩ := c.d.def_ 7 (d := glD "law" 17) rfl
  have b7 := FunD.bindsA (ps := ["script"]) F7 fun _ _ _ _ _ _ us hl => match us, hl with | [_], _ => rfl
  obtain ⟨d8, F8⟩ := c.d.def_ 8 (d := iniD) rfl
  obtain ⟨its, mv, k8⟩ := FunD.kbinds (ps := PP) F8 3 ["tries"] [] (fun us _ _ zs => us ++ zs) (fun z => by cases z) (fun z => by cases z) (fun q hq => by cases hq) (fun r1 _ _ r4 => r1.append r4) fun _ _ _ _ _ _ _ us its mv ws l1 l2 l3 l4 => match us, its, mv, ws, l1, l2, l3, l4 with
    | [_, _, _], [_], [], [_], _, _, _, _ => ⟨_, rfl, rfl⟩
  obtain ⟨ds1, v81, b81⟩ := FunD.binds (ps := PP) F8 2 0 (fun z => by cases z) rfl (fun _ _ _ _ _ _ _ us its ks l1 l2 l3 => match us, its, ks, l1, l2, l3 with
    | [_, _], [_], [_], _, _, _ => ⟨_, rfl, _, _, _, _, _, _, rfl, rfl, rfl⟩) (fun z => by cases z)
  obtain ⟨ds2, v82, b82⟩ := FunD.binds (ps := PP) F8 3 1 (fun z => by cases z) rfl (fun _ _ _ _ _ _ _ us its ks l1 l2 l3 => match us, its, ks, l1, l2, l3 with
    | [_, _, _], [_], [_], _, _, _ => ⟨_, rfl, _, _, _, _, _, _, rfl, rfl, rfl⟩) (fun z => by cases z)
  obtain ⟨d9, F9⟩ := c.d.def_ 9 (d := meD "Plan" "__eq__" 10 1) rfl
  have b9 := FunD.bindsN (ps := ["self", "other"]) F9 fun _ _ _ _ _ _ us hl => match us, hl with | [_, _], _ => rfl
  obtain ⟨d10, F10⟩ := c.d.def_ 10 (d := meD "BadPlan" "__init__" 2 0) rfl
  have b10 := FunD.bindsN (ps := ["self", "value"]) F10 fun _ _ _ _ _ _ us hl => match us, hl with | [_, _], _ => rfl
  obtain ⟨p_way, d_way, F_way⟩ := c.prop 0 (p := (("Plan", "way"), meD "Plan" "way" 10 2)) rfl
  have b_way := FunD.bindsN (ps := ["self"]) F_way fun _ _ _ _ _ _ us hl => match us, hl with | [_], _ => rfl
  obtain ⟨p_guards, d_guards, F_guards⟩ := c.prop 1 (p := (("Plan", "guards"), meD "Plan" "guards" 10 3)) rfl
  have b_guards := FunD.bindsN (ps := ["self"]) F_guards fun _ _ _ _ _ _ us hl => match us, hl with | [_], _ => rfl
  obtain ⟨p_tries, d_tries, F_tries⟩ := c.prop 2 (p := (("Plan", "tries"), meD "Plan" "tries" 10 4)) rfl
  have b_tries := FunD.bindsN (ps := ["self"]) F_tries fun _ _ _ _ _ _ us hl => match us, hl with | [_], _ => rfl
  refine ⟨d7, fun s v => b7 s [v] rfl, fun base _ _ => ?_⟩
  have raN : RaF P w K mg base "BadPlan" "value" (He.ga K "BadPlan") := raise_ok X G m1 F10 ⟨rfl, rfl, rfl, by decide +kernel, rfl, by decide +kernel, by decide +kernel⟩ rfl rfl (by decide +kernel) (by decide +kernel) b10
  have hSource : Has P w K mg base CX0 "_law_source" 1 ["script", "start"] (spSource K) := ⟨_, _, ok_source gn F2, b2, g 2 rfl, F2.kp⟩
  have hDraw : Has P w K mg base CX0 "_law_draw" 1 ["source", "span"] spDraw := ⟨_, _, ok_draw gn F3, b3, g 3 rfl, F3.kp⟩
  have hPick : Has P w K mg base CX0 "_law_pick" 2 ["source", "things"] (spPick K) := ⟨_, _, ok_pick gn F4 hDraw, b4, g 4 rfl, F4.kp⟩
  have hBet : Has P w K mg base CX0 "is_between" 1 ["value", "least", "most"] (spBetween K) := ⟨_, _, ok_between gn hbo F0, b0, g 0 rfl, F0.kp⟩
  have hGu : Has P w K mg base CX0 "right_guards" 2 ["value"] (spGuards K) := ⟨_, _, ok_guards gn cst F1, b1, g 1 rfl, F1.kp⟩
  have hDue : Has P w K mg base CX0 "_law_due" 2 ["way", "guards", "number"] (spDue K) := ⟨_, _, ok_due gn hso hbo F5, b5, g 5 rfl, F5.kp⟩
  have oInit := ok_planI (P := P) (w := w) (base := base) gn hso cst plF raN F8 hGu hBet
  have plM : PlM P w K mg base (He.ga K "Plan") (He.ga K "BadPlan") := ⟨⟨_, _, _, ok_plWay plF F_way, b_way, p_way⟩, ⟨_, _, _, ok_plGuards plF F_guards, b_guards, p_guards⟩, ⟨_, _, _, ok_plTries plF F_tries, b_tries, p_tries⟩, ⟨_, _, _, mk, oInit, k8⟩, ⟨_, _, ok_plEq gn plF plE F9, b9, neC⟩⟩
  have plD : PlD P w K mg base (He.ga K "Plan") (He.ga K "BadPlan") := ⟨_, _, _, _, _, mk, oInit, emptyAt_ok m6, v81, b81, v82, b82⟩
  have hTold := ok_told (P := P) (w := w) (base := base) gn hSys plF plM raN exm F6
  exact ok_law gn hSys plF plM plD (noSub_ok m7) (noKit_ok m8) hSource hPick hDue ⟨_, _, hTold, b6, g 6 rfl, F6.kp⟩ F7
end
end Bs
set_option Elab.async false
set_option linter.all false
set_option maxRecDepth 100000
open PySem PySem.W PySem.Calls PyProof.Rows
set_option maxHeartbeats 0 in
theorem PySem.Challenge.cw_playedlate_k15_plans_made_holds : PySem.Challenge.rw_playedlate_k15_plans_made.Holds := by
  w_on; o_law
  refine HandSHeadRun.head_any (r := OpenLaw.row PySem.Challenge.rw_playedlate_k15_plans_made) (q := view (OpenLaw.row PySem.Challenge.rw_playedlate_k15_plans_made).prog [17]) (H := Bs.hk) (ob := Bs.ob) (M := 8000) (loose := Bs.loose) (d := HandSHeadRun.topDef (OpenLaw.row PySem.Challenge.rw_playedlate_k15_plans_made).prog 17) (kwd := []) Bs.ob_eq
    (by kernel_rfl) (fun s => by kernel_rfl) Bs.run (by kernel_rfl) (by kernel_rfl) (by kernel_rfl) (by rfl) (by first | assumption | decide +kernel) (by decide +kernel) ⟨rfl, rfl, rfl, rfl, rfl, by decide +kernel⟩ ?hw ?hc
  case hw => w_witness2
  case hc =>
    refine L2.Pl.walk_G (l := PySem.Challenge.rw_playedlate_k15_plans_made) (n := 63) (k := 6) (x := "script") (CX := fun _ => L2.CX0) rfl (by decide) (by kernel_rfl) ⟨rfl, by decide, by decide⟩ ?F (fun _ _ _ _ _ z => z)
    intro w mg fa h Y G hmg0
    obtain ⟨K, KX, c⟩ := Y
    have hmg : mg ("law" : PySem.Str) = some (.ref fa) := by
      have e : (HandSHeadRun.topDef (OpenLaw.row PySem.Challenge.rw_playedlate_k15_plans_made).prog 17).name = ("law" : PySem.Str) := by kernel_rfl
      rw [← e]
      exact hmg0
    obtain ⟨fd, hb, hF⟩ := Bs.facts (P := (PySem.Challenge.rw_playedlate_k15_plans_made).prog) (w := w) KX G hmg c
    exact ⟨K, fd, L2.Pl.spLaw K, KX, hb, fun H a ns hl hbits _ hS => ⟨a, ns, rfl, hS, hl, hbits, fun _ => rfl⟩, hF⟩
