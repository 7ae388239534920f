import PyProof.Rows.All
import Wide.All
import OpenK.AllK
import Wide.FinOn
import PyProof.EqAt
import PyProof.EqKinds
import PyProof.TupleCall
import PyProof.ReprRoads
import KE.KIsAll
import KE.KTryMore
import HandS.ForMost
import HandS.Exc
import HandS.ExcInit
import HandS.ExcField
import HandS.ExcIs
import HandS.IsInst
import HandS.Defaults
import HandS.Wide
import HandS.EndBits
import HandS.Head2
import HandS.HeadHook2
import HandS.Small
import HandS.Walk
import PyProof.ReprBulk
import PySem.Challenge.RW_playedlate_k46_errors_by_hand
set_option Elab.async false
set_option linter.all false
set_option maxRecDepth 100000
set_option maxHeartbeats 4000000
/-! # Own exceptions as values: made by place and by keyword, read, asked for their class; repr of data with dicts; defs of a caller that bears no repr. -/
namespace PlayL
open PySem PySem.W PySem.Calls PyProof.Rows PySem.HandSPX
/-! ### a keyword call of an exception class -/
section
variable {prog : Program} {w : World} {A : Around} {E : Value → Shared → Prop} {R : Result → Shared → Prop} {hp : Heap} {gs : Array GenState} {dr : Drawn} {tk : Nat} {os : OsState}
variable {cn cq : Str} {C cN : Addr} {cb cm : List Value} {slotn : List Str} {subs : List Value} {abst : Bool} {coll : Option Bool} {cdoc : Option Addr} {z0 z1 z2 z3 z5 : Option Value}
theorem mro_has (hm : refsVE cm = true) (nm : String) : (Value.ref C :: cm).contains (.type nm) = ([.type "ValueError", .type "Exception", .type "BaseException", .type "object"] : List Value).contains (.type nm) := by
  rw [List.contains_cons, refsVE_contains nm cm hm]
  rfl
/-- type.__call__ of the class with keywords alone: a new exception of no args, then the own __init__ with the keywords -/
theorem made_by_kw (hm : refsVE cm = true) {kws : List (Str × Value)} {f0 : Addr} {Q : Fin → Shared → Prop} (hC : hp.get? C = some (excClassObj cn cq C cN cb cm true slotn subs abst coll cdoc z0 z1 z2 z3 z5 "ValueError.__new__"))
    (found : Looks (model prog w) hp (typeLookup (.ref C) "__init__") (some (.ref f0))) (bound : ∀ me, Looks (model prog w) hp (bindSpecial (.ref f0) me) (.ref f0, [me]))
    (next : codeAny (model prog w) A (.call (.ref f0) ⟨[.ref (hp.objs.size + 1)], kws⟩)
      (fun r s' => match r with | .ok (.ret v) => v = .none ∧ Q (.done (.ret (.ref (hp.objs.size + 1)))) s' | .ok _ => False | .error e => E e s') ⟨(hp.push (kdv_tup [])).push (excO C hp.objs.size), gs, dr, tk, os⟩) :
    wpAny (model prog w) A (Builtin.«type.__call__» ⟨[.ref C], kws⟩) Q E ⟨hp, gs, dr, tk, os⟩ := by
  have G := F.excBase_ValueError
  have gn := G.noStar
  have ge := G.ends
  have mV := mro_has (C := C) hm "ValueError"
  have mA := mro_has (C := C) hm "AttributeError"
  have mN := mro_has (C := C) hm "NameError"
  rw [show ([.type "ValueError", .type "Exception", .type "BaseException", .type "object"] : List Value).contains (.type "ValueError") = true by decide +kernel] at mV
  rw [show ([.type "ValueError", .type "Exception", .type "BaseException", .type "object"] : List Value).contains (.type "AttributeError") = false by decide +kernel] at mA
  rw [show ([.type "ValueError", .type "Exception", .type "BaseException", .type "object"] : List Value).contains (.type "NameError") = false by decide +kernel] at mN
  -- the class is looked at
  repeat (first | with_reducible refine wpAny_loadPart_at hC ?_ | with_reducible refine wpAny_madeBy_exc hC ?_ | wp_step)
  refine codeAny_call_builtin_code (Code.quiet_builtin _ G.quiet) ?_
  -- its __new__ may be called so
  simp only [checkBuiltinCall, G.newKind, G.newSplit, G.newRow]
  repeat (first | refine wpAny_loadPart_at hC ?_ | (refine wpAny_isSubtype_exc hC ?_; rw [mV]) | refine wpAny_staticBase_exc hC ?_ | refine wpAny_madeBy_exc hC ?_ | simp only [bne_self_eq_false, Bool.false_eq_true, if_false] | wp_step)
  -- the new exception
  refine codeAny_builtinAt G.entry ?_
  unfold Builtin.«BaseException.__new__»
  refine PySem.wpAt_bind ?_
  show PySem.wpAt _ _ _ (stack >>= _) _ _ _
  refine PySem.wpAt_bind (PySem.wpAt_stack fun _ _ => PySem.wpAt_of_wpAny ?_)
  wp_walk
  refine PySem.wpAt_of_wpAny ?_
  rw [G.owner]
  repeat (first | with_reducible refine wpAny_madeHere_exc G.canon hC ?_ | with_reducible refine wpAny_loadPart_at hC ?_ | (with_reducible refine wpAny_isSubtype_exc hC ?_; first | rw [mV] | rw [mA] | rw [mN]) | wp_step)
  have grows : ∀ b o, hp.get? b = some o → ((hp.push (kdv_tup [])).push (excO C hp.objs.size)).get? b = some o := fun b o e => Heap.get?_push_of_some _ (Heap.get?_push_of_some _ e)
  have fresh : ((hp.push (kdv_tup [])).push (excO C hp.objs.size)).get? (hp.objs.size + 1) = some (excO C hp.objs.size) := by heap_get
  have self_in : (Value.ref C :: cm).contains (.ref C) = true := by simp
  have C' := grows _ _ hC
  have found' := found.keeps grows
  have bound' := (bound (.ref (hp.objs.size + 1))).keeps grows
  show wpAny _ _ _ _ _ _
  rw [Heap.size_push]
  refine wpAny_isSubtype_exc C' ?_
  rw [self_in]
  repeat (first | with_reducible refine wpAny_loadPart_at fresh ?_ | wp_step)
  show wpAny _ _ (typeLookup (.ref C) _) _ _ _
  refine found'.at (wpAny_holding (wpAny_bind (bound'.at (wpAny_bind (wpAny_call (codeAny_mono next fun r s' y => ?_))))))
  match r, y with
  | .error _, y => exact y
  | .ok .next, y => exact y.elim
  | .ok .brk, y => exact y.elim
  | .ok .cont, y => exact y.elim
  | .ok (.ret v), y =>
    obtain ⟨rfl, y⟩ := y
    first
      | exact wpAny_pure (wpAny_pure y)
      | (wp_walk; exact y)
theorem called_by_kw (hm : refsVE cm = true) {kws : List (Str × Value)} {f0 : Addr} (hC : hp.get? C = some (excClassObj cn cq C cN cb cm true slotn subs abst coll cdoc z0 z1 z2 z3 z5 "ValueError.__new__"))
    (found : Looks (model prog w) hp (typeLookup (.ref C) "__init__") (some (.ref f0))) (bound : ∀ me, Looks (model prog w) hp (bindSpecial (.ref f0) me) (.ref f0, [me]))
    (next : codeAny (model prog w) (A.under (.builtin "type.__call__" ⟨[.ref C], kws⟩)) (.call (.ref f0) ⟨[.ref (hp.objs.size + 1)], kws⟩) (InitBack (hp.objs.size + 1) R) ⟨(hp.push (kdv_tup [])).push (excO C hp.objs.size), gs, dr, tk, os⟩) :
    codeAny (model prog w) A (.call (.ref C) ⟨[], kws⟩) R ⟨hp, gs, dr, tk, os⟩ := by
  have l1 := tc_lookup
  have l2 := tc_bind (.ref C)
  have ty : (⟨hp, gs, dr, tk, os⟩ : Shared).TypeIs (.ref C) "type" := ⟨_, hC, rfl⟩
  refine codeAny_of_tree ?_
  show wpAny _ _ (callAny (.ref C) _) _ _ _
  repeat (any_goals (first | assumption | with_reducible refine wpAny_loadPart_at hC ?_ | wp_step))
  refine ⟨rfl, codeAny_call_builtin_at (Code.quiet_builtin _ (by decide +kernel)) entry_typeCall (wpAny_check_type_call_sub hC (made_by_kw hm hC found bound (codeAny_mono next fun r s' y => ?_)))⟩
  match r, y with
  | .error _, y => exact y
  | .ok .next, y => exact y
  | .ok .brk, y => exact y
  | .ok .cont, y => exact y
  | .ok (.ret _), y => exact y
end
/-! ### the class of an exception that has a dict -/
section
variable {prog : Program} {w : World} {A : Around} {E : Value → Shared → Prop} {s : Shared} {K : Frag} {x D : Addr} {ox : Obj} {od : Option Obj}
theorem asked_class (c : L2.ExcC K D) {Q : Option Value → Shared → Prop} (hK : K.In s.heap) (J : InstAt s.heap x ox D od) (q : Q (some (.ref D)) { s with toks := s.toks + 1 }) : wpAny (model prog w) A (getAttr? (.ref x) "__class__") Q E s := by
  obtain ⟨cd, hcd, _⟩ := any_some c.hd
  have hfind : findObj K D od "__class__" = some (.bind (.builtin "getset_descriptor.__get__") (.builtin "object.__class__")) := by
    unfold findObj
    rw [hcd, Option.bind_some, c.ha, Option.bind_some]
    simp [c.hn, c.ht]
  obtain ⟨hp, gs, dr, tk, os⟩ := s
  have l0 := J.type (M := model prog w)
  have l1 := looks_findIn (M := model prog w) hK c.hg
  have l2 := looks_findIn (M := model prog w) hK c.hk
  have l3 := looks_find (M := model prog w) hK J hfind
  have below : Looks (model prog w) hp (isInstance (.ref x) (.type "BaseException")) true := l0.andThen (looks_subIn hK c.hs)
  have other : (onTheHeap (Value.ref D) && Value.builtin "BaseException.__getattribute__" == Value.builtin "object.__getattribute__") = false := by
    rw [show (Value.builtin "BaseException.__getattribute__" == Value.builtin "object.__getattribute__") = false by decide +kernel]
    rfl
  unfold getAttr? getAttrBy? getAttrBy
  refine wpAny_bind (wpAny_mkText (wpAny_bind (wpAny_attempt (wpAny_holding (wpAny_bind (l0.at (wpAny_bind (l1.at ?_))))))))
  show wpAny _ _ (if (onTheHeap (Value.ref D) && Value.builtin "BaseException.__getattribute__" == Value.builtin "object.__getattribute__") = true then _ else _) _ _ _
  rw [other, if_neg Bool.false_ne_true]
  unfold getAttrByItsOwn hookBefore
  refine wpAny_bind ?_
  rw [if_pos (show onTheHeap (Value.ref D) = true from rfl)]
  refine l2.at (wpAny_bind (wpAny_attempt (wpAny_holding ?_)))
  unfold callGetattribute
  rw [show (false && onTheHeap (Value.builtin "BaseException.__getattribute__")) = false from rfl, if_neg Bool.false_ne_true]
  unfold boundAndCalled
  rw [PySem.F.excAttr_ValueError.ga.bind (.ref x)]
  refine wpAny_bind (wpAny_pure ?_)
  show wpAny _ _ (call (.builtin "BaseException.__getattribute__") [.ref x, .str "__class__" tk]) _ _ _
  refine wpAny_call (codeAny_call_builtin PySem.F.excAttr_ValueError.ga.plain PySem.F.entry_bexc_ga ?_)
  refine @check_slot (model prog w) _ _ ⟨hp, gs, dr, tk + 1, os⟩ "BaseException.__getattribute__" "BaseException" "__getattribute__" (.ref x) [.str "__class__" tk] [] _ (by decide +kernel) (by decide +kernel) below (PySem.F.args_bexc_ga (.ref x) (.str "__class__" tk)) ?_
  unfold Builtin.«object.__getattribute__»
  refine wpAny_bind (wpAny_of_eq (a := ((Value.ref x : Value), [Value.str "__class__" tk])) (by first | rfl | (simp only [slotArgs]; rfl)) (wpAny_bind (wpAny_pure (wpAny_bind (l0.at (wpAny_bind (l3.at ?_)))))))
  show wpAny _ _ (holding [Value.builtin "object.__class__"] (call (.builtin "getset_descriptor.__get__") [.builtin "object.__class__", .ref x, .ref D]) >>= ret) _ _ _
  refine wpAny_bind (wpAny_holding (wpAny_call (class_get (s := ⟨hp, gs, dr, tk + 1, os⟩) (ox := ox) (od := od) hK J c.hm (wpAny_pure ?_))))
  show wpAny _ _ (handedOut (.ref D)) _ _ _
  rw [handedOut_of (v := .ref D) rfl]
  first
    | exact wpAny_pure (wpAny_pure q)
    | exact wpAny_pure q
    | exact wpAny_pure (wpAny_bind (wpAny_pure (wpAny_pure q)))
theorem cls_obj {cd : ClassData} (h : clsIn K D = some cd) : ∃ c d sl, K.lookup D = some ⟨c, d, .cls cd, sl⟩ := by
  unfold clsIn at h
  split at h
  · rename_i e
    cases h
    exact ⟨_, _, _, e⟩
  · cases h
theorem kit_exc (c : L2.ExcC K D) : KitX K (.ref x) (.ref D) (fun h => InstAt h x ox D od) where
  ty := fun _ _ _ J => J.type
  it := fun _ _ hK _ => by
    obtain ⟨cd, hcd, _⟩ := any_some c.hd
    obtain ⟨_, _, _, e⟩ := cls_obj hcd
    intro A' Q' E' s' k q
    unfold isType loadHead
    exact wpAny_bind (wpAny_loadPart (k _ _ (hK _ _ e)) (wpAny_pure q))
  ne := fun h tp dd its n sl hK htp => by
    obtain ⟨cd, hcd, _⟩ := any_some c.hd
    obtain ⟨_, _, _, e⟩ := cls_obj hcd
    refine Bool.eq_false_iff.mpr fun q => ?_
    have same : D = tp := Value.ref.inj (beq_iff_eq.mp q)
    have two := (hK _ _ e).symm.trans (same ▸ htp)
    cases two
  ca := fun hK J q => asked_class c hK J q
end
end PlayL

set_option Elab.async false
set_option linter.all false
set_option maxRecDepth 100000
set_option maxHeartbeats 4000000
namespace L2
namespace Pl
open PySem PySem.Spec PyProof.Rows
/-! ### heaps in which one exception more stands: at a, its dict at d, its one attribute f -/
def exH (H : Hp) (a d C : Addr) (f : Str) (v : V) : Hp := upd (upd H d (exd d [(f, v)])) a (exo a C (some d))
section
variable {H : Hp} {a d C : Addr} {f : Str} {v : V}
theorem exH_at : exH H a d C f v a = some (exo a C (some d)) := upd_same
theorem exH_dict (h : d ≠ a) : exH H a d C f v d = some (exd d [(f, v)]) := (upd_ne h).trans upd_same
theorem exH_else {b : Addr} (h1 : b ≠ a) (h2 : b ≠ d) : exH H a d C f v b = H b := (upd_ne h1).trans (upd_ne h2)
theorem exH_same (h1 : H a = none) (h2 : H d = none) : Same H (exH H a d C f v) := fun b o e => (exH_else (ne_of_none e h1) (ne_of_none e h2)).trans e
theorem exH_over {o : HO} (h : d ≠ a) : upd (upd (upd H a o) d (exd d [(f, v)])) a (exo a C (some d)) = exH H a d C f v := funext fun b => by
  by_cases hb : b = a
  · rw [hb, upd_same, exH_at]
  · by_cases hd : b = d
    · rw [hd, upd_ne h, upd_same, exH_dict h]
    · rw [exH_else hb hd, upd_ne hb, upd_ne hd, upd_ne hb]
end
/-- self.f = f and no more -/
def spIni (C : Addr) (f : Str) : Sp := fun vs H Q _ => ∃ (a : Addr) (v : V), vs = [.ref a, v] ∧ H a = some (exo a C none) ∧ ∀ d, H d = none → d ≠ a → Q .non (exH H a d C f v)
/-- an own exception class x at C, its __init__ at fI stores its one argument in f -/
structure ExV (P : Program) (w : World) (K : PySem.W.Frag) (mg : Str → Option Value) (base : Heap) (x f : Str) (C fI : Addr) : Prop where
  gC : mg x = some (.ref C)
  o : OexC K C
  e : ExcC K C
  nf : PySem.W.findIn K (.ref C) f = some none
  iC : PySem.W.findIn K (.ref C) "__init__" = some (some (.ref fI))
  tI : PySem.W.typeIn K (.ref fI) = some (.type "function")
  ini : ∃ fd, FnOk P w K mg base CX0 1 fI fd ["self", f] (spIni C f) ∧ Binds K fd ["self", f] [] ∧ KBn K fd ["self", f] 1 [f] (fun us ws => us ++ ws) (fun vs zs => vs ++ zs)
/-- a new exception of the one argument -/
def tEx (C : Addr) (f : Str) (t : TA) : TE := fun σ H Q => t σ H fun vs H1 => ∃ v, vs = [v] ∧ ∀ a d, H1 a = none → H1 d = none → d ≠ a → Q (.ref a) (exH H1 a d C f v)
section
variable {X : Cx} {x f : Str} {C fI : Addr} {p pos kpos : Pos} {e : Expr} {t : TA} {te : TE} {pins : List (Addr × Obj)} {σ : St} {H : Hp} {s : Shared} {Q : VK} {v : V} {u : Value}
theorem ex_made (T : ExV X.prog X.w X.K X.mg X.base x f C fI) (hr : Room 2 X.A) (I : Inv X pins σ H s) (r : RelV v u) (us : List Value) (kw : List (Str × Value)) (hus : us.length ≤ sizeLine) (one : us = [u] ∧ kw = [] ∨ us = [] ∧ kw = [(f, u)])
    (h : ∀ a d, H a = none → H d = none → d ≠ a → Q (.ref a) (exH H a d C f v)) : wpAny (model X.prog X.w) X.A (call (.ref C) us kw) (EP X pins σ Q) X.xe s := by
  obtain ⟨cn, cq, cN, cb, cm, slotn, subs, abst, coll, cdoc, z0, z1, z2, z3, z5, hC, hm⟩ := T.o.cls
  obtain ⟨fd, ok1, bnd, kbnd⟩ := T.ini
  obtain ⟨hp, gs, dr, tk, os⟩ := s
  let e0 : Addr := hp.objs.size + 1
  have big : hp.objs.size ≤ e0 := Nat.le_succ _
  have he0 : H e0 = none := I.hok.fresh big
  let h2 : Heap := (hp.push (PySem.W.kdv_tup us)).push (PySem.HandSPX.excO C hp.objs.size)
  have laid : ∀ b o, hp.get? b = some o → h2.get? b = some o := fun b o q => Heap.get?_push_of_some _ (Heap.get?_push_of_some _ q)
  have at0 : h2.get? e0 = some (PySem.HandSPX.excO C hp.objs.size) := by
    show ((hp.push (PySem.W.kdv_tup us)).push (PySem.HandSPX.excO C hp.objs.size)).get? (hp.objs.size + 1) = _
    heap_get
  have J : Inv X pins σ (upd H e0 (exo e0 C none)) ⟨h2, gs, dr, tk, os⟩ := I.laid (t' := tk) laid big (exo_ok at0)
  have asks : spIni C f [V.ref e0, v] (upd H e0 (exo e0 C none)) (fun y H2 => y = .non ∧ Q (.ref e0) H2) (fun _ _ _ => False) :=
    ⟨_, _, rfl, upd_same, fun d hd hne => ⟨rfl, by
      have q := h e0 d he0 ((upd_ne hne).symm.trans hd) hne
      rw [← exH_over (o := exo e0 C none) hne] at q
      exact q⟩⟩
  have bt : ∀ s' : Shared, X.K.In s'.heap → BindsTo s' fd ⟨Value.ref e0 :: us, kw⟩ ((["self", f] : List Str).zip [Value.ref e0, u]) := fun s' hK => by
    rcases one with ⟨rfl, rfl⟩ | ⟨rfl, rfl⟩
    · exact bnd s' [.ref e0, u] hK rfl
    · exact kbnd.to s' [.ref e0] [u] hK rfl rfl
  have run := ok1.run (X.A.under (.builtin "type.__call__" ⟨.ref C :: us, kw⟩)) X.stack _ _ ⟨Value.ref e0 :: us, kw⟩ [Value.ref e0, u] _ _ (fun _ _ _ => False) (hr.make C us kw) (J.env0.make C us kw) (bt _ J.kIn) (show Vals [V.ref e0, v] [Value.ref e0, u] from .cons rfl (.cons r .nil)) asks
  have back := codeAny_mono (R' := PySem.W.InitBack e0 fun r s' => match r with | .ok (.ret y) => EP X pins σ Q y s' | .ok _ => False | .error er => X.xe er s') run fun r s' y => by
    match r, y with
    | .error _, y => exact y.elim
    | .ok .next, y => exact y.elim
    | .ok .brk, y => exact y.elim
    | .ok .cont, y => exact y.elim
    | .ok (.ret _), y =>
      obtain ⟨_, H3, I3, rv, rfl, q⟩ := J.after y
      exact ⟨rv, V.ref e0, H3, I3, rfl, q⟩
  have f1 := PySem.W.looks_findIn (M := model X.prog X.w) I.kIn T.iC
  have f2 : ∀ me, PySem.W.Looks (model X.prog X.w) hp (bindSpecial (.ref fI) me) (.ref fI, [me]) := fun me => PySem.W.bind_fn I.kIn me T.tI
  rcases one with ⟨rfl, rfl⟩ | ⟨rfl, rfl⟩
  · exact wpAny_call (PySem.HandSPX.call_own F.excBase_ValueError (fun Y => PySem.HandSPX.refsVE_contains Y cm hm) (I.kIn _ _ hC) f1 f2 hus back)
  · exact wpAny_call (PlayL.called_by_kw hm (I.kIn _ _ hC) f1 f2 back)
theorem pe_ex (T : ExV X.prog X.w X.K X.mg X.base x f C fI) (hr : Room 2 X.A) (hg : Gl X x) (ha : PA X [e] t)
    (hdb : (x == ("__debug__" : Str)) = false := by decide) (he : starEach [e] X.env = (false, eval e X.env) :: starEach [] X.env := by rfl) (hpl : (backTo pos (starEach [] X.env)).any (·.1) = false := by rfl) :
    PE X (.Call (.Name x p) [e] [] pos) (tEx C f t) := by
  refine ⟨fun pins s σ H Q I h => wpAny_Call_Name_kw (ld_glob I hg T.gC ?_ hdb)⟩
  refine PySem.W.callWith_K (h₀ := X.base) I.ok.mod.kin T.o.kC (thn (ha.run pos pins s σ H _ I h) fun us s1 ⟨vs, H1, I1, r, v, ev, q⟩ => ⟨I1.kIn, ?_⟩) he hpl
  subst ev
  obtain ⟨u, rfl, ru⟩ := vals1 r
  exact ex_made T hr I1 ru [u] [] (by show 1 ≤ sizeLine; rw [sizeLine_eq]; omega) (.inl ⟨rfl, rfl⟩) q
/-- C(f = e) -/
theorem pe_exK (T : ExV X.prog X.w X.K X.mg X.base x f C fI) (hr : Room 2 X.A) (hg : Gl X x) (he : PE X e te)
    (hdb : (x == ("__debug__" : Str)) = false := by decide) (hall : (backToKw pos (keywordEach [⟨some f, e, kpos⟩] X.env)).all (·.1.isSome) = true := by rfl) (hks : (backToKw pos (keywordEach [⟨some f, e, kpos⟩] X.env)).filterMap (·.1) = [f] := by rfl)
    (hpl : ((backTo pos (starEach [] X.env)).any (·.1) || (backToKw pos (keywordEach [⟨some f, e, kpos⟩] X.env)).any (·.1.isNone)) = false := by rfl) :
    PE X (.Call (.Name x p) [] [⟨some f, e, kpos⟩] pos) (tEx C f (tCons te tNil)) := by
  refine ⟨fun pins s σ H Q I h => wpAny_Call_Name_kw (ld_glob I hg T.gC ?_ hdb)⟩
  refine PySem.W.callWith_KW0 (h₀ := X.base) I.ok.mod.kin T.o.kC hall (thn ((pk_cons he pk_nil).run pos pins s σ H _ I h) fun ws s1 ⟨zs, H1, I1, r, v, ev, q⟩ => ⟨I1.kIn, ?_⟩) hpl
  rw [hks]
  subst ev
  obtain ⟨u, rfl, ru⟩ := vals1 r
  exact ex_made T hr I1 ru [] [(f, u)] (Nat.zero_le _) (.inr ⟨rfl, rfl⟩) q
end
/-! ### reading it, asking its class -/
/-- e.f, e an exception of the class at C that is tracked -/
def tXv (K : PySem.W.Frag) (f : Str) (te : TE) : TE := fun σ H Q => te σ H fun x H1 => ∃ (a C d : Addr) (fs : List (Str × V)) (v : V), x = .ref a ∧ H1 a = some (exo a C (some d)) ∧ H1 d = some (exd d fs) ∧ ExcC K C ∧ PySem.W.findIn K (.ref C) f = some none ∧ fs.lookup f = some v ∧ Q v H1
section
variable {X : Cx} {e : Expr} {te : TE} {f : Str} {pos : Pos}
theorem inst_at {pins : List (Addr × Obj)} {σ : St} {H : Hp} {s : Shared} {a C d : Addr} {fs : List (Str × V)} (I : Inv X pins σ H s) (ea : H a = some (exo a C (some d))) (ed : H d = some (exd d fs)) :
    ∃ (ox od : Obj), PySem.W.InstAt s.heap a ox C (some od) ∧ ∃ mA : Str → Option Value, (∀ f : Str, RelO (fs.lookup f) (mA f)) ∧ ∀ f : Str, PySem.W.lookIn f od = some (mA f) := by
  obtain ⟨t1, ho⟩ := exo_at I.hok ea
  obtain ⟨mA, hns, hrel⟩ := exd_at I.hok ed
  obtain ⟨od, hod, hl⟩ := lookIn_ns hns
  exact ⟨_, od, ⟨ho, rfl, rfl, hod⟩, mA, hrel, hl⟩
theorem pe_xv (he : PE X e te) (hb : attributeBase e f X.env (eval e X.env) = eval e X.env := by rfl) : PE X (.Attribute e f pos) (tXv X.K f te) := by
  refine ⟨fun pins s σ H Q I h => attr_of hb (thn (he.run pins s σ H _ I h) fun u s1 ⟨x, H1, I1, rx, a, C, d, fs, v, ex, ea, ed, c, no, l, q⟩ => ?_)⟩
  subst ex
  obtain rfl : u = Value.ref a := rx
  obtain ⟨ox, od, J, mA, hrel, hl⟩ := inst_at I1 ea ed
  obtain ⟨y, hy, ry⟩ := RelO.some_of (v := v) (o := mA f) (by rw [← l]; exact hrel f)
  exact PySem.HandSPX.exc_get I1.kIn J c.hg c.hk c.hs (PySem.W.findObj_own c.hd no rfl (by rw [hl, hy])) (handed_of ry) ⟨v, H1, I1.tok _, ry, q⟩
/-- isinstance(e, c) -/
def rIsV (K : PySem.W.Frag) : List V → Hp → VK → Prop := fun xs H Q => ∃ (a C d : Addr) (fs : List (Str × V)) (c : V) (cv : Value) (b : Bool), xs = [.ref a, c] ∧ H a = some (exo a C (some d)) ∧ H d = some (exd d fs) ∧ ExcC K C ∧ ClsV c cv ∧ PySem.W.kitOne K (.ref C) cv = some b ∧ Q (.bl b) H
theorem call_isV : CallR X (.builtin "isinstance") (rIsV X.K) := by
  intro pins s σ H xs us Q I r h
  obtain ⟨a, C, d, fs, c, cv, b, rfl, ea, ed, cc, kc, kit, q⟩ := h
  obtain ⟨u1, u2, rfl, r1, r2⟩ := vals2 r
  obtain rfl : u1 = Value.ref a := r1
  have e2 := kc.eq r2
  subst e2
  obtain ⟨ox, od, J, _⟩ := inst_at I ea ed
  exact PySem.W.kia_one (PlayL.kit_exc cc) I.kIn J kit (fun z => nomatch z) fun tk => ⟨.bl b, H, I.tok tk, rfl, q⟩
end
end Pl
end L2

set_option Elab.async false
set_option linter.all false
set_option maxRecDepth 100000
set_option maxHeartbeats 4000000
namespace L2
namespace Pl
open PySem PySem.Spec PyProof.Rows
/-! ### data: none, bools, ints, texts, lists, tuples, dicts with int and text keys -/
def keyD : Key → PyData
  | .inl i => .int i
  | .inr x => .str x
mutual
inductive Dq (K : PySem.W.Frag) (H : Hp) : V → PyData → Prop
  | non : Dq K H .non .none
  | bl (b : Bool) : Dq K H (.bl b) (.bool b)
  | int (i : Int) : Dq K H (.int i) (.int i)
  | str (x : Str) : Dq K H (.str x) (.str x)
  | lst {a : Addr} {xs : List V} {ds : List PyData} : H a = some (.lst xs) → DqAll K H xs ds → Dq K H (.ref a) (.list ds)
  | tup {a : Addr} {xs : List V} {ds : List PyData} : H a = some (.tup xs) → DqAll K H xs ds → Dq K H (.ref a) (.tuple ds)
  | dic {a : Addr} {kvs : List (Key × V)} {es : List (PyData × PyData)} : H a = some (.dK kvs) → DqKv K H kvs es → Dq K H (.ref a) (.dict es)
inductive DqAll (K : PySem.W.Frag) (H : Hp) : List V → List PyData → Prop
  | nil : DqAll K H [] []
  | cons {v : V} {vs : List V} {d : PyData} {ds : List PyData} : Dq K H v d → DqAll K H vs ds → DqAll K H (v :: vs) (d :: ds)
inductive DqKv (K : PySem.W.Frag) (H : Hp) : List (Key × V) → List (PyData × PyData) → Prop
  | nil : DqKv K H [] []
  | cons {k : Key} {v : V} {r : List (Key × V)} {d : PyData} {es : List (PyData × PyData)} : Dq K H v d → DqKv K H r es → DqKv K H ((k, v) :: r) ((keyD k, d) :: es)
end
/-- sys.modules stands in the written part -/
def SysK (K : PySem.W.Frag) : Prop := ∃ o, K.lookup sysModules = some o ∧ o.cls = .type "dict"
section
variable {X : Cx} {pins : List (Addr × Obj)} {σ : St} {H : Hp} {s : Shared}
theorem not_sys (hK : SysK X.K) (I : Inv X pins σ H s) {a : Addr} {o : Obj} (h : s.heap.get? a = some o) (hc : o.cls ≠ .type "dict") : sysModules ≠ a := fun e => by
  obtain ⟨u, hu, hd⟩ := hK
  have q := I.kIn _ _ hu
  rw [e, h] at q
  exact hc (by rw [Option.some.inj q, hd])
theorem pairs_of : ∀ {kvs : List (Key × V)} {vs : List (Key × Value)} {es : List (PyData × PyData)}, KV kvs vs → (∀ (i : Nat) (v : V) (d : PyData) (u : Value), (kvs[i]?.map (·.2)) = some v → (es[i]?.map (·.2)) = some d → RelV v u → ∃ as, Reads s.heap u d as ∧ sysModules ∉ as) →
    es.map (·.1) = kvs.map (fun p => keyD p.1) → ∃ bs, PyProof.V.PairsRead s.heap keyD vs es bs ∧ sysModules ∉ bs
  | [], _, [], .nil, _, _ => ⟨[], .nil, fun h => nomatch h⟩
  | _ :: _, _, [], _, _, e => by cases e
  | [], _, _ :: _, _, _, e => by cases e
  | (k, v) :: r, (k', u) :: us, (kd, d) :: es, .cons h1 h2, hr, e => by
    obtain ⟨e1, e2⟩ := List.cons.inj (show kd :: es.map (·.1) = keyD k :: r.map (fun p => keyD p.1) from e)
    obtain ⟨k1, k2⟩ := h1
    obtain ⟨bs, p, nb⟩ := pairs_of h2 (fun i v d u q1 q2 => hr (i + 1) v d u (by simpa using q1) (by simpa using q2)) e2
    obtain ⟨as, q, na⟩ := hr 0 v d u rfl rfl k2
    have k3 : k = k' := k1
    subst k3 e1
    exact ⟨_, .cons q p, fun h => (List.mem_append.mp h).elim na nb⟩
mutual
theorem Dq.reads (hK : SysK X.K) (I : Inv X pins σ H s) : ∀ (d : PyData) (v : V) (u : Value), Dq X.K H v d → RelV v u → ∃ as, Reads s.heap u d as ∧ sysModules ∉ as
  | .none, _, _, h, r => by
    cases h
    cases r
    exact ⟨_, Reads.none, fun h => nomatch h⟩
  | .bool b, _, _, h, r => by
    cases h
    cases r
    exact ⟨_, Reads.bool b, fun h => nomatch h⟩
  | .int i, _, _, h, r => by
    cases h
    obtain ⟨t, rfl⟩ := r
    exact ⟨_, Reads.int i t, fun h => nomatch h⟩
  | .str x, _, _, h, r => by
    cases h
    obtain ⟨t, rfl⟩ := r
    exact ⟨_, Reads.str x t, fun h => nomatch h⟩
  | .list ds, _, _, h, r => by
    cases h with
    | lst ha hx =>
      cases r
      obtain ⟨its, rv, ⟨o, n, ho, hc, _, hd⟩, _⟩ := I.list (.inl (.inl ha))
      obtain ⟨as, q, na⟩ := Dq.readsAll hK I ds _ its hx rv
      refine ⟨_, Reads.list ho hc hd q, fun h => ?_⟩
      rcases List.mem_cons.mp h with e | h
      · exact not_sys hK I ho (by rw [hc]; decide +kernel) e
      · exact na h
  | .tuple ds, _, _, h, r => by
    cases h with
    | tup ha hx =>
      cases r
      obtain ⟨its, rv, ⟨o, ho, hc, n, hd⟩, _⟩ := I.tuple (.inl (.inl ha))
      obtain ⟨as, q, na⟩ := Dq.readsAll hK I ds _ its hx rv
      exact ⟨_, Reads.tuple ho hc hd q, na⟩
  | .dict es, _, _, h, r => by
    cases h with
    | dic ha hx =>
      cases r
      rename_i a kvs
      obtain ⟨_, hS, vs, rel, hD⟩ := (show ObjOk X.prog X.w H s.heap a (.dK kvs) from I.hok a _ ha)
      obtain ⟨bs, p, nb⟩ := pairs_of (s := s) (es := es) rel (Dq.readsKv hK I es kvs hx).1 (Dq.readsKv hK I es kvs hx).2
      refine ⟨_, PyProof.V.reads_dictOf (fun k key hk => ?_) hD p, fun h => ?_⟩
      · rcases keyIs_shape (show keyIs k key = true from hk) with ⟨i, t, rfl, rfl⟩ | ⟨x, t, rfl, rfl⟩
        · exact Reads.int i t
        · exact Reads.str x t
      · rcases List.mem_cons.mp h with e | h
        · rw [← e] at hS
          exact absurd hS (by decide)
        · exact nb h
theorem Dq.readsAll (hK : SysK X.K) (I : Inv X pins σ H s) : ∀ (ds : List PyData) (vs : List V) (us : List Value), DqAll X.K H vs ds → Vals vs us → ∃ as, ReadsAll s.heap us ds as ∧ sysModules ∉ as
  | [], _, _, h, r => by
    cases h
    cases r
    exact ⟨_, ReadsAll.nil, fun h => nomatch h⟩
  | d :: ds, _, _, h, r => by
    cases h with
    | cons h1 h2 =>
      cases r with
      | cons r1 r2 =>
        obtain ⟨as, q1, n1⟩ := Dq.reads hK I d _ _ h1 r1
        obtain ⟨bs, q2, n2⟩ := Dq.readsAll hK I ds _ _ h2 r2
        exact ⟨_, ReadsAll.cons q1 q2, fun h => (List.mem_append.mp h).elim n1 n2⟩
theorem Dq.readsKv (hK : SysK X.K) (I : Inv X pins σ H s) : ∀ (es : List (PyData × PyData)) (kvs : List (Key × V)), DqKv X.K H kvs es → (∀ (i : Nat) (v : V) (d : PyData) (u : Value), (kvs[i]?.map (·.2)) = some v → (es[i]?.map (·.2)) = some d → RelV v u → ∃ as, Reads s.heap u d as ∧ sysModules ∉ as) ∧ es.map (·.1) = kvs.map (fun p => keyD p.1)
  | [], _, h => by
    cases h
    exact ⟨fun i v d u q1 _ _ => by simp at q1, rfl⟩
  | (kd, d) :: es, _, h => by
    cases h with
    | cons h1 h2 =>
      obtain ⟨q, e⟩ := Dq.readsKv hK I es _ h2
      refine ⟨fun i v d' u q1 q2 r => ?_, by rw [List.map_cons, List.map_cons, e]⟩
      cases i with
      | zero =>
        cases q1
        cases q2
        exact Dq.reads hK I d _ _ h1 r
      | succ i => exact q i v d' u (by simpa using q1) (by simpa using q2) r
end
end
/-- what a repr is told of -/
structure Shows (K : PySem.W.Frag) (H : Hp) (v : V) (d : PyData) : Prop where
  dat : Dq K H v d
  can : d.showable = true
  dep : d.depth ≤ 100
  len : d.shown.length ≤ sizeLine
/-- repr(x), x a list, a tuple or a dict of data -/
def rRepr (K : PySem.W.Frag) : List V → Hp → VK → Prop := fun xs H Q => ∃ (a : Addr) (d : PyData), xs = [.ref a] ∧ Shows K H (.ref a) d ∧ Q (.str d.shown) H
theorem call_reprD {X : Cx} {k : Nat} (hK : SysK X.K) (hg : X.A.guards = some []) (hr : Room k X.A) : CallR X (.builtin "repr") (rRepr X.K) := by
  intro pins s σ H xs us Q I r h
  obtain ⟨a, d, rfl, S, q⟩ := h
  obtain ⟨u, rfl, ru⟩ := vals1 r
  obtain rfl : u = Value.ref a := ru
  obtain ⟨as, rd, ns⟩ := Dq.reads hK I d _ _ S.dat rfl
  have z := hr.un
  have z2 := S.dep
  exact repr_of_reads' rd S.can (fun _ => ns) hg (by omega) (fun _ _ e => e) (fun h' t tk k => ⟨.str d.shown, H, I.kept (t' := tk) k, ⟨t, rfl⟩, q⟩) S.len
/-! ### powers of great ints -/
def CPowW (i j : Int) : Prop := 0 ≤ j ∧ (Builtin.Int.intBits i : Int) * j ≤ 2 ^ 27
theorem op_powW {X : Cx} : OpR X (binaryOp .Pow) (rI CPowW fun i j => .int (i ^ j.toNat)) := opI fun _ _ _ _ _ _ _ hc q => pow_int hc.1 hc.2 q
/-! ### defs that are called where no repr runs -/
structure FnG (P : Program) (w : World) (K : PySem.W.Frag) (mg : Str → Option Value) (base : Heap) (CX : CXT) (k : Nat) (f : Addr) (fd : FuncData) (ps : List Str) (sp : Sp) : Prop where
  len : ∀ vs H Q E, sp vs H Q E → vs.length = ps.length
  run : ∀ (A : Around), A.guards = some [] → ∀ (outer : List Env) (s : Shared) (H : Hp) (args : Args) (us : List Value) (vs : List V) (Q : VK) (E : XK), Room k A → Env0 P w K mg base A outer s H → BindsTo s fd args (ps.zip us) → Vals vs us → sp vs H Q E →
    codeAny (model P w) A (.call (.ref f) args) (CR CX outer P w H s Q E) s
section
variable {CX : CXT} {P : Program} {w : World} {K : PySem.W.Frag} {mg : Str → Option Value} {base : Heap} {k : Nat} {f : Addr}
theorem fnG_of {name qual : Str} {params : Arguments} {body : List Stmt} {scope : Scope} {dvs : List V} {kws : List (Str × V)} {fd : FuncData} {N ps : List Str} {sp : Sp} (F : FunD K name qual params body scope dvs kws f fd) (S : FnScope N ps scope)
    (len : ∀ vs H Q E, sp vs H Q E → vs.length = ps.length)
    (does : ∀ (cdv : Value) (A : Around), A.guards = some [] → ∀ (outer : List Env) (s : Shared) (H : Hp) (vs : List V) (Q : VK) (E : XK), Room k (A.deeper (envOfC qual scope s.heap.objs.size f cdv)) → sp vs H Q E →
      ∃ t, PSs (cxOf CX P w K mg base N qual scope f cdv A outer s H E) body t ∧ t { nx := fun _ H' => Q .non H', rt := Q } (start N vs) H) : FnG P w K mg base CX (k + 1) f fd ps sp := by
  obtain ⟨oc, od, dV, kV, doc, pm, an, cdv, ct, osl, rfl, lk, hcd, _, _⟩ := F.ex
  refine ⟨len, fun A hg outer s H args us vs Q E hr e0 hb r hsp => ?_⟩
  have old : ∀ b o, base.get? b = some o → s.heap.get? b = some o := fun b o e => (e0.bs b o e).1
  have hK : K.In s.heap := e0.mod.kin.keeps old
  refine codeAny_call_function hr.depth (hK _ _ lk) rfl S.co S.gen rfl (PySem.W.codeRec_of hK hcd) (hb _ _ _ _ (wpAny_newFunctionEnv_cells S.kind (fun y hy => ?_) fun env he s1 x => ?_))
  · rcases S.par y.1 (List.of_mem_zip (b := y.2) hy).1 with q | q
    · exact .inl q
    · exact .inr ⟨q, PySem.W.cellsFrom_some _ _ _ (.inl q)⟩
  · subst he
    obtain ⟨t, ht, hq⟩ := does cdv A hg outer s H vs Q E (hr.deeper _) hsp
    refine ⟨(e0.mod.nolimit.keeps old).keeps x.toInCall.keep, codeAny_func (wpAny_mono (ht.run [] s1 (start N vs) H _ (inv_start S hr.hd e0 (len _ _ _ _ hsp) r x) hq) (fun fl s' hs => ?_) fun _ _ hs => hs)⟩
    match fl, hs with
    | .ret u, ⟨v, _, H', J, rv, q⟩ => exact ⟨v, H', J.os, J.bare, J.base, J.hok, rv, q⟩
    | .next, ⟨_, H', J, q⟩ => exact ⟨.non, H', J.os, J.bare, J.base, J.hok, rfl, q⟩
    | .brk, ⟨_, _, _, q⟩ => exact q.elim
    | .cont, ⟨_, _, _, q⟩ => exact q.elim
end
end Pl
end L2

set_option Elab.async false
set_option linter.all false
set_option maxRecDepth 100000
set_option maxHeartbeats 4000000
namespace L2
namespace Pl
open PySem PySem.Spec PyProof.Rows
/-! ### the end of a law whose def may show things -/
section
variable {P : Program} {w : World} {K : PySem.W.Frag} {mg mb : Str → Option Value} {CX : CXT} {k : Nat} {fa a : Addr} {fd : FuncData} {x : Str} {sp : Sp} {s₁ : Shared} {vs : List Value} {ns : List Int}
abbrev scrO (vs : List Value) : Obj := { cls := .type "list", data := .seq vs.toArray }
/-- what is tracked at the law's entry: the script, if it is not of the written part -/
def entryH (K : PySem.W.Frag) (a : Addr) (vs : List Value) (ns : List Int) : Hp := fun b => if b = a ∧ K.lookup a = none then some (.frz (scrO vs) (.lst (ns.map V.int))) else none
theorem entryH_some {b : Addr} {u : HO} (h : entryH K a vs ns b = some u) : b = a ∧ K.lookup a = none ∧ u = .frz (scrO vs) (.lst (ns.map V.int)) := by
  unfold entryH at h
  split at h
  · rename_i e
    exact ⟨e.1, e.2, (Option.some.inj h).symm⟩
  · cases h
theorem law_runs (hK : K.In s₁.heap) (hns : s₁.heap.Ns mainGlobals mg) (hb : s₁.heap.Ns builtinsNs mb) (hbb : ∀ x : Str, x ≠ "__name__" → mb x = bootBuiltins x) (hlim : s₁.heap.NoLimit) (hg : s₁.gens = #[])
    (ha : s₁.heap.get? a = some (scrO vs)) (hi : IntsAre vs ns) (hl : ns.length ≤ sizeLine) (hr : Room k callerA)
    (F : ∀ base : Heap, K.In base → base.Ns mainGlobals mg → FnG P w K mg base CX k fa fd [x] sp) (hbind : ∀ (s : Shared) (u : Value), BindsTo s fd ⟨[u], []⟩ [(x, u)])
    (hsp : ∀ H : Hp, Only H → SqL K H a (ns.map V.int) → sp [.ref a] H (fun v _ => v = .bl true) fun _ _ _ => False)
    (hCX : ∀ H e s', CX [] H s₁ (fun _ _ _ => False) e s' → False) :
    codeAny (model P w) callerA (.call (.ref fa) ⟨[.ref a], []⟩) (fun r s' => r = .ok (.ret (.bool true)) ∧ OldK s₁.heap s'.heap ∧ s'.os = s₁.os ∧ AllBare s'.gens) s₁ := by
  let H : Hp := entryH K a vs ns
  have rel := vals_ints hi
  have short : (ns.map V.int).length ≤ sizeLine := by rw [List.length_map]; exact hl
  have only : Only H := fun b => by
    cases q : H b with
    | none => exact .inl rfl
    | some u => exact .inr ⟨_, _, by rw [(entryH_some q).2.2]⟩
  have held : HOk P w H s₁.heap := fun b u q => by
    obtain ⟨rfl, _, rfl⟩ := entryH_some q
    exact ⟨ha, short, vs, _, rel, ha⟩
  have script : SqL K H a (ns.map V.int) := by
    cases q : K.lookup a with
    | none => exact .inl (.inr ⟨scrO vs, if_pos ⟨rfl, q⟩⟩)
    | some o =>
      have e := (hK a o q).symm.trans ha
      have e2 : o = scrO vs := Option.some.inj e
      subst e2
      refine .inr ⟨_, vs.toArray, _, q, rfl, rfl, rfl, ?_, by simpa using rel⟩
      rw [List.size_toArray, hi.length]
      exact hl
  have stays : ∀ {b : Addr} {o : Obj}, s₁.heap.get? b = some o → (b = a → K.lookup a ≠ none) → (hidT s₁.heap H).get? b = some o := fun {b o} e n => hidT_get e (by
    cases q : H b with
    | none => rfl
    | some u =>
      obtain ⟨e1, e2, _⟩ := entryH_some q
      exact absurd e2 (n e1))
  have ofNs : ∀ {b : Addr} {m : Str → Option Value}, s₁.heap.Ns b m → (hidT s₁.heap H).Ns b m := fun {b m} ⟨o, es, ep, e, dd, rr⟩ => ⟨o, es, ep, stays e (fun z => by
    rw [z, ha] at e
    have e2 := Option.some.inj e
    rw [← e2] at dd
    cases dd), dd, rr⟩
  have ofK : K.In (hidT s₁.heap H) := fun b o e => stays (hK b o e) fun z q => by
    rw [z, q] at e
    cases e
  have modu : Mod K mg (hidT s₁.heap H) := ⟨ofK, ofNs hns, ⟨mb, ofNs hb, hbb⟩, hlim.elim fun c hc => ⟨c, ofNs hc.1, hc.2⟩⟩
  have env : Env0 P w K mg (hidT s₁.heap H) callerA [] s₁ H := ⟨rfl, modu, fun b o e => of_hidT e, Nat.le_of_eq (hidT_size _ _), trivial, (fun b hb => by cases hb), held, .of_eq hg⟩
  refine codeAny_mono ((F _ ofK (ofNs hns)).run callerA rfl [] s₁ H ⟨[.ref a], []⟩ [.ref a] [.ref a] _ _ hr env (hbind s₁ (.ref a)) (.cons rfl .nil) (hsp H only script)) fun r s' y => ?_
  match r, y with
  | .error e, y => exact (hCX H e s' y).elim
  | .ok .next, y => exact y.elim
  | .ok .brk, y => exact y.elim
  | .ok .cont, y => exact y.elim
  | .ok (.ret u), ⟨v, H', os, bare, un, held', ru, q⟩ =>
    subst q
    obtain rfl : u = Value.bool true := ru
    refine ⟨rfl, OldK.of_keep fun b o e => ?_, os, bare⟩
    cases q : H b with
    | none => exact un.keep b o e q (fun z => by cases z) (fun z => by cases z)
    | some t =>
      obtain ⟨rfl, _, rfl⟩ := entryH_some q
      have there := un.frzs b _ _ q
      have now := held' b _ there
      rw [ha] at e
      rw [← Option.some.inj e]
      exact now.1
end
/-- a law: F gives the written part, the function object, the promise; the script's bits are told, and that no repr runs around -/
theorem walk_G {l : PySem.W.OpenLaw} {n k : Nat} {q : Program} {loose : List Str} {XP : (Str → Option Value) → Heap → Prop} {YP : World → Heap → Prop} {d : DefRec} {CX : World → CXT} {x : Str}
    (hn : l.most = some n) (hn2 : n ≤ sizeLine) (hdf : d.params.defaults = []) (hr : Room k callerA)
    (F : ∀ (w : World) (mg : Str → Option Value) (fa : Addr) (h : Heap), YP w h → h.Ns mainGlobals mg → mg d.name = some (.ref fa) →
      ∃ (K : PySem.W.Frag) (fd : FuncData) (sp : Sp), K.In h ∧ (∀ (s : Shared) (u : Value), BindsTo s fd ⟨[u], []⟩ [(x, u)]) ∧
        (∀ (H : Hp) (a : Addr) (ns : List Int), ns.length ≤ n → (∀ z ∈ ns, Builtin.Int.intBits z ≤ 1048576) → Only H → SqL K H a (ns.map V.int) → sp [.ref a] H (fun v _ => v = .bl true) fun _ _ _ => False) ∧
        ∀ base : Heap, K.In base → base.Ns mainGlobals mg → FnG l.prog w K mg base (CX w) k fa fd [x] sp)
    (hCX : ∀ (w : World) (H : Hp) (s : Shared) (e : Value) (s' : Shared), CX w [] H s (fun _ _ _ => False) e s' → False) :
    PySem.W.WalkO q loose XP YP l.row.toRowW d [] (fun f vs => PySem.call f vs) :=
  Att.attach_callB hn hdf fun w s₀ s₁ mg mb fa o pm cd doc a vs ns G Y ho hd hcd hmg hobj hints hlen hbits hg => by
    obtain ⟨K, fd, sp, hK, hb, hsp, hF⟩ := F w mg fa _ Y G.T.g hmg
    exact law_runs hK G.T.g G.T.b G.T.builtins G.T.nolimit hg hobj hints (Nat.le_trans hlen hn2) hr hF hb (fun H hO hS => hsp H a ns hlen hbits hO hS) fun H e s' => hCX w H s₁ e s'
end Pl
end L2

set_option Elab.async false
set_option linter.all false
set_option maxRecDepth 100000
set_option maxHeartbeats 4000000
namespace L2
namespace Pl
open PySem PySem.Spec PyProof.Rows
/-! ### facts of the head by one Bool -/
abbrev Fr := PySem.W.Frag
def isB (a b : Option (Option Value)) : Bool := decide (a = b)
/-- the class object at C is one of an own exception over ValueError -/
def klsB (K : Fr) (C : Addr) : Bool := match K.lookup C with
  | some ⟨.type t, _, .cls cd, sl⟩ => (match cd.mro, sl.toList with
    | .ref c :: bm, [_, _, _, _, some (.builtin n), _] => decide (t = "type") && (decide (c = C) && (decide (n = "ValueError.__new__") && (!cd.hasDel && (cd.hasDict && PySem.HandSPX.refsVE bm))))
    | _, _ => false)
  | _ => false
theorem kls_ok {K : Fr} {C : Addr} (h : klsB K C = true) : ∃ nm q N bs bm sn sub ab col dd k0 k1 k2 k3 k5, K.lookup C = some (excClassObj nm q C N bs bm true sn sub ab col dd k0 k1 k2 k3 k5 "ValueError.__new__") ∧ PySem.HandSPX.refsVE bm = true := by
  unfold klsB at h
  split at h
  · rename_i t dd cd sl found
    split at h
    · rename_i c bm y0 y1 y2 y3 n y5 em es
      obtain ⟨h1, h⟩ := He.ba h
      obtain ⟨h2, h⟩ := He.ba h
      obtain ⟨h3, h⟩ := He.ba h
      obtain ⟨h4, h⟩ := He.ba h
      obtain ⟨h5, h6⟩ := He.ba h
      have e1 := of_decide_eq_true h1
      have e2 := of_decide_eq_true h2
      have e3 := of_decide_eq_true h3
      obtain ⟨cn, cb, cm, cns, cq, chd, csn, csub, cab, ccol, cdel⟩ := cd
      dsimp only at em h4 h5
      have e4 : cdel = false := by simpa using h4
      obtain ⟨l⟩ := sl
      dsimp only at es
      subst e1 e2 e3 e4 em h5 es
      exact ⟨cn, cq, cns, cb, bm, csn, csub, cab, ccol, dd, y0, y1, y2, y3, y5, found, h6⟩
    · cases h
  · cases h
/-- all that ExV asks of the class x, but its __init__'s promise -/
def excB (K : Fr) (x f : Str) : Bool :=
  let C := He.ga K x
  isB (PySem.W.nsIn K mainGlobals x) (some (some (.ref C))) && (klsB K C && (isB (PySem.W.findIn K (.ref C) "__setattr__") (some (some (.builtin "object.__setattr__"))) && (decide (PySem.W.subIn K (.ref C) (.type "BaseException") = some true) && (decide (PySem.W.typeIn K (.ref C) = some (.type "type")) && (PySem.W.keepIn K (.ref C) &&
  (isB (PySem.W.findIn K (.ref C) "__getattribute__") (some (some (.builtin "BaseException.__getattribute__"))) && (isB (PySem.W.findIn K (.ref C) "__getattr__") (some none) && (PySem.W.hasDictIn K C && (isB (PySem.W.findIn K (.ref C) "__class__") (some (some (.builtin "object.__class__"))) && (isB (PySem.W.specialIn K (.builtin "object.__class__") "__get__") (some (some (.builtin "getset_descriptor.__get__"))) &&
  (decide (PySem.W.takesIn K (.builtin "object.__class__") = some true) && (decide (PySem.W.mroIn K C (.type "object") = some true) && (isB (PySem.W.findIn K (.ref C) f) (some none) && (isB (PySem.W.findIn K (.ref C) "__init__") (some (some (.ref (He.ma K C "__init__")))) && decide (PySem.W.typeIn K (.ref (He.ma K C "__init__")) = some (.type "function"))))))))))))))))
structure ExF (K : Fr) (x f : Str) : Prop where
  gl : PySem.W.nsIn K mainGlobals x = some (some (.ref (He.ga K x)))
  o : OexC K (He.ga K x)
  e : ExcC K (He.ga K x)
  nf : PySem.W.findIn K (.ref (He.ga K x)) f = some none
  iC : PySem.W.findIn K (.ref (He.ga K x)) "__init__" = some (some (.ref (He.ma K (He.ga K x) "__init__")))
  tI : PySem.W.typeIn K (.ref (He.ma K (He.ga K x) "__init__")) = some (.type "function")
theorem exc_ok {K : Fr} {x f : Str} (h : excB K x f = true) : ExF K x f := by
  obtain ⟨h1, h⟩ := He.ba h
  obtain ⟨h2, h⟩ := He.ba h
  obtain ⟨h3, h⟩ := He.ba h
  obtain ⟨h4, h⟩ := He.ba h
  obtain ⟨h5, h⟩ := He.ba h
  obtain ⟨h6, h⟩ := He.ba h
  obtain ⟨h7, h⟩ := He.ba h
  obtain ⟨h8, h⟩ := He.ba h
  obtain ⟨h9, h⟩ := He.ba h
  obtain ⟨h10, h⟩ := He.ba h
  obtain ⟨h11, h⟩ := He.ba h
  obtain ⟨h12, h⟩ := He.ba h
  obtain ⟨h13, h⟩ := He.ba h
  obtain ⟨h14, h⟩ := He.ba h
  obtain ⟨h15, h16⟩ := He.ba h
  exact ⟨of_decide_eq_true h1, ⟨kls_ok h2, of_decide_eq_true h3, of_decide_eq_true h4, of_decide_eq_true h5, h6⟩,
    ⟨of_decide_eq_true h7, of_decide_eq_true h8, of_decide_eq_true h4, h9, of_decide_eq_true h10, of_decide_eq_true h11, of_decide_eq_true h12, of_decide_eq_true h13⟩, of_decide_eq_true h14, of_decide_eq_true h15, of_decide_eq_true h16⟩
/-- sys.modules is looked at, too -/
def sysB (K : Fr) : Bool := match K.lookup sysModules with
  | some ⟨.type t, _, _, _⟩ => decide (t = "dict")
  | _ => false
theorem sys_ok {K : Fr} (h : sysB K = true) : SysK K := by
  unfold sysB at h
  split at h
  · rename_i t _ _ _ e
    exact ⟨_, e, congrArg Value.type (of_decide_eq_true h)⟩
  · cases h
/-! ### the Hook: the defs, and a Bool of one's own -/
def fragP (n : Nat) (g : Addr → Option Obj) : Fr := He.frG g (sysModules :: He.asD g n)
abbrev AlP : Type := He.AlD × Bool
def obsP (n : Nat) (fa : List He.Fa) (fn : List He.DefD) (ex : Fr → Bool) (g : Addr → Option Obj) : AlP := (He.obsD fa fn (fragP n g), ex (fragP n g))
structure SaysP (fa : List He.Fa) (fn : List He.DefD) (ex : Fr → Bool) (K : Fr) : Prop where
  d : He.SaysD fa fn K
  more : ex K = true
def hookP (n : Nat) (fa : List He.Fa) (fn : List He.DefD) (ex : Fr → Bool) : PySem.W.Hook where
  α := AlP
  obs := fun s => obsP n fa fn ex s.heap.get?
  val := fun _ => (He.valD fn, true)
  says := fun _ h => ∃ K : Fr, K.In h ∧ SaysP fa fn ex K
  of := fun _ _ e => ⟨_, He.frG_in, congrArg (fun z : AlP => z.1) e, congrArg (fun z : AlP => z.2) e⟩
  keeps := fun _ _ _ ⟨K, hK, c⟩ k => ⟨K, PySem.W.Frag.In.keeps hK k, c⟩
theorem obsP_eq {n : Nat} {fa : List He.Fa} {fn : List He.DefD} {ex : Fr → Bool} {g : Addr → Option Obj} {s : Shared} (h : ∀ a, g a = s.heap.get? a) : obsP n fa fn ex g = (hookP n fa fn ex).obs s := by
  have e : g = s.heap.get? := funext h
  rw [e] <;> rfl
end Pl
end L2

set_option Elab.async false
set_option linter.all false
set_option maxRecDepth 100000
set_option maxHeartbeats 0
namespace K46
open PySem PySem.Spec PyProof.Rows L2 L2.Pl
abbrev rw46 := PySem.Challenge.rw_playedlate_k46_errors_by_hand
def top (i : Nat) : Stmt := PySem.Challenge.pw_playedlate_k46_errors_by_hand.main.body.getD i (.Pass ⟨0, 0, 0, 0⟩)
abbrev sSource : Stmt := top 14
abbrev sDraw : Stmt := top 15
abbrev sPick : Stmt := top 16
abbrev sKinds : Stmt := top 17
abbrev sPlace : Stmt := top 18
abbrev sName : Stmt := top 19
abbrev sStored : Stmt := top 20
abbrev sLaw : Stmt := top 21
/-- the eleven errors in the law's order: name, attribute, place in the text -/
def errs : List (Str × Str × Nat) := [("BadStandings", "value", 2), ("BadDeeds", "value", 3), ("BadLooks", "value", 4), ("NoStanding", "value", 5), ("BadPlan", "value", 7), ("NotNow", "value", 9), ("BadSends", "value", 11), ("NoDeed", "position", 6), ("BadEvent", "position", 8), ("TooFar", "count", 10), ("BadText", "line", 12)]
abbrev sIni (i : Nat) : Stmt := inClass (top i) 0
def iniD (e : Str × Str × Nat) : He.DefD := ⟨(e.1, some "__init__"), "__init__", e.1 ++ ".__init__", defArgs (sIni e.2.2), defBody (sIni e.2.2), defScope (sIni e.2.2), [], []⟩
def glD (x : Str) (i : Nat) : He.DefD := ⟨(x, none), x, x, defArgs (top i), defBody (top i), defScope (top i), [], []⟩
def fn : List He.DefD := [glD "_law_source" 14, glD "_law_draw" 15, glD "_law_pick" 16, glD "_law_kinds" 17, glD "_law_by_place" 18, glD "_law_by_name" 19, glD "_law_stored" 20, glD "law" 21] ++ errs.map iniD
def fa : List He.Fa := [.glo "_law_source", .glo "_law_draw", .glo "_law_pick", .glo "_law_kinds", .glo "_law_by_place", .glo "_law_by_name", .glo "_law_stored", .glo "law",
  .free "len", .free "int", .free "isinstance", .free "range", .free "max", .free "min", .free "enumerate", .free "list", .free "dict", .free "repr", .free "ValueError"]
/-- the classes by each other -/
def ex (K : Fr) : Bool := sysB K && ((errs.all fun e => excB K e.1 e.2.1) && ((isB (PySem.W.nsIn K mainGlobals "LateError") (some (some (.ref (He.ga K "LateError"))))) && (
  (errs.all fun e => decide (PySem.W.kitOne K (.ref (He.ga K e.1)) (.ref (He.ga K "LateError")) = some true) && decide (PySem.W.kitOne K (.ref (He.ga K e.1)) (.type "ValueError") = some true)) &&
  (errs.all fun e => errs.all fun g => decide (PySem.W.kitOne K (.ref (He.ga K e.1)) (.ref (He.ga K g.1)) = some (decide (e.2.2 = g.2.2)))))))
abbrev R : PySem.W.OpenRow := PySem.W.OpenLaw.row rw46
abbrev hk : PySem.W.Hook := hookP 5 fa fn ex
def ob (s : PySem.W.SharedT) : AlP := obsP 5 fa fn ex (HandSHeadRun.getT s)
theorem ob_eq (s : PySem.W.SharedT) : ob s = hk.obs s.abs := obsP_eq (HandSHeadRun.getT_eq s)
def loose : List Str := ["LateError", "BadStandings", "BadDeeds", "BadLooks", "NoStanding", "NoDeed", "BadPlan", "BadEvent", "NotNow", "TooFar", "BadSends", "BadText", "_law_source", "_law_draw", "_law_pick", "_law_kinds", "_law_by_place", "_law_by_name", "_law_stored"]
theorem run (w : World) : HandSHeadRun.RunEq R (PySem.W.view R.prog [21]) hk ob 4000 loose w := by
  intro os
  kernel_rfl
end K46

set_option Elab.async false
set_option linter.all false
set_option maxRecDepth 100000
set_option maxHeartbeats 2000000
namespace L2
namespace Pl
open PySem PySem.Spec PyProof.Rows
/-! ### sizes of ints -/
theorem bits_of_lt {a : Int} {n : Nat} (h : a.natAbs < 2 ^ n) : Builtin.Int.intBits a ≤ n := by
  unfold Builtin.Int.intBits
  split
  · exact Nat.zero_le _
  · rename_i hz
    have h0 : a.natAbs ≠ 0 := by
      intro z
      have : a = 0 := by omega
      simp [this] at hz
    have := (Nat.log2_lt h0).mpr h
    omega
theorem lt_of_bits {a : Int} {n : Nat} (h : Builtin.Int.intBits a ≤ n) : a.natAbs < 2 ^ n := by
  refine Nat.lt_of_lt_of_le ?_ (Nat.pow_le_pow_right (by decide) h)
  unfold Builtin.Int.intBits
  split
  · rename_i hz
    have : a = 0 := by simpa using hz
    rw [this]
    decide
  · exact Nat.lt_log2_self
theorem bits_sum {a b : Int} {m : Nat} (ha : a.natAbs < 2 ^ m) (hb : Builtin.Int.intBits b ≤ m) : Builtin.Int.intBits (a + b) ≤ m + 1 := by
  refine bits_of_lt ?_
  have h2 := lt_of_bits hb
  have h3 : (a + b).natAbs ≤ a.natAbs + b.natAbs := by omega
  rw [Nat.pow_succ]
  omega
theorem cube_big {a b : Int} (m : Nat) (hm : 60 ≤ m) (h : a.natAbs < 2 ^ 60) (hb : Builtin.Int.intBits b ≤ m) : Builtin.Int.intBits (a + b) ≤ m + 1 := bits_sum (Nat.lt_of_lt_of_le h (Nat.pow_le_pow_right (by decide) hm)) hb
theorem cube_ok {a b : Int} (ha : -(2 ^ 60) < a ∧ a < 2 ^ 60) (hb : Builtin.Int.intBits b ≤ 1048576) : CPowW (a + b) 3 := by
  refine ⟨by decide, ?_⟩
  have h60 : a.natAbs < 2 ^ 60 := by omega
  have h2 := cube_big 1048576 (by decide) h60 hb
  have e : (2 : Int) ^ 27 = 134217728 := by decide
  rw [e]
  omega
/-! ### the free names of a law -/
structure Gn (mg : Str → Option Value) : Prop where
  len : mg "len" = none
  int : mg "int" = none
  isi : mg "isinstance" = none
  range : mg "range" = none
  max : mg "max" = none
  min : mg "min" = none
  enum : mg "enumerate" = none
  list : mg "list" = none
  dict : mg "dict" = none
  repr : mg "repr" = none
theorem bInt : bootBuiltins "int" = some (.type "int") := by decide +kernel
theorem bLen : bootBuiltins "len" = some (.builtin "len") := by decide +kernel
theorem bIsi : bootBuiltins "isinstance" = some (.builtin "isinstance") := by decide +kernel
theorem bMax : bootBuiltins "max" = some (.builtin "max") := by decide +kernel
theorem bMin : bootBuiltins "min" = some (.builtin "min") := by decide +kernel
theorem bRepr : bootBuiltins "repr" = some (.builtin "repr") := by decide +kernel
theorem bList : bootBuiltins "list" = some (.type "list") := by decide +kernel
theorem bDict : bootBuiltins "dict" = some (.type "dict") := by decide +kernel
theorem bVe : bootBuiltins "ValueError" = some (.type "ValueError") := by decide +kernel
/-! ### the draws -/
section
variable {P : Program} {w : World} {K : PySem.W.Frag} {mg : Str → Option Value} {base : Heap}
abbrev FnP (K : PySem.W.Frag) (x : Str) (st : Stmt) (f : Addr) (fd : FuncData) : Prop := FunD K x x (defArgs st) (defBody st) (defScope st) [] [] f fd
/-- a source: a list of two ints -/
def Src (H : Hp) (s : Addr) : Prop := ∃ own mixed : Int, H s = some (.lst [.int own, .int mixed])
def spSource (K : PySem.W.Frag) : Sp := fun vs H Q _ => ∃ (a : Addr) (ns : List Int) (st : Nat), vs = [.ref a, .int (st : Int)] ∧ SqL K H a (ns.map V.int) ∧ ns.length ≤ 63 ∧ (∀ z ∈ ns, Builtin.Int.intBits z ≤ 1048576) ∧ st < 100 ∧
  ∀ p own mixed, H p = none → Q (.ref p) (upd H p (.lst [.int own, .int mixed]))
/-- one draw: the source has moved, the number lies below span -/
def spDraw : Sp := fun vs H Q _ => ∃ (s : Addr) (span : Int) (own mixed : Int), vs = [.ref s, .int span] ∧ H s = some (.lst [.int own, .int mixed]) ∧ 0 < span ∧ span < 1000000 ∧
  ∀ own' mixed' found, 0 ≤ found → found < span → Q (.int found) (upd H s (.lst [.int own', .int mixed']))
/-- one of a list's items -/
def spPick (K : PySem.W.Frag) : Sp := fun vs H Q _ => ∃ (s l : Addr) (xs : List V) (own mixed : Int), vs = [.ref s, .ref l] ∧ H s = some (.lst [.int own, .int mixed]) ∧ l ≠ s ∧ SqL K H l xs ∧ xs ≠ [] ∧ xs.length < 1000000 ∧
  ∀ (own' mixed' : Int) (i : Nat) (v : V), xs[i]? = some v → Q v (upd H s (.lst [.int own', .int mixed']))
theorem seq_upd {H : Hp} {l s : Addr} {o : HO} {xs : List V} (h : SqL K H l xs) (n : l ≠ s) : SqL K (upd H s o) l xs := by
  rcases h with (h | ⟨u, h⟩) | h
  · exact .inl (.inl ((upd_ne n).trans h))
  · exact .inl (.inr ⟨u, (upd_ne n).trans h⟩)
  · exact .inr h
end
end Pl
end L2
namespace K46
open PySem PySem.Spec PyProof.Rows L2 L2.Pl
section
variable {P : Program} {w : World} {K : PySem.W.Frag} {mg : Str → Option Value} {base : Heap} {f fD : Addr} {fd fdD : FuncData}
theorem scDraw : FnScope ["source", "span", "found"] ["source", "span"] (defScope sDraw) := ⟨rfl, rfl, rfl, by decide +kernel, rfl, by decide +kernel, by decide +kernel⟩
theorem ok_draw (G : Gn mg) (F : FnP K "_law_draw" sDraw f fd) : FnOk P w K mg base CX0 1 f fd ["source", "span"] spDraw := by
  refine F.ok scDraw (fun vs H Q E h => ?_) (fun cdv A outer s H vs Q E hr h => ?_)
  · obtain ⟨_, _, _, _, rfl, _⟩ := h
    rfl
  · obtain ⟨a, span, own, mixed, rfl, hS, h0, h1, q⟩ := h
    refine ⟨_, PSs.nox (pss_cons (ps_if (pt_cmpR op_ge (pe_ix ix_list (pv 0) pe_int (fun _ _ => rfl)) (pv 1) (nomark _))
        (pss_cons (ps_set (i := 2) scDraw.nd rfl (.inl rfl) (pe_op op_mod (pe_callTy call_int1 (by rfl) G.int bInt (pa_cons (pe_ix ix_list (pv 0) pe_int (fun _ _ => rfl)) pa_nil)) (pv 1)))
        (pss_cons (ps_asg (pe_op op_fdivW (pe_ix ix_list (pv 0) pe_int (fun _ _ => rfl)) (pv 1)) (pg_sub (pv 0) pe_int set_list))
        (pss_one (ps_ret (pv 2))))) pss_nil)
      (pss_cons (ps_asg (pe_op op_mod (pe_callTy call_int1 (by rfl) G.int bInt (pa_cons (pe_op op_add (pe_op op_mul (pe_ix ix_list (pv 0) pe_int (fun _ _ => rfl)) pe_int) pe_int) pa_nil)) pe_int) (pg_sub (pv 0) pe_int set_list))
      (pss_one (ps_ret (pe_op op_mod (pe_callTy call_int1 (by rfl) G.int bInt (pa_cons (pe_op op_fdiv (pe_op op_mod (pe_callTy call_int1 (by rfl) G.int bInt (pa_cons (pe_op op_pow (pe_callTy call_int1 (by rfl) G.int bInt (pa_cons (pe_ix ix_list (pv 0) pe_int (fun _ _ => rfl)) pa_nil)) pe_int) pa_nil)) pe_int) pe_int) pa_nil)) (pv 1)))))), ?_⟩
    have hL : SqL K H a [.int own, .int mixed] := SqL.of hS
    refine ⟨_, rfl, a, _, 0, .int own, rfl, rfl, hL, atI_nat (j := 0) rfl, _, rfl, _, _, rfl, rfl, _, rfl, ite2 (fun hge => ?_) (fun hlt => ?_)⟩
    · -- found = int(source[0]) % span; source[0] = source[0] // span
      refine ⟨_, rfl, a, _, 0, .int own, rfl, rfl, hL, atI_nat (j := 0) rfl, .inl ⟨_, rfl, _, rfl, _, _, rfl, rfl, h0, ?_⟩⟩
      refine ⟨_, rfl, a, _, 0, .int own, rfl, rfl, hL, atI_nat (j := 0) rfl, _, rfl, _, _, rfl, rfl, wide_div h0 (b := 60) (by omega) (by decide) (by decide), ?_⟩
      refine ⟨_, rfl, a, _, 0, 0, rfl, rfl, hS, rfl, ?_⟩
      exact ⟨_, rfl, q (own / span) mixed (own % span) (Int.emod_nonneg _ (by omega)) (Int.emod_lt_of_pos _ h0)⟩
    · -- source[1] = int(source[1] * 48271 + 6113) % 2147483647
      refine ⟨_, rfl, a, _, 1, .int mixed, rfl, rfl, hL, atI_nat (j := 1) rfl, _, _, rfl, rfl, .inr ⟨by decide, by decide⟩, _, _, rfl, rfl, .inl ⟨_, rfl, _, _, rfl, rfl, (by show (0 : Int) < 2147483647; decide), ?_⟩⟩
      refine ⟨_, rfl, a, _, 1, 1, rfl, rfl, hS, rfl, ?_⟩
      have hm : 0 ≤ (mixed * 48271 + 6113) % 2147483647 ∧ (mixed * 48271 + 6113) % 2147483647 < 2147483647 := ⟨Int.emod_nonneg _ (by decide), Int.emod_lt_of_pos _ (by decide)⟩
      refine ⟨_, rfl, a, _, 1, .int ((mixed * 48271 + 6113) % 2147483647), rfl, rfl, SqL.of upd_same, atI_nat (j := 1) rfl, .inl ⟨_, rfl, _, _, rfl, rfl, ⟨by decide, by decide, by omega⟩, .inl ⟨_, rfl, _, _, rfl, rfl, (by show (0 : Int) < 1000000007; decide), _, _, rfl, rfl, ⟨by decide, by decide⟩, .inl ⟨_, rfl, _, rfl, _, _, rfl, rfl, h0, ?_⟩⟩⟩⟩
      exact q own _ _ (Int.emod_nonneg _ (by omega)) (Int.emod_lt_of_pos _ h0)
theorem scPick : FnScope ["source", "things"] ["source", "things"] (defScope sPick) := ⟨rfl, rfl, rfl, by decide +kernel, rfl, by decide +kernel, by decide +kernel⟩
theorem ok_pick (G : Gn mg) (F : FnP K "_law_pick" sPick f fd) (FD : FnOk P w K mg base CX0 1 fD fdD ["source", "span"] spDraw) (bD : Binds K fdD ["source", "span"] []) (gD : mg "_law_draw" = some (.ref fD)) (kD : PySem.W.keepIn K (.ref fD) = true) : FnOk P w K mg base CX0 2 f fd ["source", "things"] (spPick K) := by
  refine F.ok scPick (fun vs H Q E h => ?_) (fun cdv A outer s H vs Q E hr h => ?_)
  · obtain ⟨_, _, _, _, _, rfl, _⟩ := h
    rfl
  · obtain ⟨a, l, xs, own, mixed, rfl, hS, hne, hX, h0, h1, q⟩ := h
    refine ⟨_, PSs.nox (pss_one (ps_ret (pe_ix ix_list (pv 1) (pe_call FD hr (by rfl) gD kD bD .nil pass0 (pa_cons (pv 0) (pa_cons (pe_callB call_len_seq (by rfl) G.len bLen (pa_cons (pv 1) pa_nil)) pa_nil))) (fun _ _ => rfl)))), ?_⟩
    have hpos : 0 < xs.length := List.length_pos_iff.mpr h0
    refine ⟨_, rfl, _, rfl, _, rfl, l, xs, rfl, .inl hX, a, (xs.length : Int), own, mixed, rfl, hS, by omega, by omega, fun own' mixed' found h2 h3 => ?_⟩
    obtain ⟨v, hv⟩ : ∃ v, xs[found.toNat]? = some v := ⟨_, List.getElem?_eq_getElem (by omega)⟩
    have e : found = ((found.toNat : Nat) : Int) := by omega
    refine ⟨l, xs, found, v, rfl, rfl, seq_upd hX hne, ?_, q own' mixed' found.toNat v hv⟩
    rw [e]
    exact atI_nat hv
end
end K46

set_option Elab.async false
set_option linter.all false
set_option maxRecDepth 100000
set_option maxHeartbeats 2000000
namespace K46
open PySem PySem.Spec PyProof.Rows L2 L2.Pl
section
variable {P : Program} {w : World} {K : PySem.W.Frag} {mg : Str → Option Value} {base : Heap} {f fD : Addr} {fd fdD : FuncData}
theorem scSource : FnScope ["script", "start", "mixed", "cell", "own"] ["script", "start"] (defScope sSource) := ⟨rfl, rfl, rfl, by decide +kernel, rfl, by decide +kernel, by decide +kernel⟩
theorem ok_source (G : Gn mg) (F : FnP K "_law_source" sSource f fd) : FnOk P w K mg base CX0 1 f fd ["script", "start"] (spSource K) := by
  refine F.ok scSource (fun vs H Q E h => ?_) (fun cdv A outer s H vs Q E hr h => ?_)
  · obtain ⟨_, _, _, rfl, _⟩ := h
    rfl
  · obtain ⟨a, ns, st, rfl, hS, hlen, hbits, hst, q⟩ := h
    refine ⟨_, PSs.nox (pss_cons (ps_set (i := 2) scSource.nd rfl (.inl rfl) (pe_op op_add pe_int (pv 1)))
      (pss_cons (ps_for PassesOwn.never rfl (pi_list (pv 0)) (pg_name (i := 3) scSource.nd rfl (.inl rfl))
        (pss_one (ps_set (i := 2) scSource.nd rfl (.inl rfl) (pe_op op_add (pe_op op_mod (pe_callTy call_int1 (by rfl) G.int bInt (pa_cons (pe_op op_powW (pe_callTy call_int1 (by rfl) G.int bInt (pa_cons (pe_op op_add (pe_op op_mul (pv 2) pe_int) (pe_callTy call_int1 (by rfl) G.int bInt (pa_cons (pv 3) pa_nil))) pa_nil)) pe_int) pa_nil)) pe_int) pe_int))))
      (pss_cons (ps_set (i := 4) scSource.nd rfl (.inl rfl) pe_int)
      (pss_cons (ps_if (PW.pt (pw_and (pt_cmpR op_lt (pv 1) (pe_callB call_len_seq (by rfl) G.len bLen (pa_cons (pv 0) pa_nil)) (nomark _)) (pw_and1 (pt_cmpR op_ge (pe_ix ix_list (pv 0) (pv 1) (fun _ _ => rfl)) (pe_op op_pow pe_int pe_int) (nomark _)))))
          (pss_one (ps_set (i := 4) scSource.nd rfl (.inl rfl) (pe_op op_sub (pe_ix ix_list (pv 0) (pv 1) (fun _ _ => rfl)) (pe_op op_pow pe_int pe_int)))) pss_nil)
      (pss_one (ps_ret (pe_lst (pa_cons (pv 4) (pa_cons (pv 2) pa_nil))))))))), ?_⟩
    refine ⟨_, rfl, _, _, rfl, rfl, ?_⟩
    refine ⟨_, rfl, a, rfl, ⟨_, hS⟩, for_list (K := K) (a := a) (xs := ns.map V.int) (fun i σ H' => ∃ (m : Int) (c : Option V), σ = [some (.ref a), some (.int (st : Int)), some (.int m), c, none] ∧ H' = H ∧ 0 ≤ m ∧ m < 2 ^ 40)
      ⟨57 + (st : Int), none, rfl, rfl, by omega, by omega⟩ (fun i σ H' _ ⟨_, _, _, e, _⟩ => by rw [e]; exact hS) ?_ ?_⟩
    · rintro i y σ H' hi ⟨m, c, rfl, rfl, h0, h1⟩
      obtain ⟨z, rfl, hz⟩ : ∃ z, y = V.int z ∧ z ∈ ns := by
        rw [List.getElem?_map] at hi
        cases e : ns[i]? with
        | none =>
          rw [e] at hi
          cases hi
        | some u =>
          rw [e] at hi
          exact ⟨u, (Option.some.inj hi).symm, List.mem_of_getElem? e⟩
      refine ⟨_, rfl, _, _, rfl, rfl, .inr ⟨by decide, by decide⟩, _, rfl, .inl ⟨_, rfl, _, _, rfl, rfl, .inl ⟨_, rfl, _, _, rfl, rfl, cube_ok ⟨by omega, by omega⟩ (hbits z hz), .inl ⟨_, rfl, _, _, rfl, rfl, (by show (0 : Int) < 2147483563; decide), _, _, rfl, rfl, ?_⟩⟩⟩⟩
      have hm : 0 ≤ ((m * 70001 + z) ^ (3 : Int).toNat) % 2147483563 ∧ ((m * 70001 + z) ^ (3 : Int).toNat) % 2147483563 < 2147483563 := ⟨Int.emod_nonneg _ (by decide), Int.emod_lt_of_pos _ (by decide)⟩
      exact ⟨_, _, rfl, rfl, by omega, by omega⟩
    · rintro σ H' ⟨m, c, rfl, rfl, h0, h1⟩
      refine ⟨_, rfl, _, rfl, _, _, rfl, .inl hS, _, _, rfl, rfl, _, rfl, ?_⟩
      rw [List.length_map]
      refine ite2 (fun hlt => ?_) (fun _ => ?_)
      · have hl : st < ns.length := by
          have := of_decide_eq_true hlt
          omega
        have hx : (ns.map V.int)[st]? = some (.int ns[st]) := by
          rw [List.getElem?_map, List.getElem?_eq_getElem hl]
          rfl
        refine ⟨_, rfl, _, rfl, a, _, _, _, rfl, rfl, hS, atI_nat hx, _, _, rfl, rfl, ⟨by decide, by decide, by decide⟩, _, _, rfl, rfl, _, rfl, ite2 (fun _ => ?_) (fun _ => ?_)⟩
        · refine ⟨_, rfl, _, rfl, a, _, _, _, rfl, rfl, hS, atI_nat hx, _, _, rfl, rfl, ⟨by decide, by decide, by decide⟩, _, _, rfl, rfl, ?_⟩
          exact ⟨_, rfl, _, rfl, by show 2 ≤ sizeLine; decide, fun p hp => q p _ _ hp⟩
        · exact ⟨_, rfl, _, rfl, by show 2 ≤ sizeLine; decide, fun p hp => q p _ _ hp⟩
      · refine iteF ?_
        exact ⟨_, rfl, _, rfl, by show 2 ≤ sizeLine; decide, fun p hp => q p _ _ hp⟩
end
end K46

set_option Elab.async false
set_option linter.all false
set_option maxRecDepth 100000
set_option maxHeartbeats 2000000
namespace L2
namespace Pl
open PySem PySem.Spec PyProof.Rows
section
variable {P : Program} {w : World} {K : PySem.W.Frag} {mg : Str → Option Value} {base : Heap}
/-- a def without defaults, called by position and by keyword -/
theorem kbn_of {x qual : Str} {params : Arguments} {body : List Stmt} {scope : Scope} {f : Addr} {fd : FuncData} {ps : List Str} (F : FunD K x qual params body scope [] [] f fd) (n : Nat) (ks : List Str)
    (h : ∀ (kV doc pm : Value) (an : Option Addr) (cdv ct : Value) (us ws : List Value), us.length = n → ws.length = ks.length → bindArgs (PySem.W.fnOf x qual params body scope .none kV doc pm an cdv ct) ⟨us, ks.zip ws⟩ = pure (ps.zip (us ++ ws))) :
    KBn K fd ps n ks (fun us ws => us ++ ws) (fun vs zs => vs ++ zs) := by
  obtain ⟨oc, od, dV, kV, doc, pm, an, cdv, ct, osl, rfl, _, _, hD, _⟩ := F.ex
  rcases hD with ⟨_, rfl⟩ | ⟨e, _⟩
  · exact ⟨fun s us ws _ h1 h2 => .of_eq (h kV doc pm an cdv ct us ws h1 h2), fun r1 r2 => r1.append r2⟩
  · exact absurd rfl e
/-- the whole of such an __init__ -/
theorem ini_ok {qual f : Str} {params : Arguments} {scope : Scope} {C fI : Addr} {fd : FuncData} {q1 q2 q3 q4 : Pos} (F : FunD K "__init__" qual params [.Assign [.Attribute (.Name "self" q1) f q2] (.Name f q3) q4] scope [] [] fI fd) (S : FnScope ["self", f] ["self", f] scope)
    (v1 : scope.names.lookup ("self" : Str) = some NameKind.local) (v2 : scope.names.lookup f = some NameKind.local) (d1 : (f == ("__debug__" : Str)) = false) (d2 : (f == ("__classdict__" : Str)) = false) (T : OexC K C) (nf : PySem.W.findIn K (.ref C) f = some none) : FnOk P w K mg base CX0 1 fI fd ["self", f] (spIni C f) := by
  refine F.ok S (fun vs H Q E h => ?_) (fun cdv A outer s H vs Q E hr h => ?_)
  · obtain ⟨_, _, rfl, _⟩ := h
    rfl
  · obtain ⟨a, v, rfl, ha, q⟩ := h
    refine ⟨_, PSs.nox (pss_one (ps_ost (pe_var (i := 0) rfl (.inl v1)) (pe_var (i := 1) rfl (.inl v2) d1 d2))), ?_⟩
    exact ⟨_, rfl, _, rfl, a, C, rfl, T, nf, .inl ⟨ha, fun d hd hne => q d hd hne⟩⟩
end
end Pl
end L2
namespace K46
open PySem PySem.Spec PyProof.Rows L2 L2.Pl
section
variable {P : Program} {w : World} {K : PySem.W.Frag} {mg : Str → Option Value} {base : Heap}
/-! ### the eleven classes -/
def nm (i : Nat) : Str := (errs.getD i ("", "", 0)).1
def fl (i : Nat) : Str := (errs.getD i ("", "", 0)).2.1
def cl (K : Fr) (i : Nat) : Addr := He.ga K (nm i)
def ini (K : Fr) (i : Nat) : Addr := He.ma K (cl K i) "__init__"
abbrev Cl (P : Program) (w : World) (K : Fr) (mg : Str → Option Value) (base : Heap) (i : Nat) : Prop := ExV P w K mg base (nm i) (fl i) (cl K i) (ini K i)
/-- an error of the i-th class at x that stores v -/
def ErrAt (K : Fr) (H : Hp) (i : Nat) (x v : V) : Prop := ∃ a d, x = .ref a ∧ H a = some (exo a (cl K i) (some d)) ∧ H d = some (exd d [(fl i, v)])
theorem ErrAt.same {H H' : Hp} {i : Nat} {x v : V} (e : ErrAt K H i x v) (s : Same H H') : ErrAt K H' i x v := by
  obtain ⟨a, d, ex, ea, ed⟩ := e
  exact ⟨a, d, ex, s _ _ ea, s _ _ ed⟩
theorem ErrAt.new {H : Hp} {a d : Addr} {i : Nat} {v : V} (h : d ≠ a) : ErrAt K (exH H a d (cl K i) (fl i) v) i (.ref a) v := ⟨a, d, rfl, exH_at, exH_dict h⟩
theorem same_upd {H : Hp} {p : Addr} {o : HO} (h : H p = none) : Same H (upd H p o) := fun b x e => (upd_ne (ne_of_none e h)).trans e
/-- all the classes' facts -/
structure Cls11 (P : Program) (w : World) (K : Fr) (mg : Str → Option Value) (base : Heap) : Prop where
  c : ∀ i, i < 11 → Cl P w K mg base i
  late : mg "LateError" = some (.ref (He.ga K "LateError"))
  isLate : ∀ i, i < 11 → PySem.W.kitOne K (.ref (cl K i)) (.ref (He.ga K "LateError")) = some true
  isVe : ∀ i, i < 11 → PySem.W.kitOne K (.ref (cl K i)) (.type "ValueError") = some true
  isC : ∀ i j, i < 11 → j < 11 → PySem.W.kitOne K (.ref (cl K i)) (.ref (cl K j)) = some (decide (i = j))
/-- six, five, eleven errors of thing -/
def spMake (K : Fr) : Sp := fun vs H Q _ => ∃ v, vs = [v] ∧ ∀ (p : Addr) (H' : Hp) (es : List V), Same H H' → H p = none → H' p = some (.lst es) → es.length = 11 → (∀ i x, es[i]? = some x → ErrAt K H' i x v) → Q (.ref p) H'
theorem scPlace : FnScope ["thing", "found"] ["thing"] (defScope sPlace) := ⟨rfl, rfl, rfl, by decide +kernel, rfl, by decide +kernel, by decide +kernel⟩
theorem scName : FnScope ["thing", "found"] ["thing"] (defScope sName) := ⟨rfl, rfl, rfl, by decide +kernel, rfl, by decide +kernel, by decide +kernel⟩
/-- the errors of a row of made ones -/
inductive Made (K : Fr) (v : V) : Nat → Hp → Hp → List V → Prop
  | nil {i : Nat} {H : Hp} : Made K v i H H []
  | cons {i : Nat} {H H' : Hp} {a d : Addr} {xs : List V} : H a = none → H d = none → d ≠ a → Made K v (i + 1) (exH H a d (cl K i) (fl i) v) H' xs → Made K v i H H' (.ref a :: xs)
theorem Made.same {v : V} {i : Nat} {H H' : Hp} {xs : List V} (m : Made K v i H H' xs) : Same H H' := by
  induction m with
  | nil => exact Same.refl _
  | cons h1 h2 _ _ ih => exact (exH_same h1 h2).trans ih
theorem Made.errs {v : V} {i : Nat} {H H' : Hp} {xs : List V} (m : Made K v i H H' xs) : ∀ j x, xs[j]? = some x → ErrAt K H' (i + j) x v := by
  induction m with
  | nil => intro j x h; simp at h
  | @cons i H H' a d xs h1 h2 h3 m ih =>
    intro j x h
    cases j with
    | zero =>
      cases h
      exact (ErrAt.new h3).same m.same
    | succ j =>
      have := ih j x (by simpa using h)
      rw [show i + (j + 1) = i + 1 + j by omega]
      exact this
theorem ok_place (C : Cls11 P w K mg base) {f : Addr} {fd : FuncData} (F : FnP K "_law_by_place" sPlace f fd) : FnOk P w K mg base CX0 3 f fd ["thing"] (spMake K) := by
  refine F.ok scPlace (fun vs H Q E h => ?_) (fun cdv A outer s H vs Q E hr h => ?_)
  · obtain ⟨_, rfl, _⟩ := h
    rfl
  · obtain ⟨v, rfl, q⟩ := h
    refine ⟨_, PSs.nox (pss_cons (ps_set (i := 1) scPlace.nd rfl (.inl rfl) (pe_lst (pa_cons (pe_ex (C.c 0 (by decide)) hr (by rfl) (pa_cons (pv 0) pa_nil)) (pa_cons (pe_ex (C.c 1 (by decide)) hr (by rfl) (pa_cons (pv 0) pa_nil)) (pa_cons (pe_ex (C.c 2 (by decide)) hr (by rfl) (pa_cons (pv 0) pa_nil))
        (pa_cons (pe_ex (C.c 3 (by decide)) hr (by rfl) (pa_cons (pv 0) pa_nil)) (pa_cons (pe_ex (C.c 4 (by decide)) hr (by rfl) (pa_cons (pv 0) pa_nil)) (pa_cons (pe_ex (C.c 5 (by decide)) hr (by rfl) (pa_cons (pv 0) pa_nil)) pa_nil))))))))
      (pss_one (ps_ret (pe_op op_cat (pv 1) (pe_lst (pa_cons (pe_ex (C.c 6 (by decide)) hr (by rfl) (pa_cons (pv 0) pa_nil)) (pa_cons (pe_ex (C.c 7 (by decide)) hr (by rfl) (pa_cons (pv 0) pa_nil)) (pa_cons (pe_ex (C.c 8 (by decide)) hr (by rfl) (pa_cons (pv 0) pa_nil))
        (pa_cons (pe_ex (C.c 9 (by decide)) hr (by rfl) (pa_cons (pv 0) pa_nil)) (pa_cons (pe_ex (C.c 10 (by decide)) hr (by rfl) (pa_cons (pv 0) pa_nil)) pa_nil)))))))))), ?_⟩
    refine ⟨_, rfl, _, rfl, fun a0 d0 x0 y0 z0 => ⟨_, rfl, _, rfl, fun a1 d1 x1 y1 z1 => ⟨_, rfl, _, rfl, fun a2 d2 x2 y2 z2 => ⟨_, rfl, _, rfl, fun a3 d3 x3 y3 z3 => ⟨_, rfl, _, rfl, fun a4 d4 x4 y4 z4 => ⟨_, rfl, _, rfl, fun a5 d5 x5 y5 z5 => ⟨by show 6 ≤ sizeLine; decide, fun p hp => ?_⟩⟩⟩⟩⟩⟩⟩
    have m1 : Made K v 0 H _ [.ref a0, .ref a1, .ref a2, .ref a3, .ref a4, .ref a5] := .cons x0 y0 z0 (.cons x1 y1 z1 (.cons x2 y2 z2 (.cons x3 y3 z3 (.cons x4 y4 z4 (.cons x5 y5 z5 .nil)))))
    refine ⟨_, rfl, _, rfl, _, rfl, fun a6 d6 x6 y6 z6 => ⟨_, rfl, _, rfl, fun a7 d7 x7 y7 z7 => ⟨_, rfl, _, rfl, fun a8 d8 x8 y8 z8 => ⟨_, rfl, _, rfl, fun a9 d9 x9 y9 z9 => ⟨_, rfl, _, rfl, fun a10 d10 x10 y10 z10 => ⟨by show 5 ≤ sizeLine; decide, fun p2 hp2 => ?_⟩⟩⟩⟩⟩⟩
    have m2 : Made K v 6 (upd _ p _) _ [.ref a6, .ref a7, .ref a8, .ref a9, .ref a10] := .cons x6 y6 z6 (.cons x7 y7 z7 (.cons x8 y8 z8 (.cons x9 y9 z9 (.cons x10 y10 z10 .nil))))
    have s2 := same_upd (o := .lst [.ref a6, .ref a7, .ref a8, .ref a9, .ref a10]) hp2
    refine ⟨p, p2, _, _, rfl, rfl, s2 _ _ (m2.same _ _ upd_same), upd_same, by show 11 ≤ sizeLine; decide, fun r hr3 => ?_⟩
    have s3 := same_upd (o := .lst ([.ref a0, .ref a1, .ref a2, .ref a3, .ref a4, .ref a5] ++ [.ref a6, .ref a7, .ref a8, .ref a9, .ref a10])) hr3
    have t1 := (same_upd (o := .lst [.ref a0, .ref a1, .ref a2, .ref a3, .ref a4, .ref a5]) hp).trans (m2.same.trans (s2.trans s3))
    refine q r _ _ (m1.same.trans t1) ((m1.same.trans ((same_upd hp).trans (m2.same.trans s2))).free hr3) upd_same rfl fun i x hi => ?_
    by_cases h6 : i < 6
    · rw [List.getElem?_append_left (by simpa using h6)] at hi
      have e := (m1.errs i x hi).same t1
      rw [Nat.zero_add] at e
      exact e
    · rw [List.getElem?_append_right (by simpa using h6)] at hi
      have e := (m2.errs (i - 6) x hi).same (s2.trans s3)
      rw [show 6 + (i - 6) = i by omega] at e
      exact e
end
end K46

set_option Elab.async false
set_option linter.all false
set_option maxRecDepth 100000
set_option maxHeartbeats 2000000
namespace K46
open PySem PySem.Spec PyProof.Rows L2 L2.Pl
section
variable {P : Program} {w : World} {K : PySem.W.Frag} {mg : Str → Option Value} {base : Heap}
theorem ok_name (C : Cls11 P w K mg base) {f : Addr} {fd : FuncData} (F : FnP K "_law_by_name" sName f fd) : FnOk P w K mg base CX0 3 f fd ["thing"] (spMake K) := by
  refine F.ok scName (fun vs H Q E h => ?_) (fun cdv A outer s H vs Q E hr h => ?_)
  · obtain ⟨_, rfl, _⟩ := h
    rfl
  · obtain ⟨v, rfl, q⟩ := h
    refine ⟨_, PSs.nox (pss_cons (ps_set (i := 1) scName.nd rfl (.inl rfl) (pe_lst (pa_cons (pe_exK (C.c 0 (by decide)) hr (by rfl) (pv 0)) (pa_cons (pe_exK (C.c 1 (by decide)) hr (by rfl) (pv 0)) (pa_cons (pe_exK (C.c 2 (by decide)) hr (by rfl) (pv 0)) (pa_cons (pe_exK (C.c 3 (by decide)) hr (by rfl) (pv 0)) pa_nil))))))
      (pss_cons (ps_set (i := 1) scName.nd rfl (.inl rfl) (pe_op op_cat (pv 1) (pe_lst (pa_cons (pe_exK (C.c 4 (by decide)) hr (by rfl) (pv 0)) (pa_cons (pe_exK (C.c 5 (by decide)) hr (by rfl) (pv 0)) (pa_cons (pe_exK (C.c 6 (by decide)) hr (by rfl) (pv 0)) (pa_cons (pe_exK (C.c 7 (by decide)) hr (by rfl) (pv 0)) pa_nil)))))))
      (pss_one (ps_ret (pe_op op_cat (pv 1) (pe_lst (pa_cons (pe_exK (C.c 8 (by decide)) hr (by rfl) (pv 0)) (pa_cons (pe_exK (C.c 9 (by decide)) hr (by rfl) (pv 0)) (pa_cons (pe_exK (C.c 10 (by decide)) hr (by rfl) (pv 0)) pa_nil))))))))), ?_⟩
    refine ⟨_, rfl, _, rfl, fun a0 d0 x0 y0 z0 => ⟨_, rfl, _, rfl, fun a1 d1 x1 y1 z1 => ⟨_, rfl, _, rfl, fun a2 d2 x2 y2 z2 => ⟨_, rfl, _, rfl, fun a3 d3 x3 y3 z3 => ⟨by show 4 ≤ sizeLine; decide, fun p hp => ?_⟩⟩⟩⟩⟩
    have m1 : Made K v 0 H _ [.ref a0, .ref a1, .ref a2, .ref a3] := .cons x0 y0 z0 (.cons x1 y1 z1 (.cons x2 y2 z2 (.cons x3 y3 z3 .nil)))
    refine ⟨_, rfl, _, rfl, _, rfl, fun a4 d4 x4 y4 z4 => ⟨_, rfl, _, rfl, fun a5 d5 x5 y5 z5 => ⟨_, rfl, _, rfl, fun a6 d6 x6 y6 z6 => ⟨_, rfl, _, rfl, fun a7 d7 x7 y7 z7 => ⟨by show 4 ≤ sizeLine; decide, fun p2 hp2 => ?_⟩⟩⟩⟩⟩
    have m2 : Made K v 4 (upd _ p _) _ [.ref a4, .ref a5, .ref a6, .ref a7] := .cons x4 y4 z4 (.cons x5 y5 z5 (.cons x6 y6 z6 (.cons x7 y7 z7 .nil)))
    have s2 := same_upd (o := .lst [.ref a4, .ref a5, .ref a6, .ref a7]) hp2
    refine ⟨p, p2, _, _, rfl, rfl, s2 _ _ (m2.same _ _ upd_same), upd_same, by show 8 ≤ sizeLine; decide, fun p3 hp3 => ?_⟩
    have s3 := same_upd (o := .lst ([.ref a0, .ref a1, .ref a2, .ref a3] ++ [.ref a4, .ref a5, .ref a6, .ref a7])) hp3
    refine ⟨_, rfl, _, rfl, _, rfl, fun a8 d8 x8 y8 z8 => ⟨_, rfl, _, rfl, fun a9 d9 x9 y9 z9 => ⟨_, rfl, _, rfl, fun a10 d10 x10 y10 z10 => ⟨by show 3 ≤ sizeLine; decide, fun p4 hp4 => ?_⟩⟩⟩⟩
    have m3 : Made K v 8 (upd _ p3 _) _ [.ref a8, .ref a9, .ref a10] := .cons x8 y8 z8 (.cons x9 y9 z9 (.cons x10 y10 z10 .nil))
    have s4 := same_upd (o := .lst [.ref a8, .ref a9, .ref a10]) hp4
    refine ⟨p3, p4, _, _, rfl, rfl, s4 _ _ (m3.same _ _ upd_same), upd_same, by show 11 ≤ sizeLine; decide, fun r hr3 => ?_⟩
    have s5 := same_upd (o := .lst (([.ref a0, .ref a1, .ref a2, .ref a3] ++ [.ref a4, .ref a5, .ref a6, .ref a7]) ++ [.ref a8, .ref a9, .ref a10])) hr3
    have u3 := s4.trans s5
    have u2 := s2.trans (s3.trans (m3.same.trans u3))
    have u1 := (same_upd (o := .lst [.ref a0, .ref a1, .ref a2, .ref a3]) hp).trans (m2.same.trans u2)
    refine q r _ _ (m1.same.trans u1) ((m1.same.trans ((same_upd hp).trans (m2.same.trans (s2.trans (s3.trans (m3.same.trans s4)))))).free hr3) upd_same rfl fun i x hi => ?_
    by_cases h8 : i < 8
    · rw [List.getElem?_append_left (by simpa using h8)] at hi
      by_cases h4 : i < 4
      · rw [List.getElem?_append_left (by simpa using h4)] at hi
        have e := (m1.errs i x hi).same u1
        rw [Nat.zero_add] at e
        exact e
      · rw [List.getElem?_append_right (by simpa using h4)] at hi
        have e := (m2.errs (i - 4) x hi).same u2
        rw [show 4 + (i - 4) = i by omega] at e
        exact e
    · rw [List.getElem?_append_right (by simpa using h8)] at hi
      have e := (m3.errs (i - 8) x hi).same u3
      rw [show 8 + (i - 8) = i by omega] at e
      exact e
/-! ### the kinds, what is stored -/
def kindsOf (i : Nat) : List V := (List.range 11).map fun j => V.bl (decide (i = j))
def spKinds (K : Fr) : Sp := fun vs H Q _ => ∃ (i : Nat) (x v : V), vs = [x] ∧ i < 11 ∧ ErrAt K H i x v ∧ ∀ (p : Addr) (H' : Hp), Same H H' → H p = none → H' p = some (.lst (kindsOf i)) → Q (.ref p) H'
theorem scKinds : FnScope ["error", "found"] ["error"] (defScope sKinds) := ⟨rfl, rfl, rfl, by decide +kernel, rfl, by decide +kernel, by decide +kernel⟩
theorem ok_kinds (G : Gn mg) (C : Cls11 P w K mg base) {f : Addr} {fd : FuncData} (F : FnP K "_law_kinds" sKinds f fd) : FnOk P w K mg base CX0 1 f fd ["error"] (spKinds K) := by
  refine F.ok scKinds (fun vs H Q E h => ?_) (fun cdv A outer s H vs Q E hr h => ?_)
  · obtain ⟨_, _, _, rfl, _⟩ := h
    rfl
  · obtain ⟨i, x, v, rfl, hi, he, q⟩ := h
    have gC : ∀ j, j < 11 → mg (nm j) = some (.ref (cl K j)) := fun j hj => (C.c j hj).gC
    refine ⟨_, PSs.nox (pss_cons (ps_set (i := 1) scKinds.nd rfl (.inl rfl) (pe_lst (pa_cons (pe_callB call_isV (by rfl) G.isi bIsi (pa_cons (pv 0) (pa_cons (pe_glob (v := .ref (cl K 0)) (by rfl) (gC 0 (by decide)) rfl) pa_nil))) (pa_cons (pe_callB call_isV (by rfl) G.isi bIsi (pa_cons (pv 0) (pa_cons (pe_glob (v := .ref (cl K 1)) (by rfl) (gC 1 (by decide)) rfl) pa_nil)))
          (pa_cons (pe_callB call_isV (by rfl) G.isi bIsi (pa_cons (pv 0) (pa_cons (pe_glob (v := .ref (cl K 2)) (by rfl) (gC 2 (by decide)) rfl) pa_nil))) pa_nil)))))
      (pss_cons (ps_set (i := 1) scKinds.nd rfl (.inl rfl) (pe_op op_cat (pv 1) (pe_lst (pa_cons (pe_callB call_isV (by rfl) G.isi bIsi (pa_cons (pv 0) (pa_cons (pe_glob (v := .ref (cl K 3)) (by rfl) (gC 3 (by decide)) rfl) pa_nil))) (pa_cons (pe_callB call_isV (by rfl) G.isi bIsi (pa_cons (pv 0) (pa_cons (pe_glob (v := .ref (cl K 4)) (by rfl) (gC 4 (by decide)) rfl) pa_nil)))
          (pa_cons (pe_callB call_isV (by rfl) G.isi bIsi (pa_cons (pv 0) (pa_cons (pe_glob (v := .ref (cl K 5)) (by rfl) (gC 5 (by decide)) rfl) pa_nil))) pa_nil))))))
      (pss_cons (ps_set (i := 1) scKinds.nd rfl (.inl rfl) (pe_op op_cat (pv 1) (pe_lst (pa_cons (pe_callB call_isV (by rfl) G.isi bIsi (pa_cons (pv 0) (pa_cons (pe_glob (v := .ref (cl K 6)) (by rfl) (gC 6 (by decide)) rfl) pa_nil))) (pa_cons (pe_callB call_isV (by rfl) G.isi bIsi (pa_cons (pv 0) (pa_cons (pe_glob (v := .ref (cl K 7)) (by rfl) (gC 7 (by decide)) rfl) pa_nil)))
          (pa_cons (pe_callB call_isV (by rfl) G.isi bIsi (pa_cons (pv 0) (pa_cons (pe_glob (v := .ref (cl K 8)) (by rfl) (gC 8 (by decide)) rfl) pa_nil))) pa_nil))))))
      (pss_one (ps_ret (pe_op op_cat (pv 1) (pe_lst (pa_cons (pe_callB call_isV (by rfl) G.isi bIsi (pa_cons (pv 0) (pa_cons (pe_glob (v := .ref (cl K 9)) (by rfl) (gC 9 (by decide)) rfl) pa_nil))) (pa_cons (pe_callB call_isV (by rfl) G.isi bIsi (pa_cons (pv 0) (pa_cons (pe_glob (v := .ref (cl K 10)) (by rfl) (gC 10 (by decide)) rfl) pa_nil))) pa_nil))))))))), ?_⟩
    obtain ⟨a, d, rfl, ea, ed⟩ := he
    have ec := (C.c i hi).e
    have s0 := Same.refl H
    refine ⟨_, rfl, a, cl K i, d, _, _, _, _, rfl, s0 _ _ ea, s0 _ _ ed, ec, .own _, C.isC i 0 hi (by decide), _, rfl, a, cl K i, d, _, _, _, _, rfl, s0 _ _ ea, s0 _ _ ed, ec, .own _, C.isC i 1 hi (by decide), _, rfl, a, cl K i, d, _, _, _, _, rfl, s0 _ _ ea, s0 _ _ ed, ec, .own _, C.isC i 2 hi (by decide), by show 3 ≤ sizeLine; decide, fun p hp => ?_⟩
    have s1 := same_upd (o := .lst [.bl (decide (i = 0)), .bl (decide (i = 1)), .bl (decide (i = 2))]) hp
    refine ⟨_, rfl, _, rfl, a, cl K i, d, _, _, _, _, rfl, s1 _ _ ea, s1 _ _ ed, ec, .own _, C.isC i 3 hi (by decide), _, rfl, a, cl K i, d, _, _, _, _, rfl, s1 _ _ ea, s1 _ _ ed, ec, .own _, C.isC i 4 hi (by decide), _, rfl, a, cl K i, d, _, _, _, _, rfl, s1 _ _ ea, s1 _ _ ed, ec, .own _, C.isC i 5 hi (by decide), by show 3 ≤ sizeLine; decide, fun p2 hp2 => ?_⟩
    have s2 := same_upd (o := .lst [.bl (decide (i = 3)), .bl (decide (i = 4)), .bl (decide (i = 5))]) hp2
    refine ⟨p, p2, _, _, rfl, rfl, s2 _ _ upd_same, upd_same, by show 6 ≤ sizeLine; decide, fun p3 hp3 => ?_⟩
    have s3 := s1.trans (s2.trans (same_upd (o := .lst ([.bl (decide (i = 0)), .bl (decide (i = 1)), .bl (decide (i = 2))] ++ [.bl (decide (i = 3)), .bl (decide (i = 4)), .bl (decide (i = 5))])) hp3))
    refine ⟨_, rfl, _, rfl, a, cl K i, d, _, _, _, _, rfl, s3 _ _ ea, s3 _ _ ed, ec, .own _, C.isC i 6 hi (by decide), _, rfl, a, cl K i, d, _, _, _, _, rfl, s3 _ _ ea, s3 _ _ ed, ec, .own _, C.isC i 7 hi (by decide), _, rfl, a, cl K i, d, _, _, _, _, rfl, s3 _ _ ea, s3 _ _ ed, ec, .own _, C.isC i 8 hi (by decide), by show 3 ≤ sizeLine; decide, fun p4 hp4 => ?_⟩
    have s4 := same_upd (o := .lst [.bl (decide (i = 6)), .bl (decide (i = 7)), .bl (decide (i = 8))]) hp4
    refine ⟨p3, p4, _, _, rfl, rfl, s4 _ _ upd_same, upd_same, by show 9 ≤ sizeLine; decide, fun p5 hp5 => ?_⟩
    have s5 := s3.trans (s4.trans (same_upd (o := .lst (([.bl (decide (i = 0)), .bl (decide (i = 1)), .bl (decide (i = 2))] ++ [.bl (decide (i = 3)), .bl (decide (i = 4)), .bl (decide (i = 5))]) ++ [.bl (decide (i = 6)), .bl (decide (i = 7)), .bl (decide (i = 8))])) hp5))
    refine ⟨_, rfl, _, rfl, a, cl K i, d, _, _, _, _, rfl, s5 _ _ ea, s5 _ _ ed, ec, .own _, C.isC i 9 hi (by decide), _, rfl, a, cl K i, d, _, _, _, _, rfl, s5 _ _ ea, s5 _ _ ed, ec, .own _, C.isC i 10 hi (by decide), by show 2 ≤ sizeLine; decide, fun p6 hp6 => ?_⟩
    have s6 := same_upd (o := .lst [.bl (decide (i = 9)), .bl (decide (i = 10))]) hp6
    refine ⟨p5, p6, _, _, rfl, rfl, s6 _ _ upd_same, upd_same, by show 11 ≤ sizeLine; decide, fun r hr3 => ?_⟩
    exact q r _ (s5.trans (s6.trans (same_upd hr3))) ((s5.trans s6).free hr3) upd_same
end
end K46

set_option Elab.async false
set_option linter.all false
set_option maxRecDepth 100000
set_option maxHeartbeats 2000000
namespace K46
open PySem PySem.Spec PyProof.Rows L2 L2.Pl
section
variable {P : Program} {w : World} {K : PySem.W.Frag} {mg : Str → Option Value} {base : Heap}
/-- [e.f for e in a list of errors that all store v in f] -/
theorem lc_attr {f : Str} {es : List V} {c D : Addr} {H1 : Hp} {v : V} {σ : L2.St} {sl : Nat} {Qd : Hp → Prop} (hsl : sl < σ.length) (hc : H1 c = some (.lst es)) (hD : H1 D = none) (hlen : es.length < 1000)
    (he : ∀ (i : Nat) (x : V), es[i]? = some x → ∃ (a C d : Addr), x = V.ref a ∧ H1 a = some (exo a C (some d)) ∧ H1 d = some (exd d [(f, v)]) ∧ ExcC K C ∧ PySem.W.findIn K (.ref C) f = some none)
    (hd : ∀ H, Same H1 H → H D = some (.lst (List.replicate es.length v)) → Qd H) :
    ∃ W : Nat → Nat → Hp → Prop, (∃ m, W 0 m (upd H1 D (.lst []))) ∧ ∀ i m H, W i m H →
      ((Itl K c).stop i H ∧ Qd H) ∨ ((Itl K c).go i H ∧ ∃ Nx : Hp → Prop, (∀ H', Nx H' → ∃ m', m' < m ∧ W (i + 1) m' H') ∧ ∀ x H', (Itl K c).yld i H x H' → gName sl x (wipe σ [sl]) H' fun σ2 H2 => wipe σ2 [sl] = wipe σ [sl] ∧ tYes σ2 H2 fun b H3 =>
        if b = true then tXv K f (tVar sl) σ2 H3 fun y H4 => ∃ acc, H4 D = some (.lst acc) ∧ acc.length < sizeLine ∧ Nx (upd H4 D (.lst (acc ++ [y]))) else Nx H3) := by
  refine lc_list (K := K) (a := c) (xs := es) (fun i H => Same H1 H ∧ H D = some (.lst (List.replicate i v))) ⟨same_upd hD, upd_same⟩ (fun i H _ p => .inl (.inl (p.1 _ _ hc))) (fun i x H hi p => ?_) (fun H p => hd H p.1 p.2)
  obtain ⟨a, C, d, rfl, ea, ed, ec, nf⟩ := he i x hi
  refine ⟨?_, ?_⟩
  · simp [wipe]
  · refine iteT (B := Same H1 H ∧ H D = some (.lst (List.replicate (i + 1) v))) ?_
    refine ⟨.ref a, ?_, a, C, d, _, v, rfl, p.1 _ _ ea, p.1 _ _ ed, ec, nf, ?_, _, p.2, ?_, fun b o e => ?_, ?_⟩
    · simp [wipe, hsl]
    · simp [List.lookup]
    · rw [List.length_replicate]
      have := (List.getElem?_eq_some_iff.mp hi).1
      exact small1000 (by omega)
    · rw [upd_ne (ne_of_none e hD)]
      exact p.1 _ _ e
    · rw [upd_same, List.replicate_succ']
def spStored (K : Fr) : Sp := fun vs H Q _ => ∃ (e : Addr) (es : List V) (v : V), vs = [.ref e] ∧ H e = some (.lst es) ∧ es.length = 11 ∧ (∀ (i : Nat) (x : V), es[i]? = some x → ErrAt K H i x v) ∧
  ∀ (p : Addr) (H' : Hp), Same H H' → H p = none → H' p = some (.lst (List.replicate 11 v)) → Q (.ref p) H'
theorem scStored : FnScope ["errors", "found", "error"] ["errors"] (defScope sStored) := ⟨rfl, rfl, rfl, by decide +kernel, rfl, by decide +kernel, by decide +kernel⟩
theorem cut_get {es : List V} (lo hi : Nat) (hl : lo ≤ hi) (h : hi ≤ es.length) (i : Nat) (x : V) : (cutV es (some (lo : Int)) (some (hi : Int)))[i]? = some x → es[lo + i]? = some x ∧ i < hi - lo := by
  unfold cutV
  have e1 : min lo es.length = lo := by omega
  have e2 : min hi es.length = hi := by omega
  rw [HT.sIx_nat, HT.sIx_nat, e1, e2, List.getElem?_take]
  split
  · rw [List.getElem?_drop]
    exact fun e => ⟨e, by assumption⟩
  · intro e
    cases e
theorem cut_get0 {es : List V} (hi : Nat) (h : hi ≤ es.length) (i : Nat) (x : V) : (cutV es none (some (hi : Int)))[i]? = some x → es[i]? = some x ∧ i < hi := by
  unfold cutV
  rw [HT.sIx_nat, HT.sIx_none, Nat.min_eq_left h, List.getElem?_take]
  split
  · rw [List.getElem?_drop, Nat.zero_add]
    exact fun e => ⟨e, by omega⟩
  · intro e
    cases e
theorem ok_stored (C : Cls11 P w K mg base) {f : Addr} {fd : FuncData} (F : FnP K "_law_stored" sStored f fd) : FnOk P w K mg base CX0 1 f fd ["errors"] (spStored K) := by
  refine F.ok scStored (fun vs H Q E h => ?_) (fun cdv A outer s H vs Q E hr h => ?_)
  · obtain ⟨_, _, _, rfl, _⟩ := h
    rfl
  · obtain ⟨e, es, v, rfl, he, hlen, hes, q⟩ := h
    refine ⟨_, PSs.nox (pss_cons (ps_set (i := 1) scStored.nd rfl (.inl rfl) (pe_op op_cat
        (pe_lc (own := [("error", 2)]) (g := gName 2) (tt := tYes) (te := tXv K "value" (tVar 2)) rfl scStored.nd (pi_list (pe_slice sl_list (pv 0) po_none (po_some pe_int))) (blkOk_by (N := ["errors", "found", "error"]) (sc := defScope sStored) (by decide +kernel)) (fun _ _ _ _ _ => pg_name (i := 2) scStored.nd rfl (.inl rfl)) (fun _ _ _ _ _ => pts_nil) (fun _ _ _ _ _ => pe_xv (pv 2)))
        (pe_lc (own := [("error", 2)]) (g := gName 2) (tt := tYes) (te := tXv K "position" (tVar 2)) rfl scStored.nd (pi_list (pe_slice sl_list (pv 0) (po_some pe_int) (po_some pe_int))) (blkOk_by (N := ["errors", "found", "error"]) (sc := defScope sStored) (by decide +kernel)) (fun _ _ _ _ _ => pg_name (i := 2) scStored.nd rfl (.inl rfl)) (fun _ _ _ _ _ => pts_nil) (fun _ _ _ _ _ => pe_xv (pv 2)))))
      (pss_one (ps_ret (pe_op op_cat (pv 1) (pe_lst (pa_cons (pe_xv (pe_ix ix_list (pv 0) pe_int (fun _ _ => rfl))) (pa_cons (pe_xv (pe_ix ix_list (pv 0) pe_int (fun _ _ => rfl))) pa_nil))))))), ?_⟩
    have item : ∀ (i : Nat) (x : V), i < 11 → es[i]? = some x → ∃ (a C d : Addr), x = V.ref a ∧ H a = some (exo a C (some d)) ∧ H d = some (exd d [(fl i, v)]) ∧ ExcC K C ∧ PySem.W.findIn K (.ref C) (fl i) = some none := fun i x hi hx => by
      obtain ⟨a, d, ex, ea, ed⟩ := hes i x hx
      exact ⟨a, _, d, ex, ea, ed, (C.c i hi).e, (C.c i hi).nf⟩
    have fv : ∀ i, i < 7 → fl i = ("value" : Str) := by decide +kernel
    have fp : ∀ i, 7 ≤ i → i < 9 → fl i = ("position" : Str) := fun i h1 h2 => by
      have : i = 7 ∨ i = 8 := by omega
      rcases this with rfl | rfl <;> decide +kernel
    -- errors[:7], their values
    refine ⟨_, rfl, 7, rfl, e, es, rfl, SqL.of he, fun c1 hc1 => ⟨c1, rfl, ⟨_, SqL.of upd_same⟩, fun D1 hD1 => ?_⟩⟩
    have s1 := same_upd (o := .lst (cutV es none (some 7))) hc1
    have l1 : (cutV es none (some 7)).length = 7 := by
      unfold cutV
      rw [HT.sIx_none, show ((7 : Int)) = ((7 : Nat) : Int) from rfl, HT.sIx_nat, List.length_take, List.length_drop, hlen]
      rfl
    refine lc_attr (K := K) (v := v) (by show 2 < 3; decide) upd_same hD1 (by rw [l1]; decide) (fun i x hx => ?_) (fun H2 s2 h2 => ?_)
    · obtain ⟨q1, q2⟩ := cut_get0 7 (by omega) i x hx
      obtain ⟨a, C', d, ex, ea, ed, ec, nf⟩ := item i x (by omega) q1
      rw [fv i q2] at ed nf
      exact ⟨a, C', d, ex, s1 _ _ ea, s1 _ _ ed, ec, nf⟩
    rw [l1] at h2
    have t2 := s1.trans s2
    -- errors[7:9], their positions
    refine ⟨_, rfl, 7, rfl, 9, rfl, e, es, rfl, SqL.of (t2 _ _ he), fun c2 hc2 => ⟨c2, rfl, ⟨_, SqL.of upd_same⟩, fun D2 hD2 => ?_⟩⟩
    have s3 := same_upd (o := .lst (cutV es (some 7) (some 9))) hc2
    have l2 : (cutV es (some 7) (some 9)).length = 2 := by
      unfold cutV
      rw [show ((7 : Int)) = ((7 : Nat) : Int) from rfl, show ((9 : Int)) = ((9 : Nat) : Int) from rfl, HT.sIx_nat, HT.sIx_nat, List.length_take, List.length_drop, hlen]
      rfl
    refine lc_attr (K := K) (v := v) (by show 2 < 3; decide) upd_same hD2 (by rw [l2]; decide) (fun i x hx => ?_) (fun H4 s4 h4 => ?_)
    · obtain ⟨q1, q2⟩ := cut_get 7 9 (by decide) (by omega) i x hx
      obtain ⟨a, C', d, ex, ea, ed, ec, nf⟩ := item (7 + i) x (by omega) q1
      rw [fp (7 + i) (by omega) (by omega)] at ed nf
      exact ⟨a, C', d, ex, s3 _ _ (t2 _ _ ea), s3 _ _ (t2 _ _ ed), ec, nf⟩
    rw [l2] at h4
    have t4 := t2.trans (s3.trans s4)
    have g1 := s4 _ _ (s3 _ _ h2)
    refine ⟨D1, D2, _, _, rfl, rfl, g1, h4, by show 9 ≤ sizeLine; decide, fun p hp => ?_⟩
    have s5 := same_upd (o := .lst (List.replicate 7 v ++ List.replicate 2 v)) hp
    have t5 := t4.trans s5
    -- found + [errors[9].count, errors[10].line]
    obtain ⟨x9, hx9⟩ : ∃ x, es[9]? = some x := ⟨_, List.getElem?_eq_getElem (by omega)⟩
    obtain ⟨x10, hx10⟩ : ∃ x, es[10]? = some x := ⟨_, List.getElem?_eq_getElem (by omega)⟩
    obtain ⟨a9, C9, d9, rfl, ea9, ed9, ec9, nf9⟩ := item 9 x9 (by decide) hx9
    obtain ⟨a10, C10, d10, rfl, ea10, ed10, ec10, nf10⟩ := item 10 x10 (by decide) hx10
    refine ⟨_, rfl, _, rfl, e, es, 9, _, rfl, rfl, SqL.of (t5 _ _ he), atI_nat hx9, a9, C9, d9, _, v, rfl, t5 _ _ ea9, t5 _ _ ed9, ec9, nf9, by rw [show fl 9 = ("count" : Str) by decide +kernel]; simp [List.lookup], ?_⟩
    refine ⟨_, rfl, e, es, 10, _, rfl, rfl, SqL.of (t5 _ _ he), atI_nat hx10, a10, C10, d10, _, v, rfl, t5 _ _ ea10, t5 _ _ ed10, ec10, nf10, by rw [show fl 10 = ("line" : Str) by decide +kernel]; simp [List.lookup], ?_⟩
    refine ⟨by show 2 ≤ sizeLine; decide, fun p2 hp2 => ?_⟩
    have s6 := same_upd (o := .lst [v, v]) hp2
    refine ⟨p, p2, _, _, rfl, rfl, s6 _ _ upd_same, upd_same, by show 11 ≤ sizeLine; decide, fun r hr3 => ?_⟩
    exact q r _ (t5.trans (s6.trans (same_upd hr3))) ((t5.trans s6).free hr3) upd_same
end
end K46

set_option Elab.async false
set_option linter.all false
set_option maxRecDepth 100000
set_option maxHeartbeats 2000000
namespace L2
namespace Pl
open PySem PySem.Spec PyProof.Rows
section
variable {K : PySem.W.Frag} {H H' : Hp}
mutual
theorem Dq.same (s : Same H H') : ∀ (d : PyData) (v : V), Dq K H v d → Dq K H' v d
  | .none, _, h => by
    cases h
    exact .non
  | .bool b, _, h => by
    cases h
    exact .bl b
  | .int i, _, h => by
    cases h
    exact .int i
  | .str x, _, h => by
    cases h
    exact .str x
  | .list ds, _, h => by
    cases h with
    | lst ha hx => exact .lst (s _ _ ha) (Dq.sameAll s ds _ hx)
  | .tuple ds, _, h => by
    cases h with
    | tup ha hx => exact .tup (s _ _ ha) (Dq.sameAll s ds _ hx)
  | .dict es, _, h => by
    cases h with
    | dic ha hx => exact .dic (s _ _ ha) (Dq.sameKv s es _ hx)
theorem Dq.sameAll (s : Same H H') : ∀ (ds : List PyData) (vs : List V), DqAll K H vs ds → DqAll K H' vs ds
  | [], _, h => by
    cases h
    exact .nil
  | d :: ds, _, h => by
    cases h with
    | cons h1 h2 => exact .cons (Dq.same s d _ h1) (Dq.sameAll s ds _ h2)
theorem Dq.sameKv (s : Same H H') : ∀ (es : List (PyData × PyData)) (kvs : List (Key × V)), DqKv K H kvs es → DqKv K H' kvs es
  | [], _, h => by
    cases h
    exact .nil
  | (kd, d) :: es, _, h => by
    cases h with
    | cons h1 h2 => exact .cons (Dq.same s d _ h1) (Dq.sameKv s es _ h2)
end
theorem dq_rep {v : V} {d : PyData} (h : Dq K H v d) : ∀ n : Nat, DqAll K H (List.replicate n v) (List.replicate n d)
  | 0 => .nil
  | n + 1 => by
    rw [List.replicate_succ, List.replicate_succ]
    exact .cons h (dq_rep h n)
end
/-- data that is small and can be shown -/
structure Sm (d : PyData) (n : Nat) : Prop where
  can : d.showable = true
  short : d.leavesShort 13 = true
  bulk : d.bulk ≤ n
  dep : d.depth ≤ 50
theorem sm_rep {d : PyData} {b : Nat} (h : Sm d b) : ∀ n : Nat, PyData.showableAll (List.replicate n d) = true ∧ PyData.leavesShortAll 13 (List.replicate n d) = true ∧ PyData.bulkAll (List.replicate n d) ≤ n * (b + 1) ∧ PyData.depthAll (List.replicate n d) ≤ 50
  | 0 => ⟨rfl, rfl, by simp [PyData.bulkAll], by simp [PyData.depthAll]⟩
  | n + 1 => by
    obtain ⟨h1, h2, h3, h4⟩ := sm_rep h n
    have q1 := h.can
    have q2 := h.short
    have q3 := h.bulk
    have q4 := h.dep
    rw [List.replicate_succ]
    refine ⟨by simp [PyData.showableAll, q1, h1], by simp [PyData.leavesShortAll, q2, h2], ?_, ?_⟩
    · simp only [PyData.bulkAll]
      rw [Nat.succ_mul]
      omega
    · simp only [PyData.depthAll]
      omega
theorem shows_rep {K : PySem.W.Frag} {H : Hp} {p : Addr} {v : V} {d : PyData} {b n : Nat} (h : Sm d b) (hd : Dq K H v d) (hp : H p = some (.lst (List.replicate n v))) (hb : n * (b + 1) ≤ 1048576) : Shows K H (.ref p) (.list (List.replicate n d)) := by
  obtain ⟨h1, h2, h3, h4⟩ := sm_rep h n
  refine ⟨.lst hp (dq_rep hd n), by simpa [PyData.showable] using h1, by simp only [PyData.depth]; omega, ?_⟩
  exact PyData.shown_fits_bulk (B := 13) (by decide) (by decide) (by simpa [PyData.leavesShort] using h2) (by simp only [PyData.bulk]; have e : (2 : Nat) ^ 20 = 1048576 := by decide
                                                                                                              omega)
end Pl
end L2
namespace K46
open PySem PySem.Spec PyProof.Rows L2 L2.Pl
/-! ### the law's things -/
inductive Leaf : V → PyData → Prop
  | non : Leaf .non .none
  | bl (b : Bool) : Leaf (.bl b) (.bool b)
  | int (i : Int) (h : i.natAbs < 1000) : Leaf (.int i) (.int i)
  | a : Leaf (.str "a") (.str "a")
  | x : Leaf (.str "x") (.str "x")
theorem Leaf.dq {K : PySem.W.Frag} {H : Hp} {v : V} {d : PyData} (h : Leaf v d) : Dq K H v d := by
  cases h with
  | non => exact .non
  | bl b => exact .bl b
  | int i _ => exact .int i
  | a => exact .str _
  | x => exact .str _
theorem int_short {i : Int} (h : i.natAbs < 1000) : (PyData.shown (.int i)).length ≤ 13 := PyData.shown_int_le (Nat.lt_of_lt_of_le h (by decide))
theorem log_small {n : Nat} (h : n < 1000) : n.log2 < 1920 := by
  by_cases h0 : n = 0
  · subst h0
    decide
  · have := (Nat.log2_lt h0 (k := 10)).mpr (by omega)
    omega
theorem Leaf.sm {v : V} {d : PyData} (h : Leaf v d) : Sm d 1 := by
  cases h with
  | non => exact ⟨rfl, rfl, by simp [PyData.bulk], by simp [PyData.depth]⟩
  | bl b => exact ⟨rfl, rfl, by simp [PyData.bulk], by simp [PyData.depth]⟩
  | int i h => exact ⟨by simpa [PyData.showable] using log_small h, by simpa [PyData.leavesShort] using int_short h, by simp [PyData.bulk], by simp [PyData.depth]⟩
  | a => exact ⟨rfl, by decide +kernel, by decide +kernel, by decide +kernel⟩
  | x => exact ⟨rfl, by decide +kernel, by decide +kernel, by decide +kernel⟩
def Flat (xs : List V) : Prop := ∀ x ∈ xs, ∃ d, Leaf x d
theorem flat_all {K : PySem.W.Frag} {H : Hp} : ∀ {xs : List V}, Flat xs → ∃ ds, DqAll K H xs ds ∧ PyData.showableAll ds = true ∧ PyData.leavesShortAll 13 ds = true ∧ PyData.bulkAll ds ≤ 2 * xs.length ∧ PyData.depthAll ds ≤ 40
  | [], _ => ⟨[], .nil, rfl, rfl, by simp [PyData.bulkAll], by simp [PyData.depthAll]⟩
  | x :: xs, h => by
    obtain ⟨d, hd⟩ := h x (List.mem_cons_self ..)
    obtain ⟨ds, h1, h2, h3, h4, h5⟩ := flat_all (K := K) (H := H) (xs := xs) fun y hy => h y (List.mem_cons_of_mem _ hy)
    have q1 := hd.sm.can
    have q2 := hd.sm.short
    have q3 := hd.sm.bulk
    have q4 : d.depth = 0 := by cases hd <;> simp [PyData.depth]
    refine ⟨d :: ds, .cons hd.dq h1, by simp [PyData.showableAll, q1, h2], by simp [PyData.leavesShortAll, q2, h3], ?_, ?_⟩
    · simp only [PyData.bulkAll, List.length_cons]
      omega
    · simp only [PyData.depthAll]
      omega
def kA : Key := Sum.inr ("a" : Str)
def kL : Key := Sum.inr ("late" : Str)
def FlatK (kvs : List (Key × V)) : Prop := ∀ p : Key × V, p ∈ kvs → (p.1 = kA ∨ p.1 = kL) ∧ ∃ d, Leaf p.2 d
theorem flat_kv {K : PySem.W.Frag} {H : Hp} : ∀ {kvs : List (Key × V)}, FlatK kvs → ∃ es, DqKv K H kvs es ∧ PyData.showableKv es = true ∧ PyData.leavesShortKv 13 es = true ∧ PyData.bulkKv es ≤ 10 * kvs.length ∧ PyData.depthKv es ≤ 40
  | [], _ => ⟨[], .nil, rfl, rfl, by simp [PyData.bulkKv], by simp [PyData.depthKv]⟩
  | (k, v) :: r, h => by
    obtain ⟨hk, d, hd⟩ := h (k, v) (List.mem_cons_self ..)
    obtain ⟨es, h1, h2, h3, h4, h5⟩ := flat_kv (K := K) (H := H) (kvs := r) fun y hy => h y (List.mem_cons_of_mem _ hy)
    have q1 := hd.sm.can
    have q2 := hd.sm.short
    have q3 := hd.sm.bulk
    have q4 : d.depth = 0 := by cases hd <;> simp [PyData.depth]
    have k1 : (keyD k).showable = true ∧ (keyD k).leavesShort 13 = true ∧ (keyD k).bulk ≤ 4 ∧ (keyD k).depth = 0 := by
      rcases hk with e | e <;> (have e' : k = _ := e; subst e'; exact ⟨rfl, by decide +kernel, by decide +kernel, by decide +kernel⟩)
    obtain ⟨k2, k3, k4, k5⟩ := k1
    refine ⟨(keyD k, d) :: es, .cons hd.dq h1, by simp [PyData.showableKv, q1, k2, h2], by simp [PyData.leavesShortKv, q2, k3, h3], ?_, ?_⟩
    · simp only [PyData.bulkKv, List.length_cons]
      omega
    · simp only [PyData.depthKv]
      omega
/-- a thing of at most n items -/
inductive Th (H : Hp) (n : Nat) : V → Prop
  | leaf {v : V} {d : PyData} (h : Leaf v d) : Th H n v
  | lst {p : Addr} {xs : List V} (h : H p = some (.lst xs)) (f : Flat xs) (l : xs.length ≤ n) : Th H n (.ref p)
  | dic {p : Addr} {kvs : List (Key × V)} (h : H p = some (.dK kvs)) (f : FlatK kvs) (l : kvs.length ≤ n) : Th H n (.ref p)
  | tup {p : Addr} (h : H p = some (.tup [.int 1])) : Th H n (.ref p)
theorem Th.same {H H' : Hp} {n : Nat} {v : V} (t : Th H n v) (s : Same H H') : Th H' n v := by
  cases t with
  | leaf h => exact .leaf h
  | lst h f l => exact .lst (s _ _ h) f l
  | dic h f l => exact .dic (s _ _ h) f l
  | tup h => exact .tup (s _ _ h)
theorem Th.more {H : Hp} {n m : Nat} {v : V} (t : Th H n v) (h : n ≤ m) : Th H m v := by
  cases t with
  | leaf h => exact .leaf h
  | lst h' f l => exact .lst h' f (by omega)
  | dic h' f l => exact .dic h' f (by omega)
  | tup h => exact .tup h
theorem Th.dat {K : PySem.W.Frag} {H : Hp} {n : Nat} {v : V} (t : Th H n v) (hn : n ≤ 100) : ∃ d, Dq K H v d ∧ Sm d 2000 := by
  cases t with
  | leaf h => exact ⟨_, h.dq, h.sm.can, h.sm.short, Nat.le_trans h.sm.bulk (by decide), h.sm.dep⟩
  | lst h f l =>
    obtain ⟨ds, h1, h2, h3, h4, h5⟩ := flat_all (K := K) (H := H) f
    exact ⟨.list ds, .lst h h1, by simpa [PyData.showable] using h2, by simpa [PyData.leavesShort] using h3, by simp only [PyData.bulk]; omega, by simp only [PyData.depth]; omega⟩
  | dic h f l =>
    obtain ⟨es, h1, h2, h3, h4, h5⟩ := flat_kv (K := K) (H := H) f
    exact ⟨.dict es, .dic h h1, by simpa [PyData.showable] using h2, by simpa [PyData.leavesShort] using h3, by simp only [PyData.bulk]; omega, by simp only [PyData.depth]; omega⟩
  | tup h =>
    exact ⟨.tuple [.int 1], .tup h (.cons (.int 1) .nil), by decide +kernel, by decide +kernel, by decide +kernel, by decide +kernel⟩
/-- the thing at p is grown -/
theorem Th.grow {H : Hp} {n : Nat} {v : V} {p : Addr} {xs : List V} (t : Th H n v) (h : H p = some (.lst xs)) (f : Flat xs) (l : xs.length ≤ n) : Th (upd H p (.lst (xs ++ [.int 0]))) (n + 1) v := by
  have now : Th (upd H p (.lst (xs ++ [.int 0]))) (n + 1) (.ref p) := .lst upd_same (fun x hx => by
    rcases List.mem_append.mp hx with hx | hx
    · exact f x hx
    · rw [List.mem_singleton.mp hx]
      exact ⟨_, .int 0 (by decide)⟩) (by simp; omega)
  cases t with
  | leaf h => exact .leaf h
  | @lst q ys h' f' l' =>
    by_cases e : q = p
    · rw [e]
      exact now
    · exact .lst ((upd_ne e).trans h') f' (by omega)
  | @dic q ys h' f' l' =>
    by_cases e : q = p
    · rw [e]
      exact now
    · exact .dic ((upd_ne e).trans h') f' (by omega)
  | @tup q h' =>
    by_cases e : q = p
    · rw [e]
      exact now
    · exact .tup ((upd_ne e).trans h')
theorem Th.put {H : Hp} {n : Nat} {v : V} {p : Addr} {kvs : List (Key × V)} (t : Th H n v) (h : H p = some (.dK kvs)) (f : FlatK kvs) (l : kvs.length ≤ n) : Th (upd H p (.dK (putK kvs kL (.int 0)))) (n + 1) v := by
  have now : Th (upd H p (.dK (putK kvs kL (.int 0)))) (n + 1) (.ref p) := .dic upd_same (fun x hx => by
    unfold putK at hx
    split at hx
    · obtain ⟨y, hy, e⟩ := List.mem_map.mp hx
      split at e
      · rw [← e]
        exact ⟨(f y hy).1, _, .int 0 (by decide)⟩
      · rw [← e]
        exact f y hy
    · rcases List.mem_append.mp hx with hx | hx
      · exact f x hx
      · rw [List.mem_singleton.mp hx]
        exact ⟨.inr rfl, _, .int 0 (by decide)⟩) (by
    have := length_putK kvs kL (.int 0)
    omega)
  cases t with
  | leaf h => exact .leaf h
  | @lst q ys h' f' l' =>
    by_cases e : q = p
    · rw [e]
      exact now
    · exact .lst ((upd_ne e).trans h') f' (by omega)
  | @dic q ys h' f' l' =>
    by_cases e : q = p
    · rw [e]
      exact now
    · exact .dic ((upd_ne e).trans h') f' (by omega)
  | @tup q h' =>
    by_cases e : q = p
    · rw [e]
      exact now
    · exact .tup ((upd_ne e).trans h')
end K46

set_option Elab.async false
set_option linter.all false
set_option maxRecDepth 100000
set_option maxHeartbeats 4000000
namespace K46
open PySem PySem.Spec PyProof.Rows L2 L2.Pl
section
variable {K : Fr}
theorem Th.there {H : Hp} {n : Nat} {p : Addr} (t : Th H n (.ref p)) : ∃ o, H p = some o := by
  cases t with
  | leaf h => cases h
  | lst h _ _ => exact ⟨_, h⟩
  | dic h _ _ => exact ⟨_, h⟩
  | tup h => exact ⟨_, h⟩
theorem Th.off {H : Hp} {n : Nat} {v : V} {s : Addr} {o : HO} (t : Th H n v) (h : ∀ p, v = .ref p → p ≠ s) : Th (upd H s o) n v := by
  cases t with
  | leaf h => exact .leaf h
  | lst h' f l => exact .lst ((upd_ne (h _ rfl)).trans h') f l
  | dic h' f l => exact .dic ((upd_ne (h _ rfl)).trans h') f l
  | tup h' => exact .tup ((upd_ne (h _ rfl)).trans h')
/-- the errors of a row -/
def Errs (K : Fr) (H : Hp) (e : Addr) (v : V) : Prop := ∃ es, H e = some (.lst es) ∧ es.length = 11 ∧ ∀ (i : Nat) (y : V), es[i]? = some y → ErrAt K H i y v
theorem Errs.same {H H' : Hp} {e : Addr} {v : V} (h : Errs K H e v) (s : Same H H') : Errs K H' e v := by
  obtain ⟨es, h1, h2, h3⟩ := h
  exact ⟨es, s _ _ h1, h2, fun i y q => (h3 i y q).same s⟩
/-- .. where another thing than the row and its errors is written -/
theorem Errs.off {H : Hp} {e p : Addr} {v : V} {o u : HO} (h : Errs K H e v) (hp : H p = some u) (hu : ∀ φ, u ≠ .ext φ) (he : e ≠ p) : Errs K (upd H p o) e v := by
  obtain ⟨es, h1, h2, h3⟩ := h
  refine ⟨es, (upd_ne he).trans h1, h2, fun i y q => ?_⟩
  obtain ⟨a, d, ey, ea, ed⟩ := h3 i y q
  exact ⟨a, d, ey, (upd_ne (ne_of ea hp fun z => hu _ z.symm)).trans ea, (upd_ne (ne_of ed hp fun z => hu _ z.symm)).trans ed⟩
/-- repr(_law_stored(errors)) != repr([thing] * 11): never so -/
theorem tail_ok {D : Ends} {σ : L2.St} {H5 : Hp} {x : V} {e : Addr} {n : Nat} {tr : TS} (h4 : σ[4]? = some (some x)) (h5 : σ[5]? = some (some (.ref e))) (t : Th H5 n x) (hn : n ≤ 100) (er : Errs K H5 e x) (next : ∀ H6, Same H5 H6 → D.nx σ H6) :
    tIfS (tTest (tOp rNe (tCB (rRepr K) (tCons (tCall (spStored K) [] E0 (tCons (tVar 5) tNil)) tNil)) (tCB (rRepr K) (tCons (tOp rRep (tLst (tCons (tVar 4) tNil)) (tC (.int 11))) tNil)))) tr tNext D σ H5 := by
  obtain ⟨es, e1, e2, e3⟩ := er
  obtain ⟨d, hd, sd⟩ := t.dat (K := K) hn
  refine ⟨_, h5, e, es, x, rfl, e1, e2, e3, fun p H' s1 np hp => ?_⟩
  refine ⟨p, .list (List.replicate 11 d), rfl, shows_rep sd (hd.same s1) hp (by decide), ?_⟩
  refine ⟨_, h4, by show 1 ≤ sizeLine; decide, fun q1 hq1 => ?_⟩
  have s2 := same_upd (o := .lst [x]) hq1
  refine ⟨q1, 11, [x], rfl, rfl, upd_same, by decide, by decide, by show 11 ≤ sizeLine; decide, fun q2 hq2 => ?_⟩
  have s3 := same_upd (o := .lst (List.replicate (11 : Int).toNat [x]).flatten) hq2
  have flat : (List.replicate (11 : Int).toNat [x]).flatten = List.replicate 11 x := rfl
  refine ⟨q2, .list (List.replicate 11 d), rfl, shows_rep sd (hd.same (s1.trans (s2.trans s3))) (by rw [upd_same, flat]) (by decide), ?_⟩
  refine ⟨rfl, _, rfl, ?_⟩
  rw [decide_eq_true rfl]
  exact iteF (next _ (s1.trans (s2.trans s3)))
/-- what isinstance(thing, list), isinstance(thing, dict) say -/
theorem kinds_of {H : Hp} {n : Nat} {x : V} (t : Th H n x) : ∃ (ty : Value) (bl bd : Bool), TyX K H x ty ∧ PySem.W.kitOne K ty (.type "list") = some bl ∧ PySem.W.kitOne K ty (.type "dict") = some bd ∧
    ((bl = false ∧ bd = false) ∨ (bl = true ∧ bd = false ∧ ∃ p xs, x = .ref p ∧ H p = some (.lst xs) ∧ Flat xs ∧ xs.length ≤ n) ∨ (bl = false ∧ bd = true ∧ ∃ p kvs, x = .ref p ∧ H p = some (.dK kvs) ∧ FlatK kvs ∧ kvs.length ≤ n)) := by
  cases t with
  | leaf h =>
    cases h with
    | non => exact ⟨_, false, false, .base .non, kit_ty (by decide +kernel), kit_ty (by decide +kernel), .inl ⟨rfl, rfl⟩⟩
    | bl b => exact ⟨_, false, false, .base (.bl b), kit_ty (by decide +kernel), kit_ty (by decide +kernel), .inl ⟨rfl, rfl⟩⟩
    | int i _ => exact ⟨_, false, false, .base (.int i), kit_ty (by decide +kernel), kit_ty (by decide +kernel), .inl ⟨rfl, rfl⟩⟩
    | a => exact ⟨_, false, false, .base (.str _), kit_ty (by decide +kernel), kit_ty (by decide +kernel), .inl ⟨rfl, rfl⟩⟩
    | x => exact ⟨_, false, false, .base (.str _), kit_ty (by decide +kernel), kit_ty (by decide +kernel), .inl ⟨rfl, rfl⟩⟩
  | lst h f l => exact ⟨_, true, false, .base (.lst h), kit_ty (by decide +kernel), kit_ty (by decide +kernel), .inr (.inl ⟨rfl, rfl, _, _, rfl, h, f, l⟩)⟩
  | dic h f l => exact ⟨_, false, true, .base (.dK h), kit_ty (by decide +kernel), kit_ty (by decide +kernel), .inr (.inr ⟨rfl, rfl, _, _, rfl, h, f, l⟩)⟩
  | tup h => exact ⟨_, false, false, .base (.tup h), kit_ty (by decide +kernel), kit_ty (by decide +kernel), .inl ⟨rfl, rfl⟩⟩
/-- two things in the row at tl -/
structure Two (H1 H : Hp) (tl : Addr) (v1 v2 : V) (n : Nat) : Prop where
  old : Same H1 H
  atl : H tl = some (.lst [v1, v2])
  t1 : Th H n v1
  t2 : Th H n v2
  p1 : ∀ p, v1 = .ref p → H1 p = none ∧ p ≠ tl
  p2 : ∀ p, v2 = .ref p → H1 p = none ∧ p ≠ tl
theorem Two.same {H1 H H' : Hp} {tl : Addr} {v1 v2 : V} {n : Nat} (t : Two H1 H tl v1 v2 n) (s : Same H H') : Two H1 H' tl v1 v2 n := ⟨t.old.trans s, s _ _ t.atl, t.t1.same s, t.t2.same s, t.p1, t.p2⟩
theorem Two.more {H1 H : Hp} {tl : Addr} {v1 v2 : V} {n m : Nat} (t : Two H1 H tl v1 v2 n) (h : n ≤ m) : Two H1 H tl v1 v2 m := ⟨t.old, t.atl, t.t1.more h, t.t2.more h, t.p1, t.p2⟩
theorem Two.at_ {H1 H : Hp} {tl : Addr} {v1 v2 x : V} {n i : Nat} (t : Two H1 H tl v1 v2 n) (h : [v1, v2][i]? = some x) : i < 2 ∧ Th H n x ∧ (x = v1 ∨ x = v2) ∧ ∀ p, x = .ref p → H1 p = none ∧ p ≠ tl := by
  match i, h with
  | 0, h =>
    cases h
    exact ⟨by decide, t.t1, .inl rfl, t.p1⟩
  | 1, h =>
    cases h
    exact ⟨by decide, t.t2, .inr rfl, t.p2⟩
  | i + 2, h => simp at h
/-- the thing at p has been written, all things are things of n more items -/
theorem Two.write {H1 H : Hp} {tl p : Addr} {v1 v2 : V} {n : Nat} {o : HO} (t : Two H1 H tl v1 v2 n) (h1 : H1 p = none) (h2 : p ≠ tl) (g : ∀ v, Th H n v → Th (upd H p o) (n + 1) v) : Two H1 (upd H p o) tl v1 v2 (n + 1) :=
  ⟨fun b u e => (upd_ne (ne_of_none e h1)).trans (t.old _ _ e), (upd_ne (Ne.symm h2)).trans t.atl, g _ t.t1, g _ t.t2, t.p1, t.p2⟩
/-- what is kept while the errors of one row are looked at and the thing is changed -/
structure Keep (K : Fr) (H1 H : Hp) (tl el e1 e2 : Addr) (v1 v2 x : V) (n : Nat) : Prop where
  two : Two H1 H tl v1 v2 n
  tx : Th H n x
  px : ∀ p, x = .ref p → H1 p = none ∧ p ≠ tl ∧ p ≠ e1 ∧ p ≠ e2 ∧ p ≠ el
  r1 : Errs K H e1 x
  r2 : Errs K H e2 x
  ael : H el = some (.lst [.ref e1, .ref e2])
theorem Keep.same {H1 H H' : Hp} {tl el e1 e2 : Addr} {v1 v2 x : V} {n : Nat} (k : Keep K H1 H tl el e1 e2 v1 v2 x n) (s : Same H H') : Keep K H1 H' tl el e1 e2 v1 v2 x n := ⟨k.two.same s, k.tx.same s, k.px, k.r1.same s, k.r2.same s, s _ _ k.ael⟩
theorem Keep.more {H1 H : Hp} {tl el e1 e2 : Addr} {v1 v2 x : V} {n m : Nat} (k : Keep K H1 H tl el e1 e2 v1 v2 x n) (h : n ≤ m) : Keep K H1 H tl el e1 e2 v1 v2 x m := ⟨k.two.more h, k.tx.more h, k.px, k.r1, k.r2, k.ael⟩
theorem Keep.write {H1 H : Hp} {tl el e1 e2 p : Addr} {v1 v2 x : V} {n : Nat} {o u : HO} (k : Keep K H1 H tl el e1 e2 v1 v2 x n) (hx : x = .ref p) (hp : H p = some u) (hu : ∀ φ, u ≠ .ext φ) (g : ∀ v, Th H n v → Th (upd H p o) (n + 1) v) : Keep K H1 (upd H p o) tl el e1 e2 v1 v2 x (n + 1) := by
  obtain ⟨q1, q2, q3, q4, q5⟩ := k.px p hx
  exact ⟨k.two.write q1 q2 g, g _ k.tx, k.px, k.r1.off hp hu (Ne.symm q3), k.r2.off hp hu (Ne.symm q4), (upd_ne (Ne.symm q5)).trans k.ael⟩
/-- if isinstance(thing, list): thing.append(0); if isinstance(thing, dict): thing['late'] = 0 -/
theorem change_ok {D : Ends} {σ : L2.St} {H1 H : Hp} {tl el e1 e2 : Addr} {v1 v2 x : V} {n : Nat} {rest : TS} (h4 : σ[4]? = some (some x)) (hn : n ≤ 100) (k : Keep K H1 H tl el e1 e2 v1 v2 x n)
    (next : ∀ H5, Keep K H1 H5 tl el e1 e2 v1 v2 x (n + 1) → rest D σ H5) :
    tSeq (tIfS (tB (tCB (rIsi K) (tCons (tVar 4) (tCons (tC (.ty "list")) tNil)))) (tDrop (tBM K "list" rAppend (tVar 4) (tCons (tC (.int 0)) tNil))) tNext)
      (tSeq (tIfS (tB (tCB (rIsi K) (tCons (tVar 4) (tCons (tC (.ty "dict")) tNil)))) (sDPut (tVar 4) (tC (.str "late")) (tC (.int 0))) tNext) rest) D σ H := by
  obtain ⟨ty, bl, bd, hty, q1, q2, cs⟩ := kinds_of k.tx
  refine ⟨_, h4, x, .ty "list", ty, .type "list", bl, rfl, .ty _, hty, q1, bl, rfl, ?_⟩
  rcases cs with ⟨rfl, rfl⟩ | ⟨rfl, rfl, p, xs, rfl, hp, hf, hl⟩ | ⟨rfl, rfl, p, kvs, rfl, hp, hf, hl⟩
  · refine iteF ?_
    refine ⟨_, h4, x, .ty "dict", ty, .type "dict", false, rfl, .ty _, hty, q2, false, rfl, iteF ?_⟩
    exact next H (k.more (by omega))
  · refine iteT ?_
    refine ⟨_, h4, .inl ⟨rfl, _, SqL.of hp⟩, p, xs, .int 0, rfl, rfl, hp, small1000 (by omega), ?_⟩
    refine ⟨_, h4, .ref p, .ty "dict", .type "list", .type "dict", false, rfl, .ty _, .base (.lst upd_same), kit_ty (by decide +kernel), false, rfl, iteF ?_⟩
    exact next _ (k.write rfl hp (fun φ z => by cases z) fun v t => t.grow hp hf hl)
  · refine iteF ?_
    refine ⟨_, h4, .ref p, .ty "dict", ty, .type "dict", true, rfl, .ty _, hty, q2, true, rfl, iteT ?_⟩
    refine ⟨_, h4, p, _, rfl, DPut.k (k := kL) hp (small1000 (by omega)), ?_⟩
    exact next _ (k.write rfl hp (fun φ z => by cases z) fun v t => t.put hp hf hl)
end
end K46

set_option Elab.async false
set_option linter.all false
set_option maxRecDepth 100000
set_option maxHeartbeats 4000000
namespace K46
open PySem PySem.Spec PyProof.Rows L2 L2.Pl
section
variable {P : Program} {w : World} {K : PySem.W.Frag} {mg : Str → Option Value} {base : Heap}
def spLaw (K : Fr) : Sp := fun vs H Q _ => ∃ (a : Addr) (ns : List Int), vs = [.ref a] ∧ SqL K H a (ns.map V.int) ∧ ns.length ≤ 63 ∧ (∀ z ∈ ns, Builtin.Int.intBits z ≤ 1048576) ∧ ∀ H', Q (.bl true) H'
abbrev NL : List Str := ["script", "start", "source", "some", "thing", "errors", "at", "error", "spot"]
theorem scLaw : FnScope NL ["script"] (defScope sLaw) := ⟨rfl, rfl, rfl, by decide +kernel, rfl, by decide +kernel, by decide +kernel⟩
/-- what stands when the things are made: the source at so, the list of things at sm -/
structure Set0 (H1 H : Hp) (so sm : Addr) (xs : List V) : Prop where
  old : Same H1 H
  nso : H1 so = none
  src : ∃ own mixed : Int, H so = some (.lst [.int own, .int mixed])
  lst : H sm = some (.lst xs)
  ne : sm ≠ so
  th : ∀ x ∈ xs, Th H 2 x ∧ ∀ p, x = .ref p → H1 p = none ∧ p ≠ so
theorem ne_new {H : Hp} {a b : Addr} {o : HO} (h : upd H b o a = none) : a ≠ b := fun z => by
  rw [z, upd_same] at h
  cases h
theorem new_old {H : Hp} {a b : Addr} {o : HO} (h : upd H b o a = none) : H a = none := (upd_ne (ne_new h)).symm.trans h
theorem set0 {H1 Ha Hb Hc Hd He Hf Hg : Hp} {so l1 l2 d1 t sm : Addr} {own mixed own' mixed' found : Int} {xs : List V} (ea : Ha = upd H1 so (.lst [.int own, .int mixed])) (eb : Hb = upd Ha l1 (.lst [.int 5])) (ec : Hc = upd Hb l2 (.lst [.str "a", .non]))
    (ed : Hd = upd (upd Hc d1 (.dK [])) d1 (.dK (mergeK [] [(kA, .int 1)]))) (ee : He = upd Hd t (.tup [.int 1])) (ef : Hf = upd He so (.lst [.int own', .int mixed'])) (eg : Hg = upd Hf sm (.lst xs)) (ex : xs = [.ref l1, .ref l2, .ref d1, .non, .str "x", .ref t, .bl true, .int (0 - 3), .int found])
    (h0 : 0 ≤ found) (h1 : found < 60) (hso : H1 so = none) (hl1 : Ha l1 = none) (hl2 : Hb l2 = none) (hd : Hc d1 = none) (ht : Hd t = none) (hsm : Hf sm = none) : Set0 H1 Hg so sm xs := by
  subst ea eb ec ee ef eg
  have n1 := ne_new hl1
  have n2 := ne_new hl2
  have n2b := ne_new (new_old hl2)
  have n3 := ne_new hd
  have n3b := ne_new (new_old hd)
  have n3c := ne_new (new_old (new_old hd))
  rw [ed] at ht
  have n4 := ne_new ht
  have n4b := ne_new (new_old (new_old ht))
  have n4c := ne_new (new_old (new_old (new_old ht)))
  have n4d := ne_new (new_old (new_old (new_old (new_old ht))))
  have hsm2 := new_old (new_old hsm)
  rw [ed] at hsm2
  have m0 := ne_new hsm
  have m1 := ne_new (new_old hsm)
  have m2 := ne_new hsm2
  have m3 := ne_new (new_old (new_old hsm2))
  have m4 := ne_new (new_old (new_old (new_old hsm2)))
  have o1 := new_old hl1
  have o2 := new_old (new_old hl2)
  have o3 := new_old (new_old (new_old hd))
  have o4 := new_old (new_old (new_old (new_old (new_old ht))))
  have o5 := new_old (new_old (new_old (new_old (new_old hsm2))))
  subst ed
  refine ⟨fun b o e => ?_, hso, ⟨own', mixed', ?_⟩, upd_same, m0, fun x hx => ?_⟩
  · rw [upd_ne (ne_of_none e o5), upd_ne (ne_of_none e hso), upd_ne (ne_of_none e o4), upd_ne (ne_of_none e o3), upd_ne (ne_of_none e o3), upd_ne (ne_of_none e o2), upd_ne (ne_of_none e o1), upd_ne (ne_of_none e hso)]
    exact e
  · rw [upd_ne (Ne.symm m0), upd_same]
  · rw [ex] at hx
    simp only [List.mem_cons, List.mem_nil_iff, or_false] at hx
    rcases hx with rfl | rfl | rfl | rfl | rfl | rfl | rfl | rfl | rfl
    · refine ⟨.lst (xs := [.int 5]) ?_ (fun x hx => ?_) (by decide), fun p e => ?_⟩
      · rw [upd_ne (Ne.symm m4), upd_ne n1, upd_ne (Ne.symm n4c), upd_ne (Ne.symm n3b), upd_ne (Ne.symm n3b), upd_ne (Ne.symm n2), upd_same]
      · rw [List.mem_singleton.mp hx]
        exact ⟨_, .int 5 (by decide)⟩
      · cases e
        exact ⟨o1, n1⟩
    · refine ⟨.lst (xs := [.str "a", .non]) ?_ (fun x hx => ?_) (by decide), fun p e => ?_⟩
      · rw [upd_ne (Ne.symm m3), upd_ne n2b, upd_ne (Ne.symm n4b), upd_ne (Ne.symm n3), upd_ne (Ne.symm n3), upd_same]
      · simp only [List.mem_cons, List.mem_nil_iff, or_false] at hx
        rcases hx with rfl | rfl
        · exact ⟨_, .a⟩
        · exact ⟨_, .non⟩
      · cases e
        exact ⟨o2, n2b⟩
    · refine ⟨.dic (kvs := mergeK [] [(kA, .int 1)]) ?_ (fun x hx => ?_) (by decide +kernel), fun p e => ?_⟩
      · rw [upd_ne (Ne.symm m2), upd_ne n3c, upd_ne (Ne.symm n4), upd_same]
      · have hx2 : x ∈ [(kA, V.int 1)] := hx
        rw [List.mem_singleton.mp hx2]
        exact ⟨.inl rfl, _, .int 1 (by decide)⟩
      · cases e
        exact ⟨o3, n3c⟩
    · exact ⟨.leaf .non, fun p e => by cases e⟩
    · exact ⟨.leaf .x, fun p e => by cases e⟩
    · refine ⟨.tup ?_, fun p e => ?_⟩
      · rw [upd_ne (Ne.symm m1), upd_ne n4d, upd_same]
      · cases e
        exact ⟨o4, n4d⟩
    · exact ⟨.leaf (.bl true), fun p e => by cases e⟩
    · exact ⟨.leaf (.int _ (by decide)), fun p e => by cases e⟩
    · exact ⟨.leaf (.int found (by omega)), fun p e => by cases e⟩
/-- a def that the law calls -/
structure Has (P : Program) (w : World) (K : Fr) (mg : Str → Option Value) (base : Heap) (x : Str) (k : Nat) (ps : List Str) (sp : Sp) : Prop where
  ex : ∃ (f : Addr) (fd : FuncData), FnOk P w K mg base CX0 k f fd ps sp ∧ Binds K fd ps [] ∧ mg x = some (.ref f) ∧ PySem.W.keepIn K (.ref f) = true
def kb (i : Nat) : List Bool := (List.range 11).map fun j => decide (i = j)
theorem kb_ok : ∀ i, i < 11 → SeqAt.shaped (.list ((kb i).map PyData.bool)) = true ∧ PyData.eqv (.list ((kb i).map PyData.bool)) (.list ((kb i).map PyData.bool)) = true := by decide +kernel
theorem dp_bools {K : Fr} {H : Hp} : ∀ bs : List Bool, DpAll K H (bs.map V.bl) (bs.map PyData.bool)
  | [] => .nil
  | b :: bs => .cons (.bl b) (dp_bools bs)
theorem ok_law (G : Gn mg) (gV : mg "ValueError" = none) (C : Cls11 P w K mg base) (hK : SysK K)
    (hSo : Has P w K mg base "_law_source" 1 ["script", "start"] (spSource K)) (hDr : Has P w K mg base "_law_draw" 1 ["source", "span"] spDraw) (hPi : Has P w K mg base "_law_pick" 2 ["source", "things"] (spPick K))
    (hKi : Has P w K mg base "_law_kinds" 1 ["error"] (spKinds K)) (hPl : Has P w K mg base "_law_by_place" 3 ["thing"] (spMake K)) (hNa : Has P w K mg base "_law_by_name" 3 ["thing"] (spMake K)) (hSt : Has P w K mg base "_law_stored" 1 ["errors"] (spStored K))
    {f : Addr} {fd : FuncData} (F : FnP K "law" sLaw f fd) : FnG P w K mg base CX0 4 f fd ["script"] (spLaw K) := by
  refine fnG_of F scLaw (fun vs H Q E h => ?_) (fun cdv A hg outer s H vs Q E hr h => ?_)
  · obtain ⟨_, _, rfl, _⟩ := h
    rfl
  · obtain ⟨a, ns, rfl, hS, hlen, hbits, q⟩ := h
    obtain ⟨fSo, dSo, oSo, bSo, gSo, kSo⟩ := hSo.ex
    obtain ⟨fDr, dDr, oDr, bDr, gDr, kDr⟩ := hDr.ex
    obtain ⟨fPi, dPi, oPi, bPi, gPi, kPi⟩ := hPi.ex
    obtain ⟨fKi, dKi, oKi, bKi, gKi, kKi⟩ := hKi.ex
    obtain ⟨fPl, dPl, oPl, bPl, gPl, kPl⟩ := hPl.ex
    obtain ⟨fNa, dNa, oNa, bNa, gNa, kNa⟩ := hNa.ex
    obtain ⟨fSt, dSt, oSt, bSt, gSt, kSt⟩ := hSt.ex
    have hr1 := hr.mono (j := 1) (by decide)
    have hr2 := hr.mono (j := 2) (by decide)
    have hu : (A.deeper (envOfC "law" (defScope sLaw) s.heap.objs.size f cdv)).units + 64 < cLine := by
      have z := hr.un
      omega
    have hu1 := hu_of hr
    refine ⟨_, PSs.nox (pss_cons (ps_for PassesOwn.never rfl (pi_range1 (by rfl) G.range (pa_cons (pe_callB (call_max2 rfl) (by rfl) G.max bMax (pa_cons pe_int (pa_cons (pe_callB (call_min2 rfl) (by rfl) G.min bMin (pa_cons pe_int (pa_cons (pe_callB call_len_seq (by rfl) G.len bLen (pa_cons (pv 0) pa_nil)) pa_nil))) pa_nil))) pa_nil)) (pg_name (i := 1) scLaw.nd rfl (.inl rfl))
        (pss_cons (ps_set (i := 2) scLaw.nd rfl (.inl rfl) (pe_call oSo hr1 (by rfl) gSo kSo bSo .nil pass0 (pa_cons (pv 0) (pa_cons (pv 1) pa_nil))))
        (pss_cons (ps_set (i := 3) scLaw.nd rfl (.inl rfl) (pe_lst (pa_cons (pe_lst (pa_cons pe_int pa_nil)) (pa_cons (pe_lst (pa_cons pe_str (pa_cons pe_non pa_nil))) (pa_cons (pe_disp (pps_cons pe_str pe_int pps_nil) rfl rfl (by simp) (by decide)) (pa_cons pe_non (pa_cons pe_str (pa_cons (pe_tup (pa_cons pe_int pa_nil)) (pa_cons pe_bl (pa_cons (pe_op op_sub pe_int pe_int)
            (pa_cons (pe_call oDr hr1 (by rfl) gDr kDr bDr .nil pass0 (pa_cons (pv 2) (pa_cons pe_int pa_nil))) pa_nil)))))))))))
        (pss_one (ps_for PassesOwn.never rfl (pi_list (pe_lst (pa_cons (pe_call oPi hr2 (by rfl) gPi kPi bPi .nil pass0 (pa_cons (pv 2) (pa_cons (pe_slice sl_list (pv 3) po_none (po_some pe_int)) pa_nil))) (pa_cons (pe_call oPi hr2 (by rfl) gPi kPi bPi .nil pass0 (pa_cons (pv 2) (pa_cons (pv 3) pa_nil))) pa_nil)))) (pg_name (i := 4) scLaw.nd rfl (.inl rfl))
          (pss_one (ps_for PassesOwn.never rfl (pi_list (pe_lst (pa_cons (pe_call oPl hr (by rfl) gPl kPl bPl .nil pass0 (pa_cons (pv 4) pa_nil)) (pa_cons (pe_call oNa hr (by rfl) gNa kNa bNa .nil pass0 (pa_cons (pv 4) pa_nil)) pa_nil)))) (pg_name (i := 5) scLaw.nd rfl (.inl rfl))
            (pss_cons (ps_for PassesOwn.never rfl (pi_enum (by rfl) G.enum (pa_cons (pv 5) pa_nil)) (pg_tup rfl (pgs_cons (pg_name (i := 6) scLaw.nd rfl (.inr rfl)) (pgs_cons (pg_name (i := 7) scLaw.nd rfl (.inl rfl)) pgs_nil)))
                (pss_cons (ps_if (PW.pt (pw_or (pt_not (pt_val (pe_callB call_isV (by rfl) G.isi bIsi (pa_cons (pv 7) (pa_cons (pe_glob (v := .ref (He.ga K "LateError")) (by rfl) C.late rfl) pa_nil))))) (pw_or1 (pt_not (pt_val (pe_callB call_isV (by rfl) G.isi bIsi (pa_cons (pv 7) (pa_cons (pe_bltn (v := .ty "ValueError") (by rfl) gV bVe rfl) pa_nil)))))))) (pss_one (ps_ret pe_bl)) pss_nil)
                (pss_one (ps_if (pt_cmpR (op_neD hu) (pe_call oKi hr1 (by rfl) gKi kKi bKi .nil pass0 (pa_cons (pv 7) pa_nil))
                    (pe_lc (own := [("spot", 8)]) (g := gName 8) (tt := tYes) (te := tOp rEq (tVar 8) (tVar 6)) rfl scLaw.nd (pi_range1 (by rfl) G.range (pa_cons pe_int pa_nil)) (blkOk_by (N := NL) (sc := defScope sLaw) (by decide +kernel)) (fun _ _ _ _ _ => pg_name (i := 8) scLaw.nd rfl (.inl rfl)) (fun _ _ _ _ _ => pts_nil) (fun _ _ _ _ _ => pe_cmpR op_eq (pv 8) (pv 6) (nomark _))) (nomark _)) (pss_one (ps_ret pe_bl)) pss_nil))))
            (pss_cons (ps_if (pt_val (pe_callB call_isi (by rfl) G.isi bIsi (pa_cons (pv 4) (pa_cons (pe_bltn (v := .ty "list") (by rfl) G.list bList rfl) pa_nil)))) (pss_one (ps_expr (pe_bm PySem.F.plainAttrs_list PySem.F.slot_list_append PySem.F.type_list_append mt_append (pv 4) (pa_cons pe_int pa_nil)))) pss_nil)
            (pss_cons (ps_if (pt_val (pe_callB call_isi (by rfl) G.isi bIsi (pa_cons (pv 4) (pa_cons (pe_bltn (v := .ty "dict") (by rfl) G.dict bDict rfl) pa_nil)))) (pss_one (ps_dput hu1 (pv 4) pe_str pe_int rfl)) pss_nil)
            (pss_one (ps_if (pt_cmpR op_ne (pe_callB (call_reprD hK hg hr) (by rfl) G.repr bRepr (pa_cons (pe_call oSt hr1 (by rfl) gSt kSt bSt .nil pass0 (pa_cons (pv 5) pa_nil)) pa_nil)) (pe_callB (call_reprD hK hg hr) (by rfl) G.repr bRepr (pa_cons (pe_op op_rep (pe_lst (pa_cons (pv 4) pa_nil)) pe_int) pa_nil)) (nomark _)) (pss_one (ps_ret pe_bl)) pss_nil))))))))))))
      (pss_one (ps_ret pe_bl))), ?_⟩
    refine ⟨_, rfl, a, _, rfl, .inl hS, _, _, rfl, _, _, rfl, _, rfl, ?_, ?_, for_range (fun i σ H' => ∃ y1 y2 y3 y4 y5 y6 y7 y8, σ = [some (.ref a), y1, y2, y3, y4, y5, y6, y7, y8] ∧ Same H H') ⟨_, _, _, _, _, _, _, _, rfl, Same.refl H⟩ ?_ ?_⟩
    · split <;> split <;> omega
    · split <;> split <;> omega
    · rintro i σ H1 hi ⟨y1, y2, y3, y4, y5, y6, y7, y8, rfl, s1⟩
      have hi4 : i < 4 := by
        revert hi
        split <;> split <;> omega
      have hst : (0 : Int) + (i : Int) = ((i : Nat) : Int) := by omega
      rw [hst]
      -- source = _law_source(script, start)
      refine ⟨_, rfl, _, rfl, a, ns, i, rfl, s1.seq hS, hlen, hbits, by omega, fun so own mixed hso => ?_⟩
      have s2 := same_upd (o := .lst [.int own, .int mixed]) hso
      -- some = [..]
      refine ⟨by show 1 ≤ sizeLine; decide, fun l1 hl1 => ⟨by show 2 ≤ sizeLine; decide, fun l2 hl2 => fun d1 hd1 => ⟨upd_same, [(kA, .int 1)], rfl, by show 1 ≤ 15; decide, ⟨by show 1 ≤ sizeLine; decide, fun t ht => ?_⟩⟩⟩⟩
      refine ⟨_, _, rfl, rfl, _, rfl, so, 60, own, mixed, rfl, ?_, by decide, by decide, fun own' mixed' found h0 h1 => ⟨by show 9 ≤ sizeLine; decide, fun sm hsm => ?_⟩⟩
      · rw [upd_ne (Ne.symm (ne_new (new_old (new_old (new_old (new_old ht)))))), upd_ne (Ne.symm (ne_new (new_old (new_old hd1)))), upd_ne (Ne.symm (ne_new (new_old (new_old hd1)))), upd_ne (Ne.symm (ne_new (new_old hl2))), upd_ne (Ne.symm (ne_new hl1)), upd_same]
      have S0 := set0 rfl rfl rfl rfl rfl rfl rfl rfl h0 h1 hso hl1 hl2 hd1 ht hsm
      generalize hxs : ([V.ref l1, .ref l2, .ref d1, .non, .str "x", .ref t, .bl true, .int (0 - 3), .int found] : List V) = xs at S0
      have nine : xs.length = 9 := by rw [← hxs]; rfl
      obtain ⟨ow, mi, hsrc⟩ := S0.src
      -- thing in [_law_pick(source, some[:3]), _law_pick(source, some)]
      refine ⟨_, rfl, _, rfl, 3, rfl, sm, xs, rfl, SqL.of S0.lst, fun c hc => ?_⟩
      have nsc : so ≠ c := ne_of_none hsrc hc
      have lc3 : (cutV xs none (some 3)).length = 3 := by
        unfold cutV
        rw [HT.sIx_none, show ((3 : Int)) = ((3 : Nat) : Int) from rfl, HT.sIx_nat, List.length_take, List.length_drop, nine]
        rfl
      refine ⟨so, c, cutV xs none (some 3), ow, mi, rfl, (upd_ne nsc).trans hsrc, Ne.symm nsc, SqL.of upd_same, (fun z => by rw [z] at lc3; cases lc3), by omega, fun ow1 mi1 i1 v1 hv1 => ?_⟩
      have hv1x : v1 ∈ xs := List.mem_of_getElem? (cut_get0 3 (by omega) i1 v1 hv1).1
      have sc := same_upd (o := .lst (cutV xs none (some 3))) hc
      refine ⟨_, rfl, _, rfl, so, sm, xs, ow1, mi1, rfl, upd_same, S0.ne, SqL.of ((upd_ne S0.ne).trans (sc _ _ S0.lst)), (fun z => by rw [z] at nine; cases nine), by omega, fun ow2 mi2 i2 v2 hv2 => ⟨by show 2 ≤ sizeLine; decide, fun tl htl => ?_⟩⟩
      have hv2x : v2 ∈ xs := List.mem_of_getElem? hv2
      have o3 : Same H1 (upd (upd (upd _ c (.lst (cutV xs none (some 3)))) so (.lst [.int ow1, .int mi1])) so (.lst [.int ow2, .int mi2])) := fun b o e => (upd_ne (ne_of_none e S0.nso)).trans ((upd_ne (ne_of_none e S0.nso)).trans (sc _ _ (S0.old _ _ e)))
      have thg : ∀ v, v ∈ xs → Th _ 2 v := fun v hv => (((S0.th v hv).1.same sc).off (o := .lst [.int ow1, .int mi1]) (fun p e => ((S0.th v hv).2 p e).2)).off (o := .lst [.int ow2, .int mi2]) (fun p e => ((S0.th v hv).2 p e).2)
      have s4 := same_upd (o := .lst [v1, v2]) htl
      have pof : ∀ v, v ∈ xs → ∀ p, v = .ref p → H1 p = none ∧ p ≠ tl := fun v hv p e => by
        have tv := thg v hv
        rw [e] at tv
        obtain ⟨o, ho⟩ := tv.there
        exact ⟨((S0.th v hv).2 p e).1, ne_of_none ho htl⟩
      have T0 : Two H1 _ tl v1 v2 2 := ⟨o3.trans s4, upd_same, (thg v1 hv1x).same s4, (thg v2 hv2x).same s4, pof v1 hv1x, pof v2 hv2x⟩
      refine ⟨tl, rfl, ⟨_, SqL.of upd_same⟩, for_list (K := K) (a := tl) (xs := [v1, v2]) (fun j σ H' => ∃ y1 y2 y3 y4 y5 y6 y7 y8, σ = [some (.ref a), y1, y2, y3, y4, y5, y6, y7, y8] ∧ Two H1 H' tl v1 v2 (2 + 2 * j)) ⟨_, _, _, _, _, _, _, _, rfl, T0⟩ (fun j σ H' _ ⟨_, _, _, _, _, _, _, _, _, T⟩ => SqL.of T.atl) ?_ ?_⟩
      · rintro j x σ H2 hj ⟨y1, y2, y3, y4, y5, y6, y7, y8, rfl, T⟩
        obtain ⟨hj2, tx, _, px⟩ := T.at_ hj
        -- errors in [_law_by_place(thing), _law_by_name(thing)]
        refine ⟨_, rfl, x, rfl, fun e1 Ha es1 sA nA hA lA eA => ?_⟩
        refine ⟨_, rfl, x, rfl, fun e2 Hb es2 sB nB hB lB eB => ⟨by show 2 ≤ sizeLine; decide, fun el hel => ?_⟩⟩
        have sC := same_upd (o := .lst [.ref e1, .ref e2]) hel
        have K0 : Keep K H1 _ tl el e1 e2 v1 v2 x (2 + 2 * j) := ⟨T.same (sA.trans (sB.trans sC)), tx.same (sA.trans (sB.trans sC)), fun p e => by
            rw [e] at tx
            obtain ⟨o, ho⟩ := tx.there
            exact ⟨(px p e).1, (px p e).2, ne_of_none ho nA, ne_of_none (sA _ _ ho) nB, ne_of_none (sB _ _ (sA _ _ ho)) hel⟩,
          ⟨es1, sC _ _ (sB _ _ hA), lA, fun i y q => (eA i y q).same (sB.trans sC)⟩, ⟨es2, sC _ _ hB, lB, fun i y q => (eB i y q).same sC⟩, upd_same⟩
        refine ⟨el, rfl, ⟨_, SqL.of upd_same⟩, for_list (K := K) (a := el) (xs := [.ref e1, .ref e2]) (fun m σ H' => ∃ y1 y2 y3 y5 y6 y7 y8, σ = [some (.ref a), y1, y2, y3, some x, y5, y6, y7, y8] ∧ Keep K H1 H' tl el e1 e2 v1 v2 x (2 + 2 * j + m)) ⟨_, _, _, _, _, _, _, rfl, K0⟩ (fun m σ H' _ ⟨_, _, _, _, _, _, _, _, k⟩ => SqL.of k.ael) ?_ ?_⟩
        · rintro m z σ H3 hm ⟨y1, y2, y3, y5, y6, y7, y8, rfl, kp⟩
          obtain ⟨hm2, e, rfl, two⟩ : m < 2 ∧ ∃ e, z = .ref e ∧ (e = e1 ∨ e = e2) := by
            match m, hm with
            | 0, hm =>
              cases hm
              exact ⟨by decide, e1, rfl, .inl rfl⟩
            | 1, hm =>
              cases hm
              exact ⟨by decide, e2, rfl, .inr rfl⟩
            | m + 2, hm => simp at hm
          have ere : ∀ {H5 : Hp} {n : Nat}, Keep K H1 H5 tl el e1 e2 v1 v2 x n → Errs K H5 e x := fun k => by
            rcases two with rfl | rfl
            · exact k.r1
            · exact k.r2
          have er := ere kp
          obtain ⟨es, he, les, ees⟩ := id er
          -- for at, error in enumerate(errors)
          refine ⟨_, rfl, e, es, rfl, SqL.of he, for_it (walk_enum (K := K) (a := e) (xs := es)) (fun i σ H' => ∃ y1 y2 y3 y6 y7 y8, σ = [some (.ref a), y1, y2, y3, some x, some (.ref e), y6, y7, y8] ∧ Same H3 H') ⟨_, _, _, _, _, _, rfl, Same.refl H3⟩ (fun i σ H' _ ⟨_, _, _, _, _, _, _, sm⟩ => SqL.of (sm _ _ he)) ?_ ?_⟩
          · rintro i y σ H4 H5 hi ⟨y1, y2, y3, y6, y7, y8, rfl, sm⟩ ⟨T, u1, u2, rfl, nT, rfl, f1, f2⟩
            have hi11 : i < 11 := by omega
            have s5 := same_upd (o := .tup [u1, u2]) nT
            obtain rfl : u1 = .int (i : Nat) := (Option.some.inj f1).symm
            obtain ⟨ea, ed, rfl, hea, hed⟩ := (ees i u2 f2).same (sm.trans s5)
            have ec := (C.c i hi11).e
            refine ⟨T, [.int (i : Nat), .ref ea], rfl, .inl (.inl upd_same), rfl, _, [.ref ea], rfl, _, [], rfl, rfl, ?_⟩
            -- the two isinstance
            refine ⟨_, rfl, ea, cl K i, ed, _, _, _, true, rfl, hea, hed, ec, .own _, C.isLate i hi11, true, rfl, iteF ?_⟩
            refine ⟨_, rfl, ea, cl K i, ed, _, _, _, true, rfl, hea, hed, ec, .ty _, C.isVe i hi11, true, rfl, iteF ?_⟩
            -- _law_kinds(error) != [spot == at for spot in range(11)]
            refine ⟨_, rfl, i, _, x, rfl, hi11, ⟨ea, ed, rfl, hea, hed⟩, fun p1 Hk sK nK hk => ?_⟩
            refine ⟨11, rfl, by decide, by decide, fun Dl hDl => lc_range (fun m H' => Same Hk H' ∧ H' Dl = some (.lst ((List.range m).map fun j => V.bl (decide (i = j))))) ⟨same_upd hDl, upd_same⟩ (fun m H' hm pq => ?_) fun H6 pq => ?_⟩
            · refine ⟨by simp [wipe], iteT (B := Same Hk H' ∧ H' Dl = some (.lst ((List.range (m + 1)).map fun j => V.bl (decide (i = j))))) ?_⟩
              refine ⟨_, rfl, _, rfl, rfl, _, pq.2, by rw [List.length_map, List.length_range]; exact small1000 (by omega), fun b o e => (upd_ne (ne_of_none e hDl)).trans (pq.1 _ _ e), ?_⟩
              rw [upd_same, List.range_succ, List.map_append]
              have e1 : decide (V.int (0 + (m : Int)) = V.int ((i : Nat) : Int)) = decide (i = m) := decide_eq_decide.mpr ⟨fun h => by injection h with h; omega, fun h => by subst h; simp⟩
              rw [e1]
              rfl
            · obtain ⟨sh, eq⟩ := kb_ok i hi11
              refine ⟨.list ((kb i).map .bool), .list ((kb i).map .bool), .lst (SqL.of (pq.1 _ _ hk)) (dp_bools (kb i)), .lst (SqL.of pq.2) (dp_bools (kb i)), sh, sh, ?_⟩
              rw [eq]
              exact ⟨false, rfl, iteF ⟨_, _, _, _, _, _, rfl, sm.trans (s5.trans (sK.trans pq.1))⟩⟩
          · rintro σ H4 ⟨y1, y2, y3, y6, y7, y8, rfl, sm⟩
            exact change_ok rfl (by omega) (kp.same sm) fun H5 k5 => tail_ok rfl rfl k5.tx (by omega) (ere k5) fun H6 s6 => ⟨_, _, _, _, _, _, _, rfl, k5.same s6⟩
        · rintro σ H3 ⟨y1, y2, y3, y5, y6, y7, y8, rfl, kp⟩
          exact ⟨_, _, _, _, _, _, _, _, rfl, kp.two.more (by show 2 + 2 * j + 2 ≤ 2 + 2 * (j + 1); omega)⟩
      · rintro σ H2 ⟨y1, y2, y3, y4, y5, y6, y7, y8, rfl, T⟩
        exact ⟨_, _, _, _, _, _, _, _, rfl, T.old |> s1.trans⟩
    · rintro σ H1 ⟨y1, y2, y3, y4, y5, y6, y7, y8, rfl, s1⟩
      exact q H1
end
end K46

set_option Elab.async false
set_option linter.all false
set_option maxRecDepth 100000
set_option maxHeartbeats 4000000
namespace K46
open PySem PySem.Spec PyProof.Rows L2 L2.Pl
section
variable {P : Program} {w : World} {K : PySem.W.Frag} {mg : Str → Option Value} {base : Heap}
theorem ini0 (c : He.SaysD fa fn K) (e : ExF K (nm 0) (fl 0)) : ∃ fd, FnOk P w K mg base CX0 1 (ini K 0) fd ["self", fl 0] (spIni (cl K 0) (fl 0)) ∧ Binds K fd ["self", fl 0] [] ∧ KBn K fd ["self", fl 0] 1 [fl 0] (fun us ws => us ++ ws) (fun vs zs => vs ++ zs) := by
  obtain ⟨fd, F⟩ := c.def_ 8 (d := iniD (errs.getD 0 ("", "", 0))) rfl
  exact ⟨fd, ini_ok (f := fl 0) F ⟨rfl, rfl, rfl, by decide +kernel, rfl, by decide +kernel, by decide +kernel⟩ rfl rfl (by decide +kernel) (by decide +kernel) e.o e.nf, FunD.bindsN F (fun _ _ _ _ _ _ us hl => match us, hl with | [_, _], _ => rfl),
    kbn_of F 1 [fl 0] (fun _ _ _ _ _ _ us ws h1 h2 => match us, ws, h1, h2 with | [_], [_], _, _ => rfl)⟩
theorem ini1 (c : He.SaysD fa fn K) (e : ExF K (nm 1) (fl 1)) : ∃ fd, FnOk P w K mg base CX0 1 (ini K 1) fd ["self", fl 1] (spIni (cl K 1) (fl 1)) ∧ Binds K fd ["self", fl 1] [] ∧ KBn K fd ["self", fl 1] 1 [fl 1] (fun us ws => us ++ ws) (fun vs zs => vs ++ zs) := by
  obtain ⟨fd, F⟩ := c.def_ 9 (d := iniD (errs.getD 1 ("", "", 0))) rfl
  exact ⟨fd, ini_ok (f := fl 1) F ⟨rfl, rfl, rfl, by decide +kernel, rfl, by decide +kernel, by decide +kernel⟩ rfl rfl (by decide +kernel) (by decide +kernel) e.o e.nf, FunD.bindsN F (fun _ _ _ _ _ _ us hl => match us, hl with | [_, _], _ => rfl),
    kbn_of F 1 [fl 1] (fun _ _ _ _ _ _ us ws h1 h2 => match us, ws, h1, h2 with | [_], [_], _, _ => rfl)⟩
theorem ini2 (c : He.SaysD fa fn K) (e : ExF K (nm 2) (fl 2)) : ∃ fd, FnOk P w K mg base CX0 1 (ini K 2) fd ["self", fl 2] (spIni (cl K 2) (fl 2)) ∧ Binds K fd ["self", fl 2] [] ∧ KBn K fd ["self", fl 2] 1 [fl 2] (fun us ws => us ++ ws) (fun vs zs => vs ++ zs) := by
  obtain ⟨fd, F⟩ := c.def_ 10 (d := iniD (errs.getD 2 ("", "", 0))) rfl
  exact ⟨fd, ini_ok (f := fl 2) F ⟨rfl, rfl, rfl, by decide +kernel, rfl, by decide +kernel, by decide +kernel⟩ rfl rfl (by decide +kernel) (by decide +kernel) e.o e.nf, FunD.bindsN F (fun _ _ _ _ _ _ us hl => match us, hl with | [_, _], _ => rfl),
    kbn_of F 1 [fl 2] (fun _ _ _ _ _ _ us ws h1 h2 => match us, ws, h1, h2 with | [_], [_], _, _ => rfl)⟩
theorem ini3 (c : He.SaysD fa fn K) (e : ExF K (nm 3) (fl 3)) : ∃ fd, FnOk P w K mg base CX0 1 (ini K 3) fd ["self", fl 3] (spIni (cl K 3) (fl 3)) ∧ Binds K fd ["self", fl 3] [] ∧ KBn K fd ["self", fl 3] 1 [fl 3] (fun us ws => us ++ ws) (fun vs zs => vs ++ zs) := by
  obtain ⟨fd, F⟩ := c.def_ 11 (d := iniD (errs.getD 3 ("", "", 0))) rfl
  exact ⟨fd, ini_ok (f := fl 3) F ⟨rfl, rfl, rfl, by decide +kernel, rfl, by decide +kernel, by decide +kernel⟩ rfl rfl (by decide +kernel) (by decide +kernel) e.o e.nf, FunD.bindsN F (fun _ _ _ _ _ _ us hl => match us, hl with | [_, _], _ => rfl),
    kbn_of F 1 [fl 3] (fun _ _ _ _ _ _ us ws h1 h2 => match us, ws, h1, h2 with | [_], [_], _, _ => rfl)⟩
theorem ini4 (c : He.SaysD fa fn K) (e : ExF K (nm 4) (fl 4)) : ∃ fd, FnOk P w K mg base CX0 1 (ini K 4) fd ["self", fl 4] (spIni (cl K 4) (fl 4)) ∧ Binds K fd ["self", fl 4] [] ∧ KBn K fd ["self", fl 4] 1 [fl 4] (fun us ws => us ++ ws) (fun vs zs => vs ++ zs) := by
  obtain ⟨fd, F⟩ := c.def_ 12 (d := iniD (errs.getD 4 ("", "", 0))) rfl
  exact ⟨fd, ini_ok (f := fl 4) F ⟨rfl, rfl, rfl, by decide +kernel, rfl, by decide +kernel, by decide +kernel⟩ rfl rfl (by decide +kernel) (by decide +kernel) e.o e.nf, FunD.bindsN F (fun _ _ _ _ _ _ us hl => match us, hl with | [_, _], _ => rfl),
    kbn_of F 1 [fl 4] (fun _ _ _ _ _ _ us ws h1 h2 => match us, ws, h1, h2 with | [_], [_], _, _ => rfl)⟩
theorem ini5 (c : He.SaysD fa fn K) (e : ExF K (nm 5) (fl 5)) : ∃ fd, FnOk P w K mg base CX0 1 (ini K 5) fd ["self", fl 5] (spIni (cl K 5) (fl 5)) ∧ Binds K fd ["self", fl 5] [] ∧ KBn K fd ["self", fl 5] 1 [fl 5] (fun us ws => us ++ ws) (fun vs zs => vs ++ zs) := by
  obtain ⟨fd, F⟩ := c.def_ 13 (d := iniD (errs.getD 5 ("", "", 0))) rfl
  exact ⟨fd, ini_ok (f := fl 5) F ⟨rfl, rfl, rfl, by decide +kernel, rfl, by decide +kernel, by decide +kernel⟩ rfl rfl (by decide +kernel) (by decide +kernel) e.o e.nf, FunD.bindsN F (fun _ _ _ _ _ _ us hl => match us, hl with | [_, _], _ => rfl),
    kbn_of F 1 [fl 5] (fun _ _ _ _ _ _ us ws h1 h2 => match us, ws, h1, h2 with | [_], [_], _, _ => rfl)⟩
theorem ini6 (c : He.SaysD fa fn K) (e : ExF K (nm 6) (fl 6)) : ∃ fd, FnOk P w K mg base CX0 1 (ini K 6) fd ["self", fl 6] (spIni (cl K 6) (fl 6)) ∧ Binds K fd ["self", fl 6] [] ∧ KBn K fd ["self", fl 6] 1 [fl 6] (fun us ws => us ++ ws) (fun vs zs => vs ++ zs) := by
  obtain ⟨fd, F⟩ := c.def_ 14 (d := iniD (errs.getD 6 ("", "", 0))) rfl
  exact ⟨fd, ini_ok (f := fl 6) F ⟨rfl, rfl, rfl, by decide +kernel, rfl, by decide +kernel, by decide +kernel⟩ rfl rfl (by decide +kernel) (by decide +kernel) e.o e.nf, FunD.bindsN F (fun _ _ _ _ _ _ us hl => match us, hl with | [_, _], _ => rfl),
    kbn_of F 1 [fl 6] (fun _ _ _ _ _ _ us ws h1 h2 => match us, ws, h1, h2 with | [_], [_], _, _ => rfl)⟩
theorem ini7 (c : He.SaysD fa fn K) (e : ExF K (nm 7) (fl 7)) : ∃ fd, FnOk P w K mg base CX0 1 (ini K 7) fd ["self", fl 7] (spIni (cl K 7) (fl 7)) ∧ Binds K fd ["self", fl 7] [] ∧ KBn K fd ["self", fl 7] 1 [fl 7] (fun us ws => us ++ ws) (fun vs zs => vs ++ zs) := by
  obtain ⟨fd, F⟩ := c.def_ 15 (d := iniD (errs.getD 7 ("", "", 0))) rfl
  exact ⟨fd, ini_ok (f := fl 7) F ⟨rfl, rfl, rfl, by decide +kernel, rfl, by decide +kernel, by decide +kernel⟩ rfl rfl (by decide +kernel) (by decide +kernel) e.o e.nf, FunD.bindsN F (fun _ _ _ _ _ _ us hl => match us, hl with | [_, _], _ => rfl),
    kbn_of F 1 [fl 7] (fun _ _ _ _ _ _ us ws h1 h2 => match us, ws, h1, h2 with | [_], [_], _, _ => rfl)⟩
theorem ini8 (c : He.SaysD fa fn K) (e : ExF K (nm 8) (fl 8)) : ∃ fd, FnOk P w K mg base CX0 1 (ini K 8) fd ["self", fl 8] (spIni (cl K 8) (fl 8)) ∧ Binds K fd ["self", fl 8] [] ∧ KBn K fd ["self", fl 8] 1 [fl 8] (fun us ws => us ++ ws) (fun vs zs => vs ++ zs) := by
  obtain ⟨fd, F⟩ := c.def_ 16 (d := iniD (errs.getD 8 ("", "", 0))) rfl
  exact ⟨fd, ini_ok (f := fl 8) F ⟨rfl, rfl, rfl, by decide +kernel, rfl, by decide +kernel, by decide +kernel⟩ rfl rfl (by decide +kernel) (by decide +kernel) e.o e.nf, FunD.bindsN F (fun _ _ _ _ _ _ us hl => match us, hl with | [_, _], _ => rfl),
    kbn_of F 1 [fl 8] (fun _ _ _ _ _ _ us ws h1 h2 => match us, ws, h1, h2 with | [_], [_], _, _ => rfl)⟩
theorem ini9 (c : He.SaysD fa fn K) (e : ExF K (nm 9) (fl 9)) : ∃ fd, FnOk P w K mg base CX0 1 (ini K 9) fd ["self", fl 9] (spIni (cl K 9) (fl 9)) ∧ Binds K fd ["self", fl 9] [] ∧ KBn K fd ["self", fl 9] 1 [fl 9] (fun us ws => us ++ ws) (fun vs zs => vs ++ zs) := by
  obtain ⟨fd, F⟩ := c.def_ 17 (d := iniD (errs.getD 9 ("", "", 0))) rfl
  exact ⟨fd, ini_ok (f := fl 9) F ⟨rfl, rfl, rfl, by decide +kernel, rfl, by decide +kernel, by decide +kernel⟩ rfl rfl (by decide +kernel) (by decide +kernel) e.o e.nf, FunD.bindsN F (fun _ _ _ _ _ _ us hl => match us, hl with | [_, _], _ => rfl),
    kbn_of F 1 [fl 9] (fun _ _ _ _ _ _ us ws h1 h2 => match us, ws, h1, h2 with | [_], [_], _, _ => rfl)⟩
theorem ini10 (c : He.SaysD fa fn K) (e : ExF K (nm 10) (fl 10)) : ∃ fd, FnOk P w K mg base CX0 1 (ini K 10) fd ["self", fl 10] (spIni (cl K 10) (fl 10)) ∧ Binds K fd ["self", fl 10] [] ∧ KBn K fd ["self", fl 10] 1 [fl 10] (fun us ws => us ++ ws) (fun vs zs => vs ++ zs) := by
  obtain ⟨fd, F⟩ := c.def_ 18 (d := iniD (errs.getD 10 ("", "", 0))) rfl
  exact ⟨fd, ini_ok (f := fl 10) F ⟨rfl, rfl, rfl, by decide +kernel, rfl, by decide +kernel, by decide +kernel⟩ rfl rfl (by decide +kernel) (by decide +kernel) e.o e.nf, FunD.bindsN F (fun _ _ _ _ _ _ us hl => match us, hl with | [_, _], _ => rfl),
    kbn_of F 1 [fl 10] (fun _ _ _ _ _ _ us ws h1 h2 => match us, ws, h1, h2 with | [_], [_], _, _ => rfl)⟩
theorem ini_all (c : He.SaysD fa fn K) : ∀ i, i < 11 → ExF K (nm i) (fl i) → ∃ fd, FnOk P w K mg base CX0 1 (ini K i) fd ["self", fl i] (spIni (cl K i) (fl i)) ∧ Binds K fd ["self", fl i] [] ∧ KBn K fd ["self", fl i] 1 [fl i] (fun us ws => us ++ ws) (fun vs zs => vs ++ zs)
  | 0, _, e => ini0 c e
  | 1, _, e => ini1 c e
  | 2, _, e => ini2 c e
  | 3, _, e => ini3 c e
  | 4, _, e => ini4 c e
  | 5, _, e => ini5 c e
  | 6, _, e => ini6 c e
  | 7, _, e => ini7 c e
  | 8, _, e => ini8 c e
  | 9, _, e => ini9 c e
  | 10, _, e => ini10 c e
  | n + 11, h, _ => absurd h (by omega)
theorem facts {P : Program} {w : World} {K : Fr} {h : Heap} {mg : Str → Option Value} {f : Addr} (X : K.In h) (G : h.Ns mainGlobals mg) (hfa : mg ("law" : Str) = some (.ref f)) (c : SaysP fa fn ex K) :
    ∃ fd : FuncData, (∀ (s : Shared) (v : Value), BindsTo s fd ⟨[v], []⟩ [("script", v)]) ∧ ∀ base : Heap, K.In base → base.Ns mainGlobals mg → FnG P w K mg base CX0 4 f fd ["script"] (spLaw K) := by
  obtain ⟨m1, m2⟩ := He.ba c.more
  obtain ⟨m2, m3⟩ := He.ba m2
  obtain ⟨m3, m4⟩ := He.ba m3
  obtain ⟨m4, m5⟩ := He.ba m4
  have hSys : SysK K := sys_ok m1
  have at_ : ∀ i, i < 11 → errs[i]? = some (errs.getD i ("", "", 0)) := by decide +kernel
  have exf : ∀ i, i < 11 → ExF K (nm i) (fl i) := fun i hi => exc_ok (List.all_eq_true.mp m2 _ (List.mem_of_getElem? (at_ i hi)))
  have late : mg "LateError" = some (.ref (He.ga K "LateError")) := PySem.W.mg_of X G (of_decide_eq_true m3)
  have pl : ∀ i, i < 11 → (errs.getD i ("", "", 0)).2.2 = (errs.getD i ("", "", 0)).2.2 := fun _ _ => rfl
  have same : ∀ i, i < 11 → ∀ j, j < 11 → decide ((errs.getD i ("", "", 0)).2.2 = (errs.getD j ("", "", 0)).2.2) = decide (i = j) := by decide +kernel
  have cls : ∀ base : Heap, Cls11 P w K mg base := fun base => {
    c := fun i hi => ⟨PySem.W.mg_of X G (exf i hi).gl, (exf i hi).o, (exf i hi).e, (exf i hi).nf, (exf i hi).iC, (exf i hi).tI, ini_all c.d i hi (exf i hi)⟩
    late := late
    isLate := fun i hi => of_decide_eq_true (He.ba (List.all_eq_true.mp m4 _ (List.mem_of_getElem? (at_ i hi)))).1
    isVe := fun i hi => of_decide_eq_true (He.ba (List.all_eq_true.mp m4 _ (List.mem_of_getElem? (at_ i hi)))).2
    isC := fun i j hi hj => by
      have q := of_decide_eq_true (List.all_eq_true.mp (List.all_eq_true.mp m5 _ (List.mem_of_getElem? (at_ i hi))) _ (List.mem_of_getElem? (at_ j hj)))
      rw [same i hi j hj] at q
      exact q }
  have free : ∀ {x : Str} (i : Nat), fa[i]? = some (.free x) → mg x = none := fun i e => He.free_ok X G (c.d.fact i e)
  have gn : Gn mg := ⟨free 8 rfl, free 9 rfl, free 10 rfl, free 11 rfl, free 12 rfl, free 13 rfl, free 14 rfl, free 15 rfl, free 16 rfl, free 17 rfl⟩
  obtain ⟨d0, F0⟩ := c.d.def_ 0 (d := glD "_law_source" 14) rfl
  obtain ⟨d1, F1⟩ := c.d.def_ 1 (d := glD "_law_draw" 15) rfl
  obtain ⟨d2, F2⟩ := c.d.def_ 2 (d := glD "_law_pick" 16) rfl
  obtain ⟨d3, F3⟩ := c.d.def_ 3 (d := glD "_law_kinds" 17) rfl
  obtain ⟨d4, F4⟩ := c.d.def_ 4 (d := glD "_law_by_place" 18) rfl
  obtain ⟨d5, F5⟩ := c.d.def_ 5 (d := glD "_law_by_name" 19) rfl
  obtain ⟨d6, F6⟩ := c.d.def_ 6 (d := glD "_law_stored" 20) rfl
  obtain ⟨d7, F7⟩ := c.d.def_ 7 (d := glD "law" 21) rfl
  have g : ∀ {x : Str} (i : Nat), fa[i]? = some (.glo x) → mg x = some (.ref (He.ga K x)) := fun i e => He.glo_ok X G (c.d.fact i e)
  have e := hfa.symm.trans (g (x := "law") 7 rfl)
  cases e
  have b0 := FunD.bindsN (ps := ["script", "start"]) F0 fun _ _ _ _ _ _ us hl => match us, hl with | [_, _], _ => rfl
  have b1 := FunD.bindsN (ps := ["source", "span"]) F1 fun _ _ _ _ _ _ us hl => match us, hl with | [_, _], _ => rfl
  have b2 := FunD.bindsN (ps := ["source", "things"]) F2 fun _ _ _ _ _ _ us hl => match us, hl with | [_, _], _ => rfl
  have b3 := FunD.bindsN (ps := ["error"]) F3 fun _ _ _ _ _ _ us hl => match us, hl with | [_], _ => rfl
  have b4 := FunD.bindsN (ps := ["thing"]) F4 fun _ _ _ _ _ _ us hl => match us, hl with | [_], _ => rfl
  have b5 := FunD.bindsN (ps := ["thing"]) F5 fun _ _ _ _ _ _ us hl => match us, hl with | [_], _ => rfl
  have b6 := FunD.bindsN (ps := ["errors"]) F6 fun _ _ _ _ _ _ us hl => match us, hl with | [_], _ => rfl
  have b7 := FunD.bindsA (ps := ["script"]) F7 fun _ _ _ _ _ _ us hl => match us, hl with | [_], _ => rfl
  refine ⟨d7, fun s v => b7 s [v] rfl, fun base _ _ => ?_⟩
  have hDr : FnOk P w K mg base CX0 1 _ d1 ["source", "span"] spDraw := ok_draw gn F1
  exact ok_law gn (free 18 rfl) (cls base) hSys ⟨_, _, ok_source gn F0, b0, g 0 rfl, F0.kp⟩ ⟨_, _, hDr, b1, g 1 rfl, F1.kp⟩ ⟨_, _, ok_pick gn F2 hDr b1 (g 1 rfl) F1.kp, b2, g 2 rfl, F2.kp⟩
    ⟨_, _, ok_kinds gn (cls base) F3, b3, g 3 rfl, F3.kp⟩ ⟨_, _, ok_place (cls base) F4, b4, g 4 rfl, F4.kp⟩ ⟨_, _, ok_name (cls base) F5, b5, g 5 rfl, F5.kp⟩ ⟨_, _, ok_stored (cls base) F6, b6, g 6 rfl, F6.kp⟩ F7
end
end K46
open PySem PySem.W PySem.Calls PyProof.Rows
set_option maxHeartbeats 0 in
theorem PySem.Challenge.cw_playedlate_k46_errors_by_hand_holds : PySem.Challenge.rw_playedlate_k46_errors_by_hand.Holds := by
  w_on; o_law
  refine HandSHeadRun.head_any (r := OpenLaw.row PySem.Challenge.rw_playedlate_k46_errors_by_hand) (q := view (OpenLaw.row PySem.Challenge.rw_playedlate_k46_errors_by_hand).prog [21]) (H := K46.hk) (ob := K46.ob) (M := 4000) (loose := K46.loose) (d := HandSHeadRun.topDef (OpenLaw.row PySem.Challenge.rw_playedlate_k46_errors_by_hand).prog 21) (kwd := []) K46.ob_eq
    (by kernel_rfl) (fun s => by kernel_rfl) K46.run (by kernel_rfl) (by kernel_rfl) (by kernel_rfl) (by rfl) (by first | assumption | decide +kernel) (by decide +kernel) ⟨rfl, rfl, rfl, rfl, rfl, by decide +kernel⟩ ?hw ?hc
  case hw => w_witness2
  case hc =>
    refine L2.Pl.walk_G (l := PySem.Challenge.rw_playedlate_k46_errors_by_hand) (n := 63) (k := 4) (x := "script") (CX := fun _ => L2.CX0) rfl (by decide) (by kernel_rfl) ⟨rfl, by decide, by decide⟩ ?F (fun _ _ _ _ _ z => z)
    intro w mg fa h Y G hmg0
    obtain ⟨K, KX, c⟩ := Y
    have hmg : mg ("law" : PySem.Str) = some (.ref fa) := by
      have e : (HandSHeadRun.topDef (OpenLaw.row PySem.Challenge.rw_playedlate_k46_errors_by_hand).prog 21).name = ("law" : PySem.Str) := by kernel_rfl
      rw [← e]
      exact hmg0
    obtain ⟨fd, hb, hF⟩ := K46.facts (P := (PySem.Challenge.rw_playedlate_k46_errors_by_hand).prog) (w := w) KX G hmg c
    exact ⟨K, fd, K46.spLaw K, KX, hb, fun H a ns hl hbits _ hS => ⟨a, ns, rfl, hS, hl, hbits, fun _ => rfl⟩, hF⟩
