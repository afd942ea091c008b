import PyProof.Rows.All
import Wide.All
import OpenK.AllK
import Wide.FinOn
import HandS.Base
import HandS.Call
import HandS.List
import HandS.Exc
import HandS.Defaults
import HandS.ExcInit
import HandS.Words
import KE.KIsAll
import KE.KTryMore
import HandS.ExcIs
import HandS.IsInst
import HandS.ForMost
import HandS.ClsMeth
import PyProof.NeKinds
import HandS.More
import HandS.DeepEq
import PyProof.StrWalks
import KE.KDictList
import HandS.Conv
import HandS.Style
import HandS.Codes
import HandS.Walk
import PyProof.P3Eq
import PyProof.StrBlock2
import PySem.Challenge.RW_timesagain_k00_errors_and_checks
set_option Elab.async false
set_option linter.all false
set_option maxRecDepth 100000
set_option maxHeartbeats 4000000
/-! errors as values: made by place or by name, their fields read, isinstance asked of them -/
namespace PySem
namespace TAX
open PySem.W PySem.Calls PyProof.Rows PySem.HandSPX Builtin Builtin.ObjectAttr
section
variable {prog : Program} {w : World} {M : Model} {A : Around} {E : Value → Shared → Prop} {R : Result → Shared → Prop} {h : Heap} {g : Array GenState} {d : Drawn} {t : Nat} {os : OsState}
variable {nm q : Str} {C N : Addr} {bs bm bmB : List Value} {hdct : Bool} {sn : List Str} {sub : List Value} {ab : Bool} {col : Option Bool} {dd : Option Addr} {k0 k1 k2 k3 k5 : Option Value} {B newId initId : String}
theorem chk_new_kw (F : ExcBaseFacts B newId initId bmB) (hT : ∀ X : String, bm.contains (.type X) = bmB.contains (.type X)) {us : List Value} {kw : List (Str × Value)} {Q : Unit → Shared → Prop}
    (hC : h.get? C = some (excClassObj nm q C N bs bm hdct sn sub ab col dd k0 k1 k2 k3 k5 newId)) (hq : Q () ⟨h, g, d, t, os⟩) :
    wpAny M A (checkBuiltinCall newId ⟨.ref C :: us, kw⟩) Q E ⟨h, g, d, t, os⟩ := by
  have hc1 : (Value.ref C :: bm).contains (.type B) = true := by rw [List.contains_cons, hT, F.hasB, Bool.or_true]
  have hs1 := F.noStar
  simp only [checkBuiltinCall, F.newKind, F.newSplit, F.newRow]
  repeat (first | with_reducible refine wpAny_loadPart_at hC ?_ | (with_reducible refine wpAny_isSubtype_exc hC ?_; rw [hc1]) | refine wpAny_staticBase_exc hC ?_ | refine wpAny_madeBy_exc hC ?_ | simp only [bne_self_eq_false, Bool.false_eq_true, if_false] | wp_step)
  exact hq
theorem new_kw (F : ExcBaseFacts B newId initId bmB) (hT : ∀ X : String, bm.contains (.type X) = bmB.contains (.type X)) {us : List Value} {kw : List (Str × Value)}
    (hC : h.get? C = some (excClassObj nm q C N bs bm hdct sn sub ab col dd k0 k1 k2 k3 k5 newId)) (hl : us.length ≤ sizeLine)
    (hq : R (.ok (.ret (.ref (h.objs.size + 1)))) ⟨(h.push (W.kdv_tup us)).push (excO C h.objs.size), g, d, t, os⟩) :
    codeAny (model prog w) A (.builtin newId ⟨.ref C :: us, kw⟩) R ⟨h, g, d, t, os⟩ := by
  have he1 := F.ends
  have h1 : (Value.ref C :: bm).contains (.type B) = true := by rw [List.contains_cons, hT, F.hasB, Bool.or_true]
  have h2 : (Value.ref C :: bm).contains (.type "AttributeError") = false := by rw [List.contains_cons, hT, F.noAttr]; rfl
  have h3 : (Value.ref C :: bm).contains (.type "NameError") = false := by rw [List.contains_cons, hT, F.noName]; rfl
  refine codeAny_builtinAt F.entry ?_
  unfold Builtin.«BaseException.__new__»
  refine wpAt_bind ?_
  show wpAt _ _ _ (stack >>= _) _ _ _
  refine wpAt_bind (wpAt_stack fun p below => wpAt_of_wpAny ?_)
  wp_walk
  refine wpAt_of_wpAny ?_
  rw [F.owner]
  repeat (first | with_reducible refine wpAny_madeHere_exc F.canon hC ?_ | with_reducible refine wpAny_loadPart_at hC ?_ | (with_reducible refine wpAny_isSubtype_exc hC ?_; first | rw [h1] | rw [h2] | rw [h3]) | wp_step)
  show R _ _
  rw [Heap.size_push]
  exact hq
theorem tcall_kw (F : ExcBaseFacts B newId initId bmB) (hT : ∀ X : String, bm.contains (.type X) = bmB.contains (.type X)) {us : List Value} {kw : List (Str × Value)} {fI : Addr} {Q : Fin → Shared → Prop}
    (hC : h.get? C = some (excClassObj nm q C N bs bm hdct sn sub ab col dd k0 k1 k2 k3 k5 newId))
    (hi : W.Looks (model prog w) h (typeLookup (.ref C) "__init__") (some (.ref fI))) (hb : ∀ self, W.Looks (model prog w) h (bindSpecial (.ref fI) self) (.ref fI, [self])) (hl : us.length ≤ sizeLine)
    (hq : codeAny (model prog w) A (.call (.ref fI) ⟨.ref (h.objs.size + 1) :: us, kw⟩)
      (fun r s' => match r with | .ok (.ret v) => v = .none ∧ Q (.done (.ret (.ref (h.objs.size + 1)))) s' | .ok _ => False | .error e => E e s')
      ⟨(h.push (W.kdv_tup us)).push (excO C h.objs.size), g, d, t, os⟩) :
    wpAny (model prog w) A (Builtin.«type.__call__» ⟨.ref C :: us, kw⟩) Q E ⟨h, g, d, t, os⟩ := by
  repeat (first | with_reducible refine wpAny_loadPart_at hC ?_ | with_reducible refine wpAny_madeBy_exc hC ?_ | wp_step)
  refine codeAny_call_builtin_code (Code.quiet_builtin _ F.quiet) (chk_new_kw F hT hC ?_)
  refine new_kw F hT hC hl ?_
  show wpAny _ _ _ _ _ _
  have kk : ∀ b o, h.get? b = some o → ((h.push (W.kdv_tup us)).push (excO C h.objs.size)).get? b = some o := fun b o e => Heap.get?_push_of_some _ (Heap.get?_push_of_some _ e)
  have hC1 := kk _ _ hC
  have hg : ((h.push (W.kdv_tup us)).push (excO C h.objs.size)).get? (h.objs.size + 1) = some (excO C h.objs.size) := by heap_get
  have hCC : (Value.ref C :: bm).contains (.ref C) = true := by simp
  have j1 := hi.keeps kk
  have j2 := (hb (.ref (h.objs.size + 1))).keeps kk
  unfold isInstance
  repeat (first | with_reducible refine wpAny_loadPart_at hg ?_ | (with_reducible refine wpAny_isSubtype_exc hC1 ?_; rw [hCC]) | wp_step)
  show wpAny _ _ (typeLookup (.ref C) _) _ _ _
  refine j1.at ?_
  refine wpAny_holding (wpAny_bind (j2.at ?_))
  refine wpAny_bind (wpAny_call (codeAny_mono hq fun r s' z => ?_))
  rcases r with e | (v | _ | _ | _) <;> first | exact z | exact z.elim | skip
  obtain ⟨rfl, z⟩ := z
  first
    | exact wpAny_pure (wpAny_pure z)
    | (wp_walk; exact z)
theorem call_kw (F : ExcBaseFacts B newId initId bmB) (hT : ∀ X : String, bm.contains (.type X) = bmB.contains (.type X)) {us : List Value} {kw : List (Str × Value)} {fI : Addr}
    (hC : h.get? C = some (excClassObj nm q C N bs bm hdct sn sub ab col dd k0 k1 k2 k3 k5 newId))
    (hi : W.Looks (model prog w) h (typeLookup (.ref C) "__init__") (some (.ref fI))) (hb : ∀ self, W.Looks (model prog w) h (bindSpecial (.ref fI) self) (.ref fI, [self])) (hl : us.length ≤ sizeLine)
    (hq : codeAny (model prog w) (A.under (.builtin "type.__call__" ⟨.ref C :: us, kw⟩)) (.call (.ref fI) ⟨.ref (h.objs.size + 1) :: us, kw⟩) (W.InitBack (h.objs.size + 1) R)
      ⟨(h.push (W.kdv_tup us)).push (excO C h.objs.size), g, d, t, os⟩) :
    codeAny (model prog w) A (.call (.ref C) ⟨us, kw⟩) R ⟨h, g, d, t, os⟩ := by
  have z1 := tc_lookup
  have z2 := tc_bind (.ref C)
  have hTy : (⟨h, g, d, t, os⟩ : Shared).TypeIs (.ref C) "type" := ⟨_, hC, rfl⟩
  refine codeAny_of_tree ?_
  show wpAny _ _ (callAny (.ref C) _) _ _ _
  repeat (any_goals (first | assumption | with_reducible refine wpAny_loadPart_at hC ?_ | wp_step))
  refine ⟨rfl, ?_⟩
  refine codeAny_call_builtin_at (Code.quiet_builtin _ (by decide +kernel)) entry_typeCall (wpAny_check_type_call_sub hC (tcall_kw F hT hC hi hb hl ?_))
  refine codeAny_mono hq fun r s' z => ?_
  rcases r with e | (v | _ | _ | _) <;> exact z
end
end TAX
end PySem
namespace TA
open PySem PySem.Spec L2
open PyProof.Rows hiding St
/-- C(e, .., k = v, ..), an error class with an own __init__: the new error itself -/
def tMkX (C : Addr) (n m : Nat) (sp : Sp) (gV : List V → List V → List V) (t tk : TA) : TE := fun σ H Q => t σ H fun vs H1 => tk σ H1 fun zs H2 => vs.length = n ∧ zs.length = m ∧
  ∀ a, H2 a = none → sp (gV (.ref a :: vs) zs) (upd H2 a (exo a C none)) (fun v H3 => v = .non ∧ Q (.ref a) H3) E0
section
variable {X : Cx} {k n : Nat} {f C : Addr} {fd : FuncData} {ps ks : List Str} {sp : Sp} {x : Str} {p pos : Pos} {e : Expr} {es : List Expr} {kws : List Keyword} {t tk : TA} {g : List Value → List Value → List Value} {gV : List V → List V → List V}
theorem run_mkx {pins : List (Addr × Obj)} {σ : St} {H : Hp} {s : Shared} {Q : VK} {us ws : List Value} {vs zs : List V} (T : OexC X.K C) (iC : PySem.W.findIn X.K (.ref C) "__init__" = some (some (.ref f))) (tI : PySem.W.typeIn X.K (.ref f) = some (.type "function"))
    (F : FnOk X.prog X.w X.K X.mg X.base CX0 k f fd ps sp) (hr : Room (k + 1) X.A) (hb : KBn X.K fd ps (n + 1) ks g gV) (hn : n ≤ 1000) (I : Inv X pins σ H s) (r : Vals vs us) (rz : Vals zs ws) (l1 : vs.length = n) (l2 : zs.length = ks.length)
    (h : ∀ a, H a = none → sp (gV (.ref a :: vs) zs) (upd H a (exo a C none)) (fun v H2 => v = .non ∧ Q (.ref a) H2) E0) :
    wpAny (model X.prog X.w) X.A (call (.ref C) us (ks.zip ws)) (EP X pins σ Q) X.xe s := by
  obtain ⟨nm, q, N, bs, bm, sn, sub, ab, col, dd, k0, k1, k2, k3, k5, hC, hbm⟩ := T.cls
  obtain ⟨hp, gg, dr, tk, os⟩ := s
  have hsz : hp.objs.size ≤ hp.objs.size + 1 := Nat.le_succ _
  have hq := h (hp.objs.size + 1) (I.hok.fresh hsz)
  have kk : ∀ b o, hp.get? b = some o → ((hp.push (PySem.W.kdv_tup us)).push (PySem.HandSPX.excO C hp.objs.size)).get? b = some o := fun b o e => Heap.get?_push_of_some _ (Heap.get?_push_of_some _ e)
  have hget : ((hp.push (PySem.W.kdv_tup us)).push (PySem.HandSPX.excO C hp.objs.size)).get? (hp.objs.size + 1) = some (PySem.HandSPX.excO C hp.objs.size) := by heap_get
  have I2 : Inv X pins σ (upd H (hp.objs.size + 1) (exo (hp.objs.size + 1) C none)) ⟨(hp.push (PySem.W.kdv_tup us)).push (PySem.HandSPX.excO C hp.objs.size), gg, dr, tk, os⟩ :=
    I.laid (t' := tk) (a := hp.objs.size + 1) (o := exo (hp.objs.size + 1) C none) kk hsz (exo_ok hget)
  have r1 : Vals (V.ref (hp.objs.size + 1) :: vs) (Value.ref (hp.objs.size + 1) :: us) := .cons rfl r
  have r2 := hb.rel r1 rz
  have n1 : (Value.ref (hp.objs.size + 1) :: us).length = n + 1 := by
    rw [List.length_cons, ← r.length, l1]
  have hus : us.length ≤ sizeLine := by
    rw [← Paired.length r, sizeLine_eq]
    omega
  refine wpAny_call (PySem.TAX.call_kw PySem.F.excBase_ValueError (fun Y => PySem.HandSPX.refsVE_contains Y bm hbm) (I.kIn _ _ hC) (PySem.W.looks_findIn I.kIn iC) (fun self => PySem.W.bind_fn I.kIn self tI) hus
    (codeAny_mono (F.run _ X.stack _ _ ⟨Value.ref (hp.objs.size + 1) :: us, ks.zip ws⟩ (g (Value.ref (hp.objs.size + 1) :: us) ws) _ _ E0 (hr.make C us (ks.zip ws)) (I2.env0.make C us (ks.zip ws))
      (hb.to _ (Value.ref (hp.objs.size + 1) :: us) ws I2.kIn n1 (rz.length.symm.trans l2)) r2 hq) fun r s' hq' => ?_))
  cases r with
  | error er => exact False.elim hq'
  | ok fl =>
    cases fl with
    | ret u =>
      obtain ⟨v, H', I3, rv, ev, q3⟩ := I2.after hq'
      subst ev
      exact ⟨rv, ⟨V.ref (hp.objs.size + 1), H', I3, rfl, q3⟩⟩
    | next => exact False.elim hq'
    | brk => exact False.elim hq'
    | cont => exact False.elim hq'
/-- C(k = v, ..) -/
theorem pe_mkx0 (T : OexC X.K C) (iC : PySem.W.findIn X.K (.ref C) "__init__" = some (some (.ref f))) (tI : PySem.W.typeIn X.K (.ref f) = some (.type "function")) (F : FnOk X.prog X.w X.K X.mg X.base CX0 k f fd ps sp) (hr : Room (k + 1) X.A) (hg : Gl X x) (hm : X.mg x = some (.ref C))
    (hb : KBn X.K fd ps 1 ks g gV) (hkw : PK X kws tk) (hall : (backToKw pos (keywordEach kws X.env)).all (·.1.isSome) = true := by rfl) (hks : (backToKw pos (keywordEach kws X.env)).filterMap (·.1) = ks := by rfl)
    (hdb : (x == ("__debug__" : Str)) = false := by decide) (hpl : ((backTo pos (starEach [] X.env)).any (·.1) || (backToKw pos (keywordEach kws X.env)).any (·.1.isNone)) = false := by rfl) :
    PE X (.Call (.Name x p) [] kws pos) (tMkX C 0 ks.length sp gV tNil tk) := by
  refine ⟨fun pins s σ H Q I h => ?_⟩
  refine wpAny_Call_Name_kw (ld_glob I hg hm ?_ hdb)
  refine PySem.W.callWith_KW0 (h₀ := X.base) I.ok.mod.kin T.kC hall ?_ hpl
  refine thn (hkw.run pos pins s σ H _ I h) fun ws s2 ⟨zs, H2, I2, rz, l1, l2, q2⟩ => ⟨I2.kIn, ?_⟩
  rw [hks]
  exact run_mkx (us := []) (vs := []) T iC tI F hr hb (by omega) I2 .nil rz rfl l2 q2
/-- C(e, ..) -/
theorem pe_mkx (T : OexC X.K C) (iC : PySem.W.findIn X.K (.ref C) "__init__" = some (some (.ref f))) (tI : PySem.W.typeIn X.K (.ref f) = some (.type "function")) (F : FnOk X.prog X.w X.K X.mg X.base CX0 k f fd ps sp) (hr : Room (k + 1) X.A) (hg : Gl X x) (hm : X.mg x = some (.ref C))
    (hb : KBn X.K fd ps (n + 1) [] g gV) (hn : n ≤ 1000) (ha : PA X (e :: es) t) (hdb : (x == ("__debug__" : Str)) = false := by decide) (he : starEach (e :: es) X.env = (false, eval e X.env) :: starEach es X.env := by rfl)
    (hpl : (backTo pos (starEach es X.env)).any (·.1) = false := by rfl) : PE X (.Call (.Name x p) (e :: es) [] pos) (tMkX C n 0 sp gV t tNil) := by
  refine ⟨fun pins s σ H Q I h => ?_⟩
  refine wpAny_Call_Name_kw (ld_glob I hg hm ?_ hdb)
  refine PySem.W.callWith_K (h₀ := X.base) I.ok.mod.kin T.kC (thn (ha.run pos pins s σ H _ I h) fun us s1 ⟨vs, H1, I1, r, l1, l2, q⟩ => ⟨I1.kIn, ?_⟩) he hpl
  exact run_mkx (us := us) (vs := vs) (zs := []) (ws := []) (ks := []) T iC tI F hr hb hn I1 r .nil l1 rfl q
end
/-- how C's parameters bind, all given by place -/
theorem kbn_pos {K : PySem.W.Frag} {fd : FuncData} {ps : List Str} {n : Nat} (h : ∀ us : List Value, us.length = n → bindArgs fd ⟨us, []⟩ = pure (ps.zip us)) : KBn K fd ps n [] (fun us _ => us) (fun vs _ => vs) :=
  ⟨fun s us ws _ l1 _ => .of_eq (h us l1), fun r _ => r⟩
end TA
namespace PySem.W
open PySem PySem.Spec PySem.Calls PyProof.Rows
section
variable {prog : Program} {w : World} {A : Around} {E : Value → Shared → Prop} {s : Shared} {K : Frag} {x D : Addr} {ox : Obj} {od : Option Obj}
theorem ta_findcls (hd : hasDictIn K D = true) (ha : findIn K (.ref D) "__class__" = some (some (.builtin "object.__class__")))
    (hn : specialIn K (.builtin "object.__class__") "__get__" = some (some (.builtin "getset_descriptor.__get__"))) (ht : takesIn K (.builtin "object.__class__") = some true) :
    findObj K D od "__class__" = some (.bind (.builtin "getset_descriptor.__get__") (.builtin "object.__class__")) := by
  obtain ⟨cd, hc, _⟩ := any_some hd
  unfold findObj
  rw [hc, Option.bind_some, ha, Option.bind_some]
  simp [hn, ht]
/-- __class__ of an error that has its dict -/
theorem ta_class {Q : Option Value → Shared → Prop} (c : L2.ExcC K D) (X : K.In s.heap) (I : InstAt s.heap x ox D od) (h : Q (some (.ref D)) { s with toks := s.toks + 1 }) : wpAny (model prog w) A (getAttr? (.ref x) "__class__") Q E s := by
  have hf := ta_findcls (od := od) c.hd c.ha c.hn c.ht
  obtain ⟨hp, g, d, t, os⟩ := s
  have L0 := I.type (M := model prog w)
  have L1 := looks_findIn (M := model prog w) X c.hg
  have L2 := looks_findIn (M := model prog w) X c.hk
  have L3 := looks_find (M := model prog w) X I hf
  have isB : Looks (model prog w) hp (isInstance (.ref x) (.type "BaseException")) true := L0.andThen (looks_subIn X c.hs)
  have e2 : (Value.builtin "BaseException.__getattribute__" == Value.builtin "object.__getattribute__") = false := by decide +kernel
  have e1 : (onTheHeap (Value.ref D) && Value.builtin "BaseException.__getattribute__" == Value.builtin "object.__getattribute__") = false := by rw [e2]; rfl
  unfold getAttr? getAttrBy? getAttrBy
  refine wpAny_bind (wpAny_mkText (wpAny_bind (wpAny_attempt (wpAny_holding (wpAny_bind (L0.at (wpAny_bind (L1.at ?_))))))))
  show wpAny _ _ (if (onTheHeap (Value.ref D) && Value.builtin "BaseException.__getattribute__" == Value.builtin "object.__getattribute__") = true then _ else _) _ _ _
  rw [e1, if_neg Bool.false_ne_true]
  unfold getAttrByItsOwn hookBefore
  refine wpAny_bind ?_
  rw [if_pos (show onTheHeap (Value.ref D) = true from rfl)]
  refine L2.at ?_
  refine wpAny_bind (wpAny_attempt (wpAny_holding ?_))
  unfold callGetattribute
  rw [if_neg (show ¬ (false && onTheHeap (Value.builtin "BaseException.__getattribute__")) = true from Bool.false_ne_true)]
  unfold boundAndCalled
  rw [PySem.F.excAttr_ValueError.ga.bind (.ref x)]
  refine wpAny_bind (wpAny_pure ?_)
  show wpAny _ _ (call (.builtin "BaseException.__getattribute__") [.ref x, .str "__class__" t]) _ _ _
  refine wpAny_call (codeAny_call_builtin PySem.F.excAttr_ValueError.ga.plain PySem.F.entry_bexc_ga ?_)
  refine @check_slot (model prog w) _ _ ⟨hp, g, d, t + 1, os⟩ "BaseException.__getattribute__" "BaseException" "__getattribute__" (.ref x) [.str "__class__" t] [] _ (by decide +kernel) (by decide +kernel) isB (PySem.F.args_bexc_ga (.ref x) (.str "__class__" t)) ?_
  unfold Builtin.«object.__getattribute__»
  refine wpAny_bind (wpAny_of_eq (a := ((Value.ref x : Value), [Value.str "__class__" t])) (by first | rfl | (simp only [slotArgs]; rfl)) ?_)
  refine wpAny_bind (wpAny_pure (wpAny_bind (L0.at (wpAny_bind (L3.at ?_)))))
  show wpAny _ _ (holding [Value.builtin "object.__class__"] (call (.builtin "getset_descriptor.__get__") [.builtin "object.__class__", .ref x, .ref D]) >>= ret) _ _ _
  refine wpAny_bind (wpAny_holding (wpAny_call (class_get (s := ⟨hp, g, d, t + 1, os⟩) (ox := ox) (od := od) X I c.hm ?_)))
  refine wpAny_pure ?_
  show wpAny _ _ (handedOut (.ref D)) _ _ _
  rw [handedOut_of (v := .ref D) rfl]
  first
    | exact wpAny_pure (wpAny_pure h)
    | exact wpAny_pure h
    | exact wpAny_pure (wpAny_bind (wpAny_pure (wpAny_pure h)))
theorem ta_clsOut (hd : hasDictIn K D = true) : ∃ c' d' cd sl, K.lookup D = some ⟨c', d', .cls cd, sl⟩ := by
  obtain ⟨cd, hc, _⟩ := any_some hd
  unfold clsIn at hc
  split at hc
  · rename_i c' d' cd' sl' ho
    exact ⟨c', d', cd', sl', ho⟩
  · cases hc
theorem ta_kitx (c : L2.ExcC K D) : KitX K (.ref x) (.ref D) (fun h => InstAt h x ox D od) where
  ty := fun _ _ _ I => I.type
  it := fun _ _ X _ => by
    obtain ⟨c', d', cd, sl, ho⟩ := ta_clsOut c.hd
    intro A' Q' E' s' k q
    unfold isType loadHead
    exact wpAny_bind (wpAny_loadPart (k _ _ (X _ _ ho)) (wpAny_pure q))
  ne := fun h tp dd its n sl X htp => by
    obtain ⟨c', d', cd, sl', ho⟩ := ta_clsOut c.hd
    refine Bool.eq_false_iff.mpr fun q => ?_
    obtain rfl : D = tp := Value.ref.inj (beq_iff_eq.mp q)
    cases (X _ _ ho).symm.trans htp
  ca := fun X I k => ta_class c X I k
end
end PySem.W
namespace TA
open PySem PySem.Spec L2
open PyProof.Rows hiding St
/-- what is known of an error class: it is one, its objects are asked rightly -/
structure XCl (K : PySem.W.Frag) (C : Addr) : Prop where
  o : OexC K C
  i : ExcC K C
/-- an error that was made, with its fields -/
def ErrAt (H : Hp) (a C : Addr) (fs : List (Str × V)) : Prop := ∃ dd, H a = some (exo a C (some dd)) ∧ H dd = some (exd dd fs)
theorem ErrAt.keep {H H' : Hp} {a C : Addr} {fs : List (Str × V)} (h : ErrAt H a C fs) (k : ∀ b o, H b = some o → (∃ e c d, o = exo e c d) ∨ (∃ e f, o = exd e f) → H' b = some o) : ErrAt H' a C fs := by
  obtain ⟨dd, h1, h2⟩ := h
  exact ⟨dd, k _ _ h1 (.inl ⟨_, _, _, rfl⟩), k _ _ h2 (.inr ⟨_, _, rfl⟩)⟩
section
variable {X : Cx} {pins : List (Addr × Obj)} {σ : L2.St} {H : Hp} {s : Shared}
theorem err_inst {a C : Addr} {fs : List (Str × V)} (I : Inv X pins σ H s) (h : ErrAt H a C fs) : ∃ (ox od : Obj) (mA : Str → Option Value), PySem.W.InstAt s.heap a ox C (some od) ∧ (∀ n, PySem.W.lookIn n od = some (mA n)) ∧ ∀ f, RelO (fs.lookup f) (mA f) := by
  obtain ⟨dd, h1, h2⟩ := h
  obtain ⟨t1, ho⟩ := exo_at I.hok h1
  obtain ⟨mA, hns, rel⟩ := exd_at I.hok h2
  obtain ⟨od, hod, hl⟩ := lookIn_ns hns
  exact ⟨_, od, mA, ⟨ho, rfl, rfl, hod⟩, hl, rel⟩
/-- e.f -/
def tOfl (K : PySem.W.Frag) (f : Str) (te : TE) : TE := fun σ H Q => te σ H fun x H1 => ∃ (a C : Addr) (fs : List (Str × V)) (v : V), x = .ref a ∧ ErrAt H1 a C fs ∧ XCl K C ∧ PySem.W.findIn K (.ref C) f = some none ∧ fs.lookup f = some v ∧ Q v H1
theorem pe_ofl {e : Expr} {te : TE} {n : Str} {pos : Pos} (he : PE X e te) (hb : attributeBase e n X.env (eval e X.env) = eval e X.env := by rfl) : PE X (.Attribute e n pos) (tOfl X.K n te) := by
  refine ⟨fun pins s σ H Q I h => ?_⟩
  refine attr_of hb (thn (he.run pins s σ H _ I h) fun u s1 hh => ?_)
  obtain ⟨x, H1, I1, rx, a, C, fs, v, ex, ea, T, hno, l, q⟩ := hh
  subst ex
  obtain rfl : u = Value.ref a := rx
  obtain ⟨ox, od, mA, J, hl, rel⟩ := err_inst I1 ea
  obtain ⟨u, hu, ru⟩ := RelO.some_of (v := v) (o := mA n) (by rw [← l]; exact rel n)
  exact HandSPX.exc_get I1.kIn J T.i.hg T.i.hk T.i.hs (PySem.W.findObj_own T.i.hd hno rfl (by rw [hl, hu])) (handed_of ru) ⟨v, H1, I1.tok _, ru, q⟩
/-- isinstance(e, c) of an error that was made: c a class, or a tuple of classes -/
def rErr (K : PySem.W.Frag) : List V → Hp → VK → Prop := fun xs H Q => ∃ (a C : Addr) (fs : List (Str × V)) (c : V) (u : Value) (b : Bool), xs = [.ref a, c] ∧ ErrAt H a C fs ∧ XCl K C ∧ ClsV c u ∧ PySem.W.kitOne K (.ref C) u = some b ∧ Q (.bl b) H
def rErrT (K : PySem.W.Frag) : List V → Hp → VK → Prop := fun xs H Q => ∃ (a C : Addr) (fs : List (Str × V)) (tp : Addr) (cs : List V) (us : List Value) (b : Bool), xs = [.ref a, .ref tp] ∧ ErrAt H a C fs ∧ XCl K C ∧ H tp = some (.tup cs) ∧ Paired ClsV cs us ∧ PySem.W.kitAny K (.ref C) us = some b ∧ Q (.bl b) H
theorem call_err : CallR X (.builtin "isinstance") (rErr X.K) := by
  intro pins s σ H xs us Q I r h
  obtain ⟨a, C, fs, c, u, b, rfl, hE, T, k, e, q⟩ := h
  obtain ⟨u1, u2, rfl, r1, r2⟩ := vals2 r
  cases (show u1 = Value.ref a from r1)
  have e2 := k.eq r2
  subst e2
  obtain ⟨ox, od, mA, J, _, _⟩ := err_inst I hE
  exact PySem.W.kia_one (PySem.W.ta_kitx T.i) I.kIn J e (fun z => nomatch z) fun tk => ⟨.bl b, H, I.tok tk, rfl, q⟩
theorem call_errT : CallR X (.builtin "isinstance") (rErrT X.K) := by
  intro pins s σ H xs us Q I r h
  obtain ⟨a, C, fs, tp, cs, ws, b, rfl, hE, T, hT, k, e, q⟩ := h
  obtain ⟨u1, u2, rfl, r1, r2⟩ := vals2 r
  cases (show u1 = Value.ref a from r1)
  cases (show u2 = Value.ref tp from r2)
  obtain ⟨ox, od, mA, J, _, _⟩ := err_inst I hE
  obtain ⟨_, its, rv, o, h1, h2, n, h3⟩ := (show ObjOk X.prog X.w H s.heap tp (.tup cs) from I.hok tp _ hT)
  have e3 := ClsV.all k rv
  subst e3
  obtain ⟨oc, od', dt, sl⟩ := o
  simp only at h2 h3
  subst h2 h3
  exact PySem.W.kia_tup (PySem.W.ta_kitx T.i) I.kIn J h1 e (fun z => nomatch z) fun tk => ⟨.bl b, H, I.tok tk, rfl, q⟩
end
end TA
namespace TA
open PySem PySem.Spec L2
open PyProof.Rows hiding St
/-- C.m is a plain def, read off the class -/
structure CDef (K : PySem.W.Frag) (C : Addr) (mc : Value) (m : Str) (f : Addr) : Prop where
  r : ClX.CRead K C mc
  at_ : PySem.W.findCls K (.ref C) mc m = some (.val (.ref f))
/-- C.m(e, ..) -/
def tCDef (C : Addr) (sp : Sp) (dvs : List V) (E : XK) (ta : TE) (t : TA) : TE := fun σ H Q => ta σ H fun x H1 => x = .ref C ∧ t σ H1 fun vs H2 => sp (vs ++ dvs) H2 Q E
section
variable {X : Cx} {CX : CXT} {k : Nat} {f C : Addr} {fd : FuncData} {ps : List Str} {sp : Sp} {dvs : List V} {ds : List Value} {E : XK} {m : Str} {mc : Value} {pos apos : Pos} {e o : Expr} {es : List Expr} {ta : TE} {t : TA}
theorem pe_cdef {pl : Sem Bool} (he : PE X o ta) (c : CDef X.K C mc m f) (F : FnOk X.prog X.w X.K X.mg X.base CX k f fd ps sp) (hr : Room k X.A) (hk : PySem.W.keepIn X.K (.ref f) = true) (hb : Binds X.K fd ps ds) (hd : Vals dvs ds) (hx : Passes CX X E) (ha : PA X (e :: es) t)
    (hst : starEach (e :: es) X.env = (false, eval e X.env) :: starEach es X.env := by rfl) (hpl : (backTo pos (starEach es X.env)).any (·.1) = false := by rfl)
    (ht : eval (.Call (.Attribute o m apos) (e :: es) [] pos) X.env = (do
      let ov ← eval o X.env
      standAt apos.atName
      let (f, first) ← holding [ov] (getMethod ov m pl)
      callWith pos f first (backTo pos (starEach (e :: es) X.env)) (backToKw pos (keywordEach [] X.env))) := by rfl) :
    PE X (.Call (.Attribute o m apos) (e :: es) [] pos) (tCDef C sp dvs E ta t) := by
  refine ⟨fun pins s σ H Q I h => ?_⟩
  refine PySem.W.methodCall_KW (pl := pl) (thn (he.run pins s σ H _ I h) fun u s1 ⟨x, H1, I1, rx, ex, q⟩ => ?_) ht
  subst ex
  obtain rfl : u = Value.ref C := rx
  refine PySem.W.method_cls I1.kIn c.r.ga (PySem.W.cls_value I1.kIn c.r.rd c.at_ rfl ?_)
  have I2 := I1.tok (s1.toks + 1)
  exact PySem.W.callWith_K (h₀ := X.base) (first := []) I2.ok.mod.kin hk (thn (ha.run pos pins _ σ H1 _ I2 q) fun us s3 ⟨vs, H2, I3, rv, q2⟩ => ⟨I3.kIn, run_fn F hr hb hd hx I3 rv q2⟩) hst hpl
end
end TA
namespace TA
open PySem PySem.Spec L2
open PyProof.Rows hiding St
/-- what == says of two items: the same value, or two flat ones -/
inductive EqI : V → V → Bool → Prop where
  | same (x : V) (h : flatB x = true ∨ ∃ a, x = .ref a) : EqI x x true
  | flat {x y : V} (hx : flatV x = true) (hy : flatV y = true) : EqI x y (eqV x y)
inductive EqIs : List V → List V → List Bool → Prop where
  | nil : EqIs [] [] []
  | cons {x y : V} {b : Bool} {xs ys : List V} {bs : List Bool} (h : EqI x y b) (t : EqIs xs ys bs) : EqIs (x :: xs) (y :: ys) (b :: bs)
theorem EqI.at {A : Around} {s : Shared} {x y : V} {b : Bool} {u v : Value} (h : EqI x y b) (rx : RelV x u) (ry : RelV y v) : SeqAt.EqAt A s u v b := by
  cases h with
  | same f =>
    rcases f with f | ⟨a, rfl⟩
    · exact eqAt_same rx ry f
    · cases (show u = Value.ref a from rx)
      cases (show v = Value.ref a from ry)
      exact SeqAt.EqAt.same _
  | flat hx hy => exact eqAt_V rx ry hx hy
theorem EqIs.len {xs ys : List V} {bs : List Bool} (h : EqIs xs ys bs) : xs.length = bs.length ∧ ys.length = bs.length := by
  induction h with
  | nil => exact ⟨rfl, rfl⟩
  | cons _ _ ih => exact ⟨congrArg Nat.succ ih.1, congrArg Nat.succ ih.2⟩
theorem EqIs.at {A : Around} {s : Shared} {xs ys : List V} {bs : List Bool} (h : EqIs xs ys bs) : ∀ {us vs : List Value}, Vals xs us → Vals ys vs → ∀ (j : Nat) (h1 : j < us.length) (h2 : j < vs.length), SeqAt.EqAt A s us[j] vs[j] (bs.getD j true) := by
  induction h with
  | nil =>
    intro us vs r1 r2 j h1 _
    cases r1
    exact absurd h1 (Nat.not_lt_zero j)
  | cons h _ ih =>
    intro us vs r1 r2 j h1 h2
    cases r1 with
    | cons a1 b1 =>
      cases r2 with
      | cons a2 b2 =>
        cases j with
        | zero => exact h.at a1 a2
        | succ j => exact ih b1 b2 j (Nat.lt_of_succ_lt_succ h1) (Nat.lt_of_succ_lt_succ h2)
theorem all_getD : ∀ bs : List Bool, (List.range bs.length).all (fun j => bs.getD j true) = bs.all id
  | [] => rfl
  | b :: r => by
    rw [List.length_cons, List.range_succ_eq_map, List.all_cons, List.all_map, List.all_cons]
    show (b && (List.range r.length).all fun j => r.getD j true) = (b && r.all id)
    rw [all_getD r]
section
variable {X : Cx}
/-- two lists compared, item by item -/
def rCmpL (K : PySem.W.Frag) (neg : Bool) : R2 := fun x y H Q => ∃ a b xs ys, x = .ref a ∧ y = .ref b ∧ SqL K H a xs ∧ SqL K H b ys ∧
  ((xs.length ≠ ys.length ∧ Q (.bl neg) H) ∨ ∃ bs : List Bool, EqIs xs ys bs ∧ Q (.bl (if neg then !bs.all id else bs.all id)) H)
theorem op_eqL (hu : X.A.units < cLine) : OpR X (compareOp .Eq) (rCmpL X.K false) := by
  intro pins s σ H x y v u Q I rx ry h
  obtain ⟨a, b, xs, ys, rfl, rfl, ha, hb, h⟩ := h
  cases (show v = Value.ref a from rx)
  cases (show u = Value.ref b from ry)
  obtain ⟨us, r1, p1, _⟩ := I.list ha
  obtain ⟨ws, r2, p2, _⟩ := I.list hb
  rcases h with ⟨hne, q⟩ | ⟨bs, e, q⟩
  · have hsz : (us.toArray.size != ws.toArray.size) = true := by
      rw [List.size_toArray, List.size_toArray, ← r1.length, ← r2.length]
      simpa using hne
    exact SeqAt.RcAt.lists_lengths p1.isList p2.isList hsz hu _ _ _ _ ⟨.bl _, H, I, rfl, q⟩
  · have hl := e.len
    have hsz : us.toArray.size = ws.toArray.size := by rw [List.size_toArray, List.size_toArray, ← r1.length, ← r2.length, hl.1, hl.2]
    refine SeqAt.RcAt.lists (e := fun j => bs.getD j true) p1.isList p2.isList hsz hu (fun j h1 h2 => ?_) _ _ _ _ ?_
    · have k := e.at (A := X.A.in1) (s := s) r1 r2 j (by simpa using h1) (by simpa using h2)
      simpa using k
    · rw [List.size_toArray, ← r1.length, hl.1, all_getD]
      exact ⟨.bl _, H, I, rfl, q⟩
theorem op_neL (hu : X.A.units < cLine) : OpR X (compareOp .NotEq) (rCmpL X.K true) := by
  intro pins s σ H x y v u Q I rx ry h
  obtain ⟨a, b, xs, ys, rfl, rfl, ha, hb, h⟩ := h
  cases (show v = Value.ref a from rx)
  cases (show u = Value.ref b from ry)
  obtain ⟨us, r1, p1, _⟩ := I.list ha
  obtain ⟨ws, r2, p2, _⟩ := I.list hb
  rcases h with ⟨hne, q⟩ | ⟨bs, e, q⟩
  · have hsz : (us.toArray.size != ws.toArray.size) = true := by
      rw [List.size_toArray, List.size_toArray, ← r1.length, ← r2.length]
      simpa using hne
    exact SeqAt.RcNeAt.lists_lengths p1.isList p2.isList hsz hu _ _ _ _ ⟨.bl _, H, I, rfl, q⟩
  · have hl := e.len
    have hsz : us.toArray.size = ws.toArray.size := by rw [List.size_toArray, List.size_toArray, ← r1.length, ← r2.length, hl.1, hl.2]
    refine SeqAt.RcNeAt.lists (e := fun j => bs.getD j true) p1.isList p2.isList hsz hu (fun j h1 h2 => ?_) _ _ _ _ ?_
    · have k := e.at (A := X.A.in1) (s := s) r1 r2 j (by simpa using h1) (by simpa using h2)
      simpa using k
    · rw [List.size_toArray, ← r1.length, hl.1, all_getD]
      exact ⟨.bl _, H, I, rfl, q⟩
/-- either of two readings -/
theorem op_or {f : Value → Value → Sem Value} {r1 r2 : R2} (h1 : OpR X f r1) (h2 : OpR X f r2) : OpR X f (fun x y H Q => r1 x y H Q ∨ r2 x y H Q) := by
  intro pins s σ H x y v u Q I rx ry h
  rcases h with h | h
  · exact h1 pins s σ H x y v u Q I rx ry h
  · exact h2 pins s σ H x y v u Q I rx ry h
end
end TA
namespace PySem.W
open PySem PySem.Calls PyProof.Rows PyProof.V PySem.Spec
section
variable {prog : Program} {w : World} {A : Around} {E : Value → Shared → Prop} {s : Shared} {x : Str} {t : Tok}
theorem ls_hint {Q : Bool → Shared → Prop} (h : Q false s) : wpAny (model prog w) A (Builtin.List.listLengthHint (.str x t)) Q E s := by
  have hT : s.TypeIs (.str x t) "str" := typeIs_str s x t
  unfold Builtin.List.listLengthHint
  refine wpAny_bind (wpAny_specialOf hT PySem.F.slot_str_len.lookup ?_)
  generalize hid : ("str.__len__" : String) = id0
  wp_delta
  rw [show splitId id0 = some ("str", "__len__") from by subst hid; decide +kernel]
  subst hid
  refine wpAny_bind (wpAny_isInstance (T := "str") (b := true) hT (by rw [isSubtype_type]; kernel_rfl) ?_)
  refine wpAny_ite_split (fun hb => absurd hb (by decide)) (fun _ => ?_)
  refine wpAny_ite_split (fun _ => wpAny_bind (wpAny_typeOf hT (wpAny_pure h))) (fun hb => absurd (by decide +kernel) hb)
theorem ls_extend {R : Result → Shared → Prop} (hh : A.handled = none) (S : Addr) (res : Value) (c0 : Nat) (hS : s.heap.get? S = some { cls := .type "list", data := .seq #[] c0 }) (hn : x.cps.size ≤ sizeLine)
    (hR : ∀ h' tk acc' c', (∀ b o, b ≠ S → s.heap.get? b = some o → h'.get? b = some o) → h'.get? S = some { cls := .type "list", dict := none, data := .seq acc' c', slots := #[] } → ItemsOf (SignAt x) acc' x.cps.size → R (.ok (.ret res)) { s with heap := h', toks := tk }) :
    wpAny (model prog w) A.in1 (Builtin.List.listExtendWith (.ref S) (.str x t) res)
      (fun fin s' => match fin with | .done f => R (.ok f) s' | .again c' => c'.quiet = true ∧ codeAny (model prog w) A c' R s') (fun e s' => R (.error e) s') s := by
  have hSI : S ≠ s.heap.objs.size := Nat.ne_of_lt (Heap.lt_size hS)
  have hSf : S ∉ [s.heap.objs.size] := by simpa using hSI
  unfold Builtin.List.listExtendWith
  refine wpAny_bind (wpAny_typeOf (T := "str") (typeIs_str s x t) ?_)
  have e1 : Builtin.List.listSameRef (.ref S) (.str x t) = false := by simp [Builtin.List.listSameRef]
  have e2 : (Value.type "str" == Value.type "list") = false := by decide
  have e3 : (Value.type "str" == Value.type "tuple") = false := by decide
  simp only [e1, e2, e3, Bool.or_false, Bool.false_eq_true, if_false]
  refine wpAny_bind (wpAny_pyIter_str fun oI St W st => ?_)
  have key : ∀ (h : Heap) (c1 tk : Nat), St 0 h → (∀ b o, b ≠ S → s.heap.get? b = some o → h.get? b = some o) →
      h.get? S = some { cls := .type "list", data := .seq #[] c1 } → codeAny (model prog w) A (.builtin "list.extend.loop" ⟨[.ref S, .ref s.heap.objs.size, res], []⟩) R { s with heap := h, toks := tk } := by
    intro h c1 tk hst hk hS1
    refine codeAny_extend_loopS (W A.in1 hh).toS hn S hSf res x.cps.size 0 _ #[] c1 rfl (Nat.zero_le _) hst hS1 (ItemsOf.nil _) fun s' acc' c' hm hS' hacc => ?_
    rw [Moved.eq_with hm]
    refine hR s'.heap s'.toks acc' c' (fun b o hb e => hm.heap b o (fun hmem => ?_) (hk b o hb e)) hS' hacc
    rcases List.mem_cons.mp hmem with e' | hmem
    · exact hb e'
    · exact absurd (Heap.lt_size e) (by rw [List.mem_singleton.mp hmem]; exact Nat.lt_irrefl _)
  have hS1 := Heap.get?_push_of_some oI hS
  refine wpAny_bind (wpAny_holding (ls_hint ?_))
  refine wpAny_ite_split (fun _ => ?_) (fun _ => wpAny_pure ⟨plainId_quiet PySem.F.plain_extend_loop _, key _ c0 _ st (fun b o _ e => Heap.get?_push_of_some _ e) hS1⟩)
  refine wpAny_bind (wpAny_rule ?_)
  refine wpAny_bind ?_
  show wpAny _ _ (updateSeq S (·.push .none) >>= fun _ => updateSeq S (·.pop)) _ _ _
  refine wpAny_bind (wpAny_updateSeq hS1 rfl ?_)
  have hS2 := Heap.get?_update_self (Obj.mapSeq (·.push Value.none)) hS1 rfl
  refine wpAny_updateSeq (hz := by seq_fits) hS2 rfl ?_
  have hS3 := Heap.get?_update_self (Obj.mapSeq (·.pop)) hS2 rfl
  refine wpAny_pure ⟨plainId_quiet PySem.F.plain_extend_loop _, key _ _ _ ?_ (fun b o hb e => ?_) hS3⟩
  · refine (W A.in1 hh).frame 0 _ _ st fun b hb o e => ?_
    have hbS : b ≠ S := fun z => hSf (z ▸ hb)
    exact (Heap.get?_update_other _ _ (Ne.symm hbS)).trans ((Heap.get?_update_other _ _ (Ne.symm hbS)).trans e)
  · exact (Heap.get?_update_other _ _ (Ne.symm hb)).trans ((Heap.get?_update_other _ _ (Ne.symm hb)).trans (Heap.get?_push_of_some _ e))
theorem ls_init {R : Result → Shared → Prop} (hh : A.handled = none) (S : Addr) (hS : s.heap.get? S = some { cls := .type "list", data := .seq #[] }) (hn : x.cps.size ≤ sizeLine)
    (hR : ∀ h' tk acc' c', (∀ b o, b ≠ S → s.heap.get? b = some o → h'.get? b = some o) → h'.get? S = some { cls := .type "list", dict := none, data := .seq acc' c', slots := #[] } → ItemsOf (SignAt x) acc' x.cps.size → R (.ok (.ret .none)) { s with heap := h', toks := tk }) :
    wpAny (model prog w) A.in1 (Builtin.«list.__init__» ⟨[.ref S, .str x t], []⟩)
      (fun fin s' => match fin with | .done f => R (.ok f) s' | .again c' => c'.quiet = true ∧ codeAny (model prog w) A c' R s') (fun e s' => R (.error e) s') s := by
  show wpAny _ _ (do let old ← Builtin.List.listItems (.ref S); Builtin.List.listUpdate (.ref S) (fun _ => #[]); letGo old.toList.reverse; Builtin.List.listExtendWith (.ref S) (.str x t) .none) _ _ s
  refine wpAny_bind ?_
  unfold Builtin.List.listItems
  refine wpAny_bind (wpAny_seqItems hS rfl (wpAny_pure ?_))
  show wpAny _ _ (updateSeq S (fun _ => #[]) >>= fun _ => letGo (#[] : Array Value).toList.reverse >>= fun _ => Builtin.List.listExtendWith (.ref S) (.str x t) .none) _ _ s
  refine wpAny_bind (wpAny_updateSeq hS rfl ?_)
  have hS2 := Heap.get?_update_self (Obj.mapSeq (fun _ => (#[] : Array Value))) hS rfl
  have other : ∀ b o, b ≠ S → s.heap.get? b = some o → (s.heap.update S (Obj.mapSeq (fun _ => (#[] : Array Value)))).get? b = some o := fun b o hb e => (Heap.get?_update_other _ _ (Ne.symm hb)).trans e
  refine wpAny_bind (wpAny_letGo ?_)
  exact ls_extend hh S .none _ hS2 hn fun h' tk acc' c' hk hS' hacc => hR h' tk acc' c' (fun b o hb e => hk b o hb (other b o hb e)) hS' hacc
theorem ls_call {Q : Value → Shared → Prop} (hh : A.handled = none) (hn : x.cps.size ≤ sizeLine)
    (hQ : ∀ h' tk acc' c', (∀ b o, s.heap.get? b = some o → h'.get? b = some o) → h'.get? s.heap.objs.size = some { cls := .type "list", dict := none, data := .seq acc' c', slots := #[] } → ItemsOf (SignAt x) acc' x.cps.size → Q (.ref s.heap.objs.size) { s with heap := h', toks := tk }) :
    wpAny (model prog w) A (call (.type "list") [.str x t]) Q E s := by
  refine callType_codes (Q₁ := fun obj s₁ => obj = .ref s.heap.objs.size ∧ s₁ = { s with heap := s.heap.push { cls := .type "list", data := .seq #[] } }) PySem.F.called_list (PySem.F.typeCall_list_1 _) PySem.F.entry_list_init
    (code_list_new _ ⟨rfl, rfl⟩) fun obj s1 h1 => ?_
  obtain ⟨rfl, rfl⟩ := h1
  have hS : (s.heap.push { cls := .type "list", data := .seq #[] }).get? s.heap.objs.size = some { cls := .type "list", data := .seq #[] } := Heap.get?_push_size _ rfl
  refine ⟨⟨_, hS, rfl⟩, PySem.F.args_list_init_2 _ _, ls_init (A := A.in1) hh _ hS hn (fun h' tk acc' c' hk hS' hacc => ?_)⟩
  exact ⟨rfl, hQ h' tk acc' c' (fun b o e => hk b o (Nat.ne_of_lt (Heap.lt_size e)) (Heap.get?_push_of_some _ e)) hS' hacc⟩
end
end PySem.W
namespace TA
open PySem PySem.Spec L2
open PyProof.Rows hiding St
/-- list(text): its signs -/
def rListS : List V → Hp → VK → Prop := fun xs H Q => ∃ z : Str, xs = [.str z] ∧ z.length ≤ sizeLine ∧ ∀ p, H p = none → Q (.ref p) (upd H p (.lst (z.cps.toList.map fun c => V.str ⟨#[c]⟩)))
theorem call_listS {X : Cx} (hc : X.calm = true) : CallR X (.type "list") rListS := by
  intro pins s σ H xs us Q I r h
  obtain ⟨z, e, hz, q⟩ := h
  subst e
  obtain ⟨u, eu, rx⟩ := vals1 r
  subst eu
  obtain ⟨t, rfl⟩ := (show ∃ t, u = Value.str z t from rx)
  refine PySem.W.ls_call (I.ok.hd hc) hz fun h' tk acc' c' hkeep hS hacc => ?_
  refine ⟨.ref s.heap.objs.size, upd H s.heap.objs.size (.lst (z.cps.toList.map fun c => V.str ⟨#[c]⟩)), I.laid hkeep (Nat.le_refl _) (show ObjOk X.prog X.w _ _ _ (.lst (z.cps.toList.map fun c => V.str ⟨#[c]⟩)) from ⟨?_, acc'.toList, c', ?_, ?_⟩), rfl, q _ (I.hok.fresh (Nat.le_refl _))⟩
  · rw [List.length_map]
    simpa [Str.length] using hz
  · have el : acc'.toList.length = acc'.size := by simp
    refine vals_of_at (by rw [List.length_map, el, hacc.1]; simp) fun j x w h1 h2 => ?_
    obtain ⟨c, u, hcx, rfl⟩ := hacc.2 j w (by rw [← Array.getElem?_toList]; exact h2)
    rw [List.getElem?_map, Array.getElem?_toList, hcx] at h1
    cases h1
    exact ⟨u, rfl⟩
  · rw [Array.toArray_toList]; exact hS
end TA
namespace TA
open PySem PySem.Spec L2
open PyProof.Rows hiding St
def top (i : Nat) : Stmt := PySem.Challenge.pw_timesagain_k00_errors_and_checks.main.body.getD i (.Pass ⟨0, 0, 0, 0⟩)
/-- a def of the top: where it stands, its name, how it is called -/
structure Df (K : PySem.W.Frag) (mg : Str → Option Value) (x : Str) (st : Stmt) (f : Addr) (fd : FuncData) (ps : List Str) : Prop where
  F : Fun K x x st f fd
  m : mg x = some (.ref f)
  b : Binds K fd ps []
section
variable {X : Cx} {k j : Nat} {f : Addr} {fd : FuncData} {ps : List Str} {sp : Sp} {x : Str} {st : Stmt} {p pos : Pos} {e : Expr} {es : List Expr} {t tk : TA}
theorem pe_cd (D : Df X.K X.mg x st f fd ps) (F : FnOk X.prog X.w X.K X.mg X.base CX0 k f fd ps sp) (hr : Room j X.A) (hj : k ≤ j) (ha : PA X (e :: es) t) (hg : Gl X x := by rfl)
    (hdb : (x == ("__debug__" : Str)) = false := by decide) (he : starEach (e :: es) X.env = (false, eval e X.env) :: starEach es X.env := by rfl) (hpl : (backTo pos (starEach es X.env)).any (·.1) = false := by rfl) :
    PE X (.Call (.Name x p) (e :: es) [] pos) (tCall sp [] E0 t) := pe_call F (hr.mono hj) hg D.m D.F.kp D.b .nil pass0 ha hdb he hpl
end
/-- the names of the top that stand for Python's own things -/
structure Bn (mg : Str → Option Value) : Prop where
  b_len : mg "len" = none
  b_int : mg "int" = none
  b_str : mg "str" = none
  b_bool : mg "bool" = none
  b_list : mg "list" = none
  b_tuple : mg "tuple" = none
  b_abs : mg "abs" = none
  b_all : mg "all" = none
  b_isinstance : mg "isinstance" = none
  b_range : mg "range" = none
  b_enumerate : mg "enumerate" = none
  b_ValueError : mg "ValueError" = none
  b_LookupError : mg "LookupError" = none
  b_TypeError : mg "TypeError" = none
  b_ArithmeticError : mg "ArithmeticError" = none
  b_AttributeError : mg "AttributeError" = none
  b_RuntimeError : mg "RuntimeError" = none
/-! ### heaps: all but p stays -/
def Keep (p : Addr) (H H' : Hp) : Prop := ∀ b o, b ≠ p → H b = some o → H' b = some o
theorem Keep.refl (p : Addr) (H : Hp) : Keep p H H := fun _ _ _ h => h
theorem Keep.trans {p : Addr} {H H1 H2 : Hp} (a : Keep p H H1) (b : Keep p H1 H2) : Keep p H H2 := fun c o n h => b c o n (a c o n h)
theorem Keep.of_same {p : Addr} {H H' : Hp} (s : Same H H') : Keep p H H' := fun b o _ h => s b o h
theorem Keep.upd_p {p : Addr} {H : Hp} {o : HO} : Keep p H (upd H p o) := fun b u n h => by rw [upd_ne n]; exact h
theorem Keep.new {p q : Addr} {H : Hp} {o : HO} (h : H q = none) : Keep p H (upd H q o) := fun b u _ hb => by rw [upd_ne (ne_of_none hb h)]; exact hb
theorem same_new {H : Hp} {q : Addr} {o : HO} (h : H q = none) : Same H (upd H q o) := fun b u hb => by rw [upd_ne (ne_of_none hb h)]; exact hb
theorem Keep.seqT {K : PySem.W.Frag} {p : Addr} {H H' : Hp} {a : Addr} {xs : List V} (k : Keep p H H') (n : a ≠ p) (h : H a = some (.tup xs)) : H' a = some (.tup xs) := k a _ n h
/-- what draws: its cells at c, at most n of them were begun -/
def PenAt (n : Nat) (H : Hp) (p c : Addr) : Prop := ∃ (cells : List Int) (i : Nat) (g : Int), H p = some (.lst [.ref c, .int (i : Int), .int g]) ∧ c ≠ p ∧ H c = some (.lst (cells.map V.int)) ∧ cells.length ≤ 60 ∧ i ≤ n
theorem PenAt.up {n m : Nat} {H : Hp} {p c : Addr} (h : PenAt n H p c) (l : n ≤ m) : PenAt m H p c := by
  obtain ⟨cells, i, g, h1, h2, h3, h4, h5⟩ := h
  exact ⟨cells, i, g, h1, h2, h3, h4, Nat.le_trans h5 l⟩
theorem PenAt.same {n : Nat} {H H' : Hp} {p c : Addr} (h : PenAt n H p c) (s : Same H H') : PenAt n H' p c := by
  obtain ⟨cells, i, g, h1, h2, h3, h4, h5⟩ := h
  exact ⟨cells, i, g, s _ _ h1, h2, s _ _ h3, h4, h5⟩
theorem PenAt.ne {n : Nat} {H : Hp} {p c l : Addr} (h : PenAt n H p c) (hl : H l = none) : l ≠ p := by
  obtain ⟨cells, i, g, h1, _⟩ := h
  exact Ne.symm (ne_of_none h1 hl)
theorem PenAt.ne2 {n : Nat} {H : Hp} {p c l : Addr} (h : PenAt n H p c) (hl : H l = none) : l ≠ c := by
  obtain ⟨cells, i, g, h1, h2, h3, _⟩ := h
  exact Ne.symm (ne_of_none h3 hl)
/-- a store elsewhere -/
theorem PenAt.upd {n : Nat} {H : Hp} {p c l : Addr} {o : HO} (h : PenAt n H p c) (h1 : l ≠ p) (h2 : l ≠ c) : PenAt n (upd H l o) p c := by
  obtain ⟨cells, i, g, e1, e2, e3, e4, e5⟩ := h
  exact ⟨cells, i, g, by rw [upd_ne (Ne.symm h1)]; exact e1, e2, by rw [upd_ne (Ne.symm h2)]; exact e3, e4, e5⟩
theorem PenAt.lst {n : Nat} {H : Hp} {p c : Addr} (h : PenAt n H p c) : ∃ xs, H p = some (.lst xs) := by
  obtain ⟨cells, i, g, h1, _⟩ := h
  exact ⟨_, h1⟩
end TA
namespace TA
open PySem PySem.Spec L2
open PyProof.Rows hiding St
abbrev sDraw : Stmt := top 24
theorem scDraw : FnScope ["pen", "many", "digit", "at", "cell", "great", "mixed"] ["pen", "many"] (defScope sDraw) := ⟨rfl, rfl, rfl, by decide +kernel, rfl, by decide +kernel, by decide +kernel⟩
def spDraw : Sp := fun vs H Q _ => ∃ (p c : Addr) (many : Int) (n : Nat), vs = [.ref p, .int many] ∧ PenAt n H p c ∧ n ≤ 100000 ∧ 0 < many ∧ many ≤ 1000 ∧
  ∀ (r : Int) (H' : Hp), 0 ≤ r → r < many → Keep p H H' → PenAt (n + 1) H' p c → Q (.int r) H'
theorem PenAt.mk {n : Nat} {H : Hp} {p c : Addr} {cells : List Int} {i : Int} {g : Int} (h1 : H p = some (.lst [.ref c, .int i, .int g])) (h2 : c ≠ p) (h3 : H c = some (.lst (cells.map V.int))) (h4 : cells.length ≤ 60) (h0 : 0 ≤ i) (h5 : i ≤ n) : PenAt n H p c :=
  ⟨cells, i.toNat, g, by rw [h1, Int.toNat_of_nonneg h0], h2, h3, h4, by omega⟩
theorem fm_nn {x y : Int} (h : 0 < y) : 0 ≤ x.fmod y := Int.fmod_nonneg_of_pos x h
theorem fm_lt {x y : Int} (h : 0 < y) : x.fmod y < y := Int.fmod_lt_of_pos x h
section
variable {P : Program} {w : World} {K : PySem.W.Frag} {mg : Str → Option Value} {base : Heap} {f : Addr} {fd : FuncData}
theorem ok_draw (F : Fun K "_law_draw" "_law_draw" sDraw f fd) (T : Bn mg) : FnOk P w K mg base CX0 1 f fd ["pen", "many"] spDraw := by
  refine F.ok scDraw (fun vs H Q E h => ?_) (fun cdv A outer s H vs Q E hr h => ?_)
  · obtain ⟨p, c, many, n, rfl, _⟩ := h
    rfl
  obtain ⟨p, c, many, n, rfl, ⟨cells, i, g, hp, hcp, hc, hl, hi⟩, hn, m0, m1, q⟩ := h
  have mne : many ≠ 0 := by omega
  have mdiv : many ≠ 0 ∧ many.natAbs < 1073741824 := ⟨mne, by omega⟩
  refine ⟨_, (pss_cons (ps_if (pt_cmpR op_gt (pe_ix ix_list (pv 0) pe_int (fun _ _ => rfl)) pe_int (nomark _)) (pss_cons (ps_set (i := 2) scDraw.nd rfl (.inl rfl) (pe_op op_modN (pe_callTy call_int1 (by rfl) T.b_int (by decide +kernel) (pa_cons (pe_ix ix_list (pv 0) pe_int (fun _ _ => rfl)) pa_nil)) (pv 1)))
        (pss_cons (ps_asg (pe_op op_fdivN (pe_callTy call_int1 (by rfl) T.b_int (by decide +kernel) (pa_cons (pe_ix ix_list (pv 0) pe_int (fun _ _ => rfl)) pa_nil)) (pv 1)) (pg_sub (pv 0) pe_int set_list))
        (pss_one (ps_ret (pv 2))))) pss_nil)
      (pss_cons (ps_set (i := 3) scDraw.nd rfl (.inl rfl) (pe_ix ix_list (pv 0) pe_int (fun _ _ => rfl)))
      (pss_cons (ps_asg (pe_op op_add (pv 3) pe_int) (pg_sub (pv 0) pe_int set_list))
      (pss_cons (ps_set (i := 4) scDraw.nd rfl (.inl rfl) (pe_op op_add (pe_op op_mul pe_int (pv 3)) pe_int))
      (C8.pss_cut (ps_if (pt_cmpR (op_neL hr.units0) (pe_ix ix_list (pv 0) pe_int (fun _ _ => rfl)) (pe_lst pa_nil) (nomark _)) (pss_one (ps_set (i := 4) scDraw.nd rfl (.inl rfl) (pe_ix ix_list (pe_ix ix_list (pv 0) pe_int (fun _ _ => rfl)) (pe_op op_modN (pe_callTy call_int1 (by rfl) T.b_int (by decide +kernel) (pa_cons (pv 3) pa_nil)) (pe_callB call_len_seq (by rfl) T.b_len (by decide +kernel) (pa_cons (pe_ix ix_list (pv 0) pe_int (fun _ _ => rfl)) pa_nil))) (fun _ _ => rfl)))) pss_nil)
      (C8.pss_cut (ps_if (PW.pt (pw_and (pt_cmpR op_lt (pv 3) (pe_callB call_len_seq (by rfl) T.b_len (by decide +kernel) (pa_cons (pe_ix ix_list (pv 0) pe_int (fun _ _ => rfl)) pa_nil)) (nomark _)) (pw_and1 (pt_cmpR op_ge (pe_callB call_abs (by rfl) T.b_abs (by decide +kernel) (pa_cons (pv 4) pa_nil)) (pe_op op_pow pe_int pe_int) (nomark _))))) (pss_cons (ps_set (i := 5) scDraw.nd rfl (.inl rfl) (pe_op op_add (pe_op op_mul pe_int (pe_op op_sub (pe_callB call_abs (by rfl) T.b_abs (by decide +kernel) (pa_cons (pv 4) pa_nil)) (pe_op op_pow pe_int pe_int))) (pe_callTy call_int1 (by rfl) T.b_int (by decide +kernel) (pa_cons (pe_cmpR op_lt (pv 4) pe_int (nomark _)) pa_nil))))
        (pss_cons (ps_asg (pe_op op_fdivN (pe_callTy call_int1 (by rfl) T.b_int (by decide +kernel) (pa_cons (pv 5) pa_nil)) (pv 1)) (pg_sub (pv 0) pe_int set_list))
        (pss_one (ps_ret (pe_op op_modN (pe_callTy call_int1 (by rfl) T.b_int (by decide +kernel) (pa_cons (pv 5) pa_nil)) (pv 1)))))) pss_nil)
      (pss_cons (ps_set (i := 6) scDraw.nd rfl (.inl rfl) (pe_op op_modN (pe_callTy call_int1 (by rfl) T.b_int (by decide +kernel) (pa_cons (pe_op op_pow (pe_op op_add (pe_op op_add (pe_op op_modN (pe_callTy call_int1 (by rfl) T.b_int (by decide +kernel) (pa_cons (pv 4) pa_nil)) pe_int) (pe_op op_mul pe_int (pv 3))) pe_int) pe_int) pa_nil)) pe_int))
      (pss_cons (ps_set (i := 6) scDraw.nd rfl (.inl rfl) (pe_op op_modN (pe_callTy call_int1 (by rfl) T.b_int (by decide +kernel) (pa_cons (pe_op op_pow (pe_op op_add (pe_op op_add (pe_op op_mul (pv 6) (pe_op op_add (pe_op op_mul pe_int (pv 3)) pe_int)) (pe_op op_mul (pe_op op_mul pe_int (pv 3)) (pv 3))) pe_int) pe_int) pa_nil)) pe_int))
      (pss_one (ps_ret (pe_op op_modN (pe_callTy call_int1 (by rfl) T.b_int (by decide +kernel) (pa_cons (pe_op op_fdivN (pv 6) pe_int) pa_nil)) (pv 1)))))))))))), ?_⟩
  refine ⟨_, rfl, p, _, _, _, rfl, rfl, SqL.of hp, rfl, _, _, rfl, rfl, _, rfl, ?_⟩
  refine ite2 (fun c0 => ?_) (fun c0 => ?_)
  · refine ⟨_, rfl, p, _, _, _, rfl, rfl, SqL.of hp, rfl, .inl ⟨_, rfl, _, rfl, _, _, rfl, rfl, mne, ?_⟩⟩
    refine ⟨_, rfl, p, _, _, _, rfl, rfl, SqL.of hp, rfl, .inl ⟨_, rfl, _, rfl, _, _, rfl, rfl, mdiv, ?_⟩⟩
    refine ⟨_, rfl, p, _, _, _, rfl, rfl, hp, rfl, ?_⟩
    refine ⟨_, rfl, ?_⟩
    refine q _ _ (fm_nn m0) (fm_lt m0) Keep.upd_p ?_
    exact PenAt.mk (c := c) (cells := cells) (i := i) upd_same hcp (by rw [upd_ne hcp]; exact hc) hl (by omega) (by omega)
  refine ⟨_, rfl, p, _, _, _, rfl, rfl, SqL.of hp, rfl, ?_⟩
  refine ⟨_, rfl, _, _, rfl, rfl, _, rfl, p, _, _, _, rfl, rfl, hp, rfl, ?_⟩
  have hp1 : ∀ o, upd H p o p = some o := fun o => upd_same
  refine ⟨_, rfl, _, _, rfl, rfl, .inl ⟨by decide, by decide⟩, _, _, rfl, rfl, ?_⟩
  refine ⟨fun σ H2 => ∃ (cell : Int) (v1 v5 v6 : Option V), σ = [some (.ref p), some (.int many), v1, some (.int (i : Int)), some (.int cell), v5, v6] ∧ Keep p H H2 ∧ H2 p = some (.lst [.ref c, .int ((i : Int) + 1), .int g]), ?_, ?_⟩
  · refine ⟨_, rfl, p, _, _, _, rfl, rfl, SqL.of (hp1 _), rfl, Nat.zero_le _, fun l hl0 => ?_⟩
    have nlp : p ≠ l := ne_of_none (hp1 _) hl0
    have hlH : H l = none := by
      rw [← hl0, upd_ne (Ne.symm nlp)]
    have ncl : c ≠ l := ne_of_none hc hlH
    have hc2 : ∀ o, (upd (upd H p o) l (.lst [])) c = some (.lst (cells.map V.int)) := fun o => by rw [upd_ne ncl, upd_ne hcp]; exact hc
    have hp2 : ∀ o, (upd (upd H p o) l (.lst [])) p = some o := fun o => by rw [upd_ne nlp, upd_same]
    have kp2 : ∀ o, Keep p H (upd (upd H p o) l (.lst [])) := fun o => fun b u nb hb => by rw [upd_ne (ne_of_none hb hlH), upd_ne nb]; exact hb
    refine ⟨c, l, _, _, rfl, rfl, SqL.of (hc2 _), SqL.of upd_same, ?_⟩
    by_cases e : cells = []
    · subst e
      refine .inr ⟨[], .nil, _, rfl, iteF ?_⟩
      exact ⟨_, _, _, _, rfl, kp2 _, hp2 _⟩
    · have el : cells.length ≠ 0 := fun z => e (List.length_eq_zero_iff.mp z)
      refine .inl ⟨by rw [List.length_map]; exact el, _, rfl, iteT ?_⟩
      refine ⟨_, rfl, p, _, _, _, rfl, rfl, SqL.of (hp2 _), rfl, _, rfl, .inl ⟨_, rfl, _, rfl, p, _, _, _, rfl, rfl, SqL.of (hp2 _), rfl, c, _, rfl, .inl (SqL.of (hc2 _)), ?_⟩⟩
      have lpos : (0 : Int) < ((cells.map V.int).length : Int) := by rw [List.length_map]; omega
      have a1 := fm_nn (x := (i : Int)) lpos
      have a2 := fm_lt (x := (i : Int)) lpos
      refine ⟨_, _, rfl, rfl, by omega, c, _, _, .int (cells.getD ((i : Int).fmod ((cells.map V.int).length : Int)).toNat 0), rfl, rfl, SqL.of (hc2 _), ?_, ?_⟩
      · rw [List.length_map] at a2 ⊢
        refine at_of (j := ((i : Int).fmod (cells.length : Int)).toNat) ?_ ?_
        · rw [Int.toNat_of_nonneg (by rw [List.length_map] at a1; exact a1)]
        · have hj : ((i : Int).fmod (cells.length : Int)).toNat < cells.length := by rw [List.length_map] at a1; omega
          rw [List.getElem?_map, List.getElem?_eq_getElem hj, List.getD_eq_getElem?_getD, List.getElem?_eq_getElem hj]
          rfl
      · exact ⟨_, _, _, _, rfl, kp2 _, hp2 _⟩
  rintro σ2 H2 ⟨cell, v1, v5, v6, rfl, k2, hp2⟩
  have hc2 := k2 c _ hcp hc
  refine ⟨fun σ H' => H' = H2 ∧ ∃ (v1 v5 v6 : Option V), σ = [some (.ref p), some (.int many), v1, some (.int (i : Int)), some (.int cell), v5, v6], ?_, ?_⟩
  · refine ⟨_, rfl, _, rfl, p, _, _, _, rfl, rfl, SqL.of hp2, rfl, c, _, rfl, .inl (SqL.of hc2), _, _, rfl, rfl, _, rfl, ?_⟩
    refine ite2 (fun c1 => ?_) (fun c1 => iteF ⟨rfl, _, _, _, rfl⟩)
    refine ⟨_, rfl, _, rfl, _, _, rfl, rfl, ⟨by decide, by decide, by decide⟩, _, _, rfl, rfl, _, rfl, ?_⟩
    refine ite2 (fun c2 => ?_) (fun c2 => ⟨rfl, _, _, _, rfl⟩)
    refine ⟨_, rfl, _, rfl, _, _, rfl, rfl, ⟨by decide, by decide, by decide⟩, _, _, rfl, rfl, _, _, rfl, rfl, .inl ⟨by decide, by decide⟩, _, rfl, _, _, rfl, rfl, .inr ⟨_, rfl, _, _, rfl, rfl, ?_⟩⟩
    refine ⟨_, rfl, .inl ⟨_, rfl, _, rfl, _, _, rfl, rfl, mdiv, ?_⟩⟩
    refine ⟨_, rfl, p, _, _, _, rfl, rfl, hp2, rfl, ?_⟩
    refine ⟨_, rfl, .inl ⟨_, rfl, _, rfl, _, _, rfl, rfl, mne, ?_⟩⟩
    refine q _ _ (fm_nn m0) (fm_lt m0) (k2.trans Keep.upd_p) ?_
    exact PenAt.mk (c := c) (cells := cells) (i := (i : Int) + 1) upd_same hcp (by rw [upd_ne hcp]; exact hc2) hl (by omega) (by omega)
  rintro σ3 H3 ⟨rfl, w1, w5, w6, rfl⟩
  have b1 := fm_nn (x := cell) (y := 2147483549) (by decide)
  have b2 := fm_lt (x := cell) (y := 2147483549) (by decide)
  refine ⟨_, rfl, .inl ⟨_, rfl, _, _, rfl, rfl, (by show (_ : Int) ≠ 0; decide), _, rfl, _, _, rfl, rfl, .inl ⟨by decide, by decide⟩, _, _, rfl, rfl, _, _, rfl, rfl, _, _, rfl, rfl, ⟨by decide, by decide, by omega⟩, .inl ⟨_, rfl, _, _, rfl, rfl, (by show (_ : Int) ≠ 0; decide), ?_⟩⟩⟩
  generalize hM : (Int.fmod ((cell.fmod 2147483549 + 93503 * (i : Int) + 5309) ^ (5 : Int).toNat) 2147483629) = M
  have d1 : 0 ≤ M := by rw [← hM]; exact fm_nn (by decide)
  have d2 : M < 2147483629 := by rw [← hM]; exact fm_lt (by decide)
  refine ⟨_, rfl, _, rfl, _, _, rfl, rfl, .inl ⟨by decide, by decide⟩, _, _, rfl, rfl, _, _, rfl, rfl, .inl ⟨by omega, by omega⟩, _, rfl, _, _, rfl, rfl, .inl ⟨by decide, by decide⟩, _, rfl, _, _, rfl, rfl, .inl ⟨by omega, by omega⟩, _, _, rfl, rfl, _, _, rfl, rfl, _, _, rfl, rfl, ⟨by decide, by decide, ?_⟩, .inl ⟨_, rfl, _, _, rfl, rfl, (by show (_ : Int) ≠ 0; decide), ?_⟩⟩
  · have e1 : M * (2 * (i : Int) + 2239) ≤ 2147483629 * 300000 := Int.mul_le_mul (by omega) (by omega) (by omega) (by omega)
    have e2 : 0 ≤ M * (2 * (i : Int) + 2239) := Int.mul_nonneg d1 (by omega)
    have e3 : 58031 * (i : Int) * (i : Int) ≤ 10000000000 * 100000 := Int.mul_le_mul (by omega) (by omega) (by omega) (by omega)
    have e4 : 0 ≤ 58031 * (i : Int) * (i : Int) := Int.mul_nonneg (by omega) (by omega)
    rw [hM]
    omega
  refine ⟨_, rfl, _, _, rfl, rfl, ⟨by decide, by decide⟩, .inl ⟨_, rfl, _, rfl, _, _, rfl, rfl, mne, ?_⟩⟩
  refine q _ _ (fm_nn m0) (fm_lt m0) k2 ?_
  exact PenAt.mk (c := c) (cells := cells) (i := (i : Int) + 1) hp2 hcp hc2 hl (by omega) (by omega)
end
end TA
namespace TA
open PySem PySem.Spec L2
open PyProof.Rows hiding St
abbrev sPen : Stmt := top 23
abbrev sPick : Stmt := top 25
abbrev sValue : Stmt := top 26
theorem scPen : FnScope ["script", "cell"] ["script"] (defScope sPen) := ⟨rfl, rfl, rfl, by decide +kernel, rfl, by decide +kernel, by decide +kernel⟩
theorem scPick : FnScope ["pen", "some"] ["pen", "some"] (defScope sPick) := ⟨rfl, rfl, rfl, by decide +kernel, rfl, by decide +kernel, by decide +kernel⟩
theorem scValue : FnScope ["pen", "small", "some"] ["pen"] (defScope sValue) := ⟨rfl, rfl, rfl, by decide +kernel, rfl, by decide +kernel, by decide +kernel⟩
def spPen (K : PySem.W.Frag) : Sp := fun vs H Q _ => ∃ (a : Addr) (ns : List Int), vs = [.ref a] ∧ SqL K H a (ns.map V.int) ∧ ns.length ≤ 63 ∧
  ∀ (p c : Addr) (H' : Hp), H p = none → Same H H' → PenAt 0 H' p c → Q (.ref p) H'
def spPick (K : PySem.W.Frag) : Sp := fun vs H Q _ => ∃ (p c a : Addr) (xs : List V) (n : Nat), vs = [.ref p, .ref a] ∧ PenAt n H p c ∧ n ≤ 100000 ∧ a ≠ p ∧ H a = some (.lst xs) ∧ xs ≠ [] ∧ xs.length ≤ 1000 ∧
  ∀ (v : V) (H' : Hp), v ∈ xs → Keep p H H' → PenAt (n + 1) H' p c → Q v H'
/-- a drawn value, apart from the pen at p -/
inductive LV (p : Addr) (H : Hp) : V → Prop where
  | int (i : Int) : LV p H (.int i)
  | str (z : Str) (hz : PyData.canLay0 (.str z) = true) : LV p H (.str z)
  | non : LV p H .non
  | bl (b : Bool) : LV p H (.bl b)
  | lst {a b : Addr} {i : Int} (na : a ≠ p) (nb : b ≠ p) (ha : H a = some (.lst [.int i, .ref b])) (hb : H b = some (.lst [.non])) : LV p H (.ref a)
  | tup {a b : Addr} {i : Int} {z : Str} (na : a ≠ p) (nb : b ≠ p) (ha : H a = some (.tup [.int i, .ref b])) (hb : H b = some (.tup [.str z])) (hz : PyData.canLay0 (.str z) = true) : LV p H (.ref a)
  | dct {a : Addr} (na : a ≠ p) (ha : H a = some (.dK [])) : LV p H (.ref a)
theorem LV.keep {p : Addr} {H H' : Hp} {v : V} (h : LV p H v) (k : Keep p H H') : LV p H' v := by
  cases h with
  | int i => exact .int i
  | str z hz => exact .str z hz
  | non => exact .non
  | bl b => exact .bl b
  | lst na nb ha hb => exact .lst na nb (k _ _ na ha) (k _ _ nb hb)
  | tup na nb ha hb hz => exact .tup na nb (k _ _ na ha) (k _ _ nb hb) hz
  | dct na ha => exact .dct na (k _ _ na ha)
def spValue : Sp := fun vs H Q _ => ∃ (p c : Addr) (n : Nat), vs = [.ref p] ∧ PenAt n H p c ∧ n ≤ 90000 ∧
  ∀ (v : V) (H' : Hp), LV p H' v → Keep p H H' → PenAt (n + 2) H' p c → Q v H'
theorem mem_at {xs : List V} {r : Int} {n : Int} (h0 : 0 ≤ r) (h1 : r < n) (hn : n = (xs.length : Int)) : ∃ v, v ∈ xs ∧ atI xs r = some v := by
  have hj : r.toNat < xs.length := by omega
  exact ⟨xs[r.toNat], List.getElem_mem hj, at_of (j := r.toNat) (by omega) (List.getElem?_eq_getElem hj)⟩
theorem take_snoc {α : Type} {xs : List α} {i : Nat} {x : α} (h : xs[i]? = some x) : xs.take (i + 1) = xs.take i ++ [x] := by
  rw [List.take_add_one, h]
  rfl
section
variable {P : Program} {w : World} {K : PySem.W.Frag} {mg : Str → Option Value} {base : Heap} {f f1 : Addr} {fd fd1 : FuncData}
theorem ok_pen (F : Fun K "_law_pen" "_law_pen" sPen f fd) (T : Bn mg) : FnOk P w K mg base CX0 1 f fd ["script"] (spPen K) := by
  refine F.ok scPen (fun vs H Q E h => ?_) (fun cdv A outer s H vs Q E hr h => ?_)
  · obtain ⟨a, ns, rfl, _⟩ := h
    rfl
  obtain ⟨a, ns, rfl, hS, hl, q⟩ := h
  refine ⟨_, (pss_one (ps_ret (pe_lst (pa_cons (pe_lc (own := [("cell", 1)]) (g := gName 1) (by rfl) scPen.nd (pi_list (pe_slice sl_list (pv 0) po_none (po_some pe_int))) (blkOk_by (own := [("cell", 1)]) (N := ["script", "cell"]) (sc := defScope sPen) (by decide +kernel)) (fun _ _ _ _ _ => (pg_name (i := 1) scPen.nd rfl (.inl rfl))) (fun _ _ _ _ _ => pts_nil) (fun _ _ _ _ _ => (pe_callTy call_int1 (by rfl) T.b_int (by decide +kernel) (pa_cons (pv 1) pa_nil)))) (pa_cons pe_int (pa_cons pe_int pa_nil)))))), ?_⟩
  refine ⟨_, rfl, _, rfl, a, _, rfl, hS, fun b hb => ?_⟩
  have cut : cutV (ns.map V.int) none (some 60) = (ns.take 60).map V.int := by
    unfold cutV
    rw [HT.sIx_none, List.drop_zero, show (some (60 : Int)) = some ((60 : Nat) : Int) from rfl, HT.sIx_nat, List.length_map, Nat.sub_zero, ← List.map_take]
    congr 1
    by_cases h : 60 ≤ ns.length
    · rw [Nat.min_eq_left h]
    · rw [Nat.min_eq_right (by omega), List.take_of_length_le (Nat.le_refl _), List.take_of_length_le (by omega)]
  refine ⟨b, rfl, ⟨_, SqL.of upd_same⟩, fun D hD => ?_⟩
  have sB : Same H (upd H b (.lst (cutV (ns.map V.int) none (some 60)))) := same_new hb
  have dH : H D = none := sB.free hD
  have nDb : b ≠ D := ne_of_none upd_same hD
  refine lc_list (K := K) (a := b) (xs := cutV (ns.map V.int) none (some 60)) (fun i H2 => Same H H2 ∧ H2 b = some (.lst (cutV (ns.map V.int) none (some 60))) ∧ H2 D = some (.lst (((ns.take 60).map V.int).take i))) ?_ ?_ ?_ ?_
  · exact ⟨sB.trans (same_new hD), by rw [upd_ne nDb, upd_same], by rw [upd_same, List.take_zero]⟩
  · rintro i H2 _ ⟨_, h2, _⟩
    exact SqL.of h2
  · rintro i x H2 hx ⟨s2, h2, h3⟩
    rw [cut, List.getElem?_map] at hx
    obtain ⟨z, hz, rfl⟩ := Option.map_eq_some_iff.mp hx
    refine ⟨rfl, _, rfl, .inl ⟨_, rfl, _, h3, ?_, ?_⟩⟩
    · rw [List.length_take, List.length_map, List.length_take]
      exact small1000 (by omega)
    · refine ⟨fun y o hy => ?_, by rw [upd_ne nDb]; exact h2, ?_⟩
      · rw [upd_ne (ne_of_none hy dH)]
        exact s2 y o hy
      · rw [upd_same, take_snoc (x := V.int z) (by rw [List.getElem?_map, hz]; rfl)]
  rintro H2 ⟨s2, h2, h3⟩
  refine ⟨(by show 3 ≤ sizeLine; decide), fun p hp => ?_⟩
  have pH : H p = none := s2.free hp
  refine q p D _ pH (s2.trans (same_new hp)) ?_
  have nDp : D ≠ p := ne_of_none h3 hp
  refine PenAt.mk (c := D) (cells := ns.take 60) (i := 0) upd_same nDp ?_ (by rw [List.length_take]; omega) (by decide) (by decide)
  rw [upd_ne nDp, h3, List.take_of_length_le]
  rw [cut]
  exact Nat.le_refl _
theorem ok_pick (F : Fun K "_law_pick" "_law_pick" sPick f fd) (T : Bn mg) (D__law_draw : Df K mg "_law_draw" sDraw f1 fd1 ["pen", "many"]) (G__law_draw : FnOk P w K mg base CX0 1 f1 fd1 ["pen", "many"] spDraw) : FnOk P w K mg base CX0 2 f fd ["pen", "some"] (spPick K) := by
  refine F.ok scPick (fun vs H Q E h => ?_) (fun cdv A outer s H vs Q E hr h => ?_)
  · obtain ⟨p, c, a, xs, n, rfl, _⟩ := h
    rfl
  obtain ⟨p, c, a, xs, n, rfl, hp, hn, na, ha, hne, hl, q⟩ := h
  refine ⟨_, (pss_one (ps_ret (pe_ix ix_list (pv 1) (pe_cd D__law_draw G__law_draw hr (by decide) (pa_cons (pv 0) (pa_cons (pe_callB call_len_seq (by rfl) T.b_len (by decide +kernel) (pa_cons (pv 1) pa_nil)) pa_nil))) (fun _ _ => rfl)))), ?_⟩
  have lp : xs.length ≠ 0 := fun z => hne (List.length_eq_zero_iff.mp z)
  refine ⟨_, rfl, _, rfl, _, rfl, a, _, rfl, .inl (SqL.of ha), p, c, _, n, rfl, hp, hn, by omega, by omega, fun r H' r0 r1 k hp' => ?_⟩
  obtain ⟨v, hv, hat⟩ := mem_at (xs := xs) r0 r1 rfl
  exact ⟨a, _, _, _, rfl, rfl, SqL.of (k _ _ na ha), hat, q v H' hv k hp'⟩
end
end TA
namespace TA
open PySem PySem.Spec L2
open PyProof.Rows hiding St
theorem lay80 : ∀ k : Nat, k < 80 → PyData.canLay0 (.str (("a" : Str) ++ Str.ofString (toString (k : Int)))) = true := by decide +kernel
theorem str80 : ∀ k : Nat, k < 80 → ("a" : Str).length + (Str.ofString (toString (k : Int))).length ≤ 100 := by decide +kernel
section
variable {P : Program} {w : World} {K : PySem.W.Frag} {mg : Str → Option Value} {base : Heap} {f f1 : Addr} {fd fd1 : FuncData}
theorem ok_value (F : Fun K "_law_value" "_law_value" sValue f fd) (T : Bn mg) (D__law_draw : Df K mg "_law_draw" sDraw f1 fd1 ["pen", "many"]) (G__law_draw : FnOk P w K mg base CX0 1 f1 fd1 ["pen", "many"] spDraw) : FnOk P w K mg base CX0 2 f fd ["pen"] spValue := by
  refine F.ok scValue (fun vs H Q E h => ?_) (fun cdv A outer s H vs Q E hr h => ?_)
  · obtain ⟨p, c, n, rfl, _⟩ := h
    rfl
  obtain ⟨p, c, n, rfl, hp, hn, q⟩ := h
  refine ⟨_, (pss_cons (ps_set (i := 1) scValue.nd rfl (.inl rfl) (pe_cd D__law_draw G__law_draw hr (by decide) (pa_cons (pv 0) (pa_cons pe_int pa_nil))))
      (pss_cons (ps_set (i := 2) scValue.nd rfl (.inl rfl) (pe_lst (pa_cons (pv 1) (pa_cons (pe_op op_sub (pe_un un_neg (pe_op op_pow pe_int pe_int)) (pv 1)) (pa_cons (pe_op op_add_str pe_str (pe_callTy call_str_int (by rfl) T.b_str (by decide +kernel) (pa_cons (pv 1) pa_nil))) (pa_cons pe_str (pa_cons pe_non (pa_cons (pe_lst (pa_cons (pv 1) (pa_cons (pe_lst (pa_cons pe_non pa_nil)) pa_nil))) (pa_cons (pe_tup (pa_cons (pv 1) (pa_cons (pe_tup (pa_cons pe_str pa_nil)) pa_nil))) (pa_cons pe_bl (pa_cons pe_dnewK (pa_cons pe_str pa_nil))))))))))))
      (pss_one (ps_ret (pe_ix ix_list (pv 2) (pe_cd D__law_draw G__law_draw hr (by decide) (pa_cons (pv 0) (pa_cons pe_int pa_nil))) (fun _ _ => rfl)))))), ?_⟩
  refine ⟨_, rfl, p, c, _, n, rfl, hp, by omega, by decide, by decide, fun r H1 r0 r1 k1 hp1 => ?_⟩
  have hlog : r.natAbs.log2 < 1920 := Nat.lt_of_le_of_lt (Nat.log2_le_self _) (by omega)
  have hsz : ("a" : Str).length + (Str.ofString (toString r)).length ≤ sizeLine := by
    have e : r = ((r.toNat : Nat) : Int) := by omega
    rw [e]
    exact Nat.le_trans (str80 r.toNat (by omega)) (by decide)
  refine ⟨_, rfl, _, _, rfl, rfl, ⟨by decide, by decide, by decide⟩, _, rfl, _, rfl, _, _, rfl, rfl, _, rfl, _, rfl, hlog, _, _, rfl, rfl, hsz, ?_⟩
  refine ⟨_, rfl, (by show 1 ≤ sizeLine; decide), fun b hb => ⟨(by show 2 ≤ sizeLine; decide), fun a ha => ?_⟩⟩
  refine ⟨_, rfl, (by show 1 ≤ sizeLine; decide), fun d hd => ⟨(by show 2 ≤ sizeLine; decide), fun t ht => ?_⟩⟩
  intro dd hdd
  refine ⟨(by show 10 ≤ sizeLine; decide), fun l hl => ?_⟩
  have sb := same_new (o := .lst [.non]) hb
  have sa := same_new (o := .lst [.int r, .ref b]) ha
  have sd := same_new (o := .tup [.str "x"]) hd
  have st := same_new (o := .tup [.int r, .ref d]) ht
  have sdd := same_new (o := .dK []) hdd
  have sl := same_new (o := .lst [.int r, .int (-(10 ^ (30 : Int).toNat) - r), .str ("a" ++ Str.ofString (toString r)), .str "", .non, .ref a, .ref t, .bl true, .ref dd, .str "part"]) hl
  have s1 := st.trans (sdd.trans sl)
  have s2 := sa.trans (sd.trans s1)
  have s0 := sb.trans s2
  have hp3 := hp1.same s0
  obtain ⟨px, hpx⟩ := hp1.lst
  have nb : b ≠ p := Ne.symm (ne_of_none hpx hb)
  have na : a ≠ p := Ne.symm (ne_of_none (sb _ _ hpx) ha)
  have nd : d ≠ p := Ne.symm (ne_of_none (sa _ _ (sb _ _ hpx)) hd)
  have nt : t ≠ p := Ne.symm (ne_of_none (sd _ _ (sa _ _ (sb _ _ hpx))) ht)
  have ndd : dd ≠ p := Ne.symm (ne_of_none (st _ _ (sd _ _ (sa _ _ (sb _ _ hpx)))) hdd)
  have nl : l ≠ p := Ne.symm (ne_of_none (sdd _ _ (st _ _ (sd _ _ (sa _ _ (sb _ _ hpx))))) hl)
  refine ⟨_, rfl, _, rfl, p, c, _, n + 1, rfl, hp3, by omega, by decide, by decide, fun r2 H2 z0 z1 k2 hp2 => ?_⟩
  obtain ⟨v, hv, hat⟩ := mem_at (xs := [.int r, .int (-(10 ^ (30 : Int).toNat) - r), .str ("a" ++ Str.ofString (toString r)), .str "", .non, .ref a, .ref t, .bl true, .ref dd, .str "part"]) z0 z1 rfl
  refine ⟨l, _, _, _, rfl, rfl, SqL.of (k2 _ _ nl upd_same), hat, ?_⟩
  refine q v H2 ?_ ((k1.trans (Keep.of_same s0)).trans k2) hp2
  have ea := k2 _ _ na ((sd.trans s1) _ _ upd_same)
  have eb := k2 _ _ nb (s2 _ _ upd_same)
  have et := k2 _ _ nt ((sdd.trans sl) _ _ upd_same)
  have ed := k2 _ _ nd (s1 _ _ upd_same)
  have edd := k2 _ _ ndd (sl _ _ upd_same)
  simp only [List.mem_cons, List.not_mem_nil, or_false] at hv
  rcases hv with rfl | rfl | rfl | rfl | rfl | rfl | rfl | rfl | rfl | rfl
  · exact .int _
  · exact .int _
  · refine .str _ ?_
    have e : r = ((r.toNat : Nat) : Int) := by omega
    rw [e]
    exact lay80 r.toNat (by omega)
  · exact .str _ (by decide +kernel)
  · exact .non
  · exact .lst na nb ea eb
  · exact .tup nt nd et ed (by decide +kernel)
  · exact .bl _
  · exact .dct ndd edd
  · exact .str _ (by decide +kernel)
end
end TA
namespace TA
open PySem PySem.Spec L2
open PyProof.Rows hiding St
abbrev sInt : Stmt := top 5
abbrev sWithin : Stmt := top 6
abbrev sNums : Stmt := top 7
abbrev sName : Stmt := top 8
theorem scInt : FnScope ["value"] ["value"] (defScope sInt) := ⟨rfl, rfl, rfl, by decide +kernel, rfl, by decide +kernel, by decide +kernel⟩
theorem scWithin : FnScope ["value", "least", "most"] ["value", "least", "most"] (defScope sWithin) := ⟨rfl, rfl, rfl, by decide +kernel, rfl, by decide +kernel, by decide +kernel⟩
theorem scNums : FnScope ["value", "item"] ["value"] (defScope sNums) := ⟨rfl, rfl, rfl, by decide +kernel, rfl, by decide +kernel, by decide +kernel⟩
theorem scName : FnScope ["value", "sign"] ["value"] (defScope sName) := ⟨rfl, rfl, rfl, by decide +kernel, rfl, by decide +kernel, by decide +kernel⟩
/-! ### values by their types -/
def tyN : List String := ["NoneType", "bool", "int", "str", "list", "tuple", "dict"]
def HasTy (K : PySem.W.Frag) (H : Hp) (v : V) (n : String) : Prop := TyX K H v (.type n) ∧ n ∈ tyN
theorem rd_lst {H H' : Hp} (s : Same H H') {a : Addr} {o : HO} (h : H a = some o) : H' a = some o := s _ _ h
theorem tyx_same {K : PySem.W.Frag} {H H' : Hp} {v : V} {t : Value} (h : TyX K H v t) (s : Same H H') : TyX K H' v t := by
  cases h with
  | base b =>
    cases b with
    | non => exact .base .non
    | bl x => exact .base (.bl x)
    | int i => exact .base (.int i)
    | str x => exact .base (.str x)
    | flt x => exact .base (.flt x)
    | lst e => exact .base (.lst (s _ _ e))
    | frz e => exact .base (.frz (s _ _ e))
    | tup e => exact .base (.tup (s _ _ e))
    | dK e => exact .base (.dK (s _ _ e))
    | dT e => exact .base (.dT (s _ _ e))
    | ins e cl ha hn htk hm => exact .base (.ins (s _ _ e) cl ha hn htk hm)
  | byt b => exact .byt b
  | set e => exact .set (s _ _ e)
  | kList e c => exact .kList e c
  | kTuple e c => exact .kTuple e c
  | kDict e c => exact .kDict e c
  | fTuple e => exact .fTuple (s _ _ e)
  | fDict e => exact .fDict (s _ _ e)
theorem HasTy.same {K : PySem.W.Frag} {H H' : Hp} {v : V} {n : String} (h : HasTy K H v n) (s : Same H H') : HasTy K H' v n := ⟨tyx_same h.1 s, h.2⟩
theorem HasTy.int {K : PySem.W.Frag} {H : Hp} (i : Int) : HasTy K H (.int i) "int" := ⟨.base (.int i), by decide⟩
theorem HasTy.str {K : PySem.W.Frag} {H : Hp} (z : Str) : HasTy K H (.str z) "str" := ⟨.base (.str z), by decide⟩
theorem HasTy.non {K : PySem.W.Frag} {H : Hp} : HasTy K H .non "NoneType" := ⟨.base .non, by decide⟩
theorem HasTy.bl {K : PySem.W.Frag} {H : Hp} (b : Bool) : HasTy K H (.bl b) "bool" := ⟨.base (.bl b), by decide⟩
theorem HasTy.lst {K : PySem.W.Frag} {H : Hp} {a : Addr} {xs : List V} (e : H a = some (.lst xs)) : HasTy K H (.ref a) "list" := ⟨.base (.lst e), by decide⟩
theorem HasTy.tup {K : PySem.W.Frag} {H : Hp} {a : Addr} {xs : List V} (e : H a = some (.tup xs)) : HasTy K H (.ref a) "tuple" := ⟨.base (.tup e), by decide⟩
theorem HasTy.dct {K : PySem.W.Frag} {H : Hp} {a : Addr} {kvs : List (Key × V)} (e : H a = some (.dK kvs)) : HasTy K H (.ref a) "dict" := ⟨.base (.dK e), by decide⟩
def intV : V → Bool
  | .int _ => true
  | _ => false
def strV : V → Bool
  | .str _ => true
  | _ => false
theorem HasTy.isInt {K : PySem.W.Frag} {H : Hp} {v : V} {n : String} (h : HasTy K H v n) : (n == "int") = intV v := by
  obtain ⟨h, _⟩ := h
  generalize e : Value.type n = t at h
  cases h with
  | base b => cases b <;> first | (cases e; rfl) | cases e
  | _ => first | (cases e; rfl) | cases e
theorem HasTy.isStr {K : PySem.W.Frag} {H : Hp} {v : V} {n : String} (h : HasTy K H v n) : (n == "str") = strV v := by
  obtain ⟨h, _⟩ := h
  generalize e : Value.type n = t at h
  cases h with
  | base b => cases b <;> first | (cases e; rfl) | cases e
  | _ => first | (cases e; rfl) | cases e
theorem kit_all {c : String} {g : String → Bool} (h : tyN.all (fun n => kitB n c == some (g n)) = true) {K : PySem.W.Frag} {n : String} (hn : n ∈ tyN) : PySem.W.kitOne K (.type n) (.type c) = some (g n) :=
  kit_ty (eq_of_beq (List.all_eq_true.mp h n hn))
theorem kit_int {K : PySem.W.Frag} {n : String} (hn : n ∈ tyN) : PySem.W.kitOne K (.type n) (.type "int") = some (n == "int" || n == "bool") := kit_all (g := fun n => n == "int" || n == "bool") (by decide +kernel) hn
theorem kit_bool {K : PySem.W.Frag} {n : String} (hn : n ∈ tyN) : PySem.W.kitOne K (.type n) (.type "bool") = some (n == "bool") := kit_all (g := fun n => n == "bool") (by decide +kernel) hn
theorem kit_str {K : PySem.W.Frag} {n : String} (hn : n ∈ tyN) : PySem.W.kitOne K (.type n) (.type "str") = some (n == "str") := kit_all (g := fun n => n == "str") (by decide +kernel) hn
theorem kit_list {K : PySem.W.Frag} {n : String} (hn : n ∈ tyN) : PySem.W.kitOne K (.type n) (.type "list") = some (n == "list") := kit_all (g := fun n => n == "list") (by decide +kernel) hn
theorem kit_tuple {K : PySem.W.Frag} {n : String} (hn : n ∈ tyN) : PySem.W.kitOne K (.type n) (.type "tuple") = some (n == "tuple") := kit_all (g := fun n => n == "tuple") (by decide +kernel) hn
def loB (i : Int) : V → Bool
  | .int a => decide (a ≤ i)
  | _ => true
def hiB (i : Int) : V → Bool
  | .int b => decide (i ≤ b)
  | _ => true
def withinV : V → V → V → Bool
  | .int i, lo, hi => loB i lo && hiB i hi
  | _, _, _ => false
def OptI (v : V) : Prop := v = .non ∨ ∃ i, v = .int i
def spIsInt (K : PySem.W.Frag) : Sp := fun vs H Q _ => ∃ (v : V) (n : String), vs = [v] ∧ HasTy K H v n ∧ Q (.bl (intV v)) H
def spWithin (K : PySem.W.Frag) : Sp := fun vs H Q _ => ∃ (v lo hi : V) (n : String), vs = [v, lo, hi] ∧ HasTy K H v n ∧ OptI lo ∧ OptI hi ∧ Q (.bl (withinV v lo hi)) H
section
variable {P : Program} {w : World} {K : PySem.W.Frag} {mg : Str → Option Value} {base : Heap} {f f1 : Addr} {fd fd1 : FuncData}
theorem ok_isint (F : Fun K "is_integer" "is_integer" sInt f fd) (T : Bn mg) : FnOk P w K mg base CX0 1 f fd ["value"] (spIsInt K) := by
  refine F.ok scInt (fun vs H Q E h => ?_) (fun cdv A outer s H vs Q E hr h => ?_)
  · obtain ⟨v, n, rfl, _⟩ := h
    rfl
  obtain ⟨v, n, rfl, hv, q⟩ := h
  refine ⟨_, (pss_one (ps_ret (pe_and (pe_callB call_isi (by rfl) T.b_isinstance (by decide +kernel) (pa_cons (pv 0) (pa_cons (pe_bltn (v := .ty "int") (u := .type "int") (by rfl) T.b_int (by decide +kernel) rfl) pa_nil))) (pe_one (pe_not (pe_callB call_isi (by rfl) T.b_isinstance (by decide +kernel) (pa_cons (pv 0) (pa_cons (pe_bltn (v := .ty "bool") (u := .type "bool") (by rfl) T.b_bool (by decide +kernel) rfl) pa_nil)))))))), ?_⟩
  refine ⟨_, rfl, v, _, _, _, _, rfl, .ty "int", hv.1, kit_int hv.2, _, rfl, ?_⟩
  rw [← hv.isInt] at q
  by_cases e : n = "int"
  · subst e
    exact iteT ⟨_, rfl, v, _, _, _, _, rfl, .ty "bool", hv.1, kit_bool hv.2, _, rfl, q⟩
  · by_cases e2 : n = "bool"
    · subst e2
      exact iteT ⟨_, rfl, v, _, _, _, _, rfl, .ty "bool", hv.1, kit_bool hv.2, _, rfl, q⟩
    · have h1 : (n == "int") = false := by simpa using e
      have h2 : (n == "bool") = false := by simpa using e2
      rw [h1] at q ⊢
      rw [h2]
      exact iteF q
theorem ok_within (F : Fun K "is_within" "is_within" sWithin f fd) (T : Bn mg) (D_is_integer : Df K mg "is_integer" sInt f1 fd1 ["value"]) (G_is_integer : FnOk P w K mg base CX0 1 f1 fd1 ["value"] (spIsInt K)) : FnOk P w K mg base CX0 2 f fd ["value", "least", "most"] (spWithin K) := by
  refine F.ok scWithin (fun vs H Q E h => ?_) (fun cdv A outer s H vs Q E hr h => ?_)
  · obtain ⟨v, lo, hi, n, rfl, _⟩ := h
    rfl
  obtain ⟨v, lo, hi, n, rfl, hv, hlo, hhi, q⟩ := h
  refine ⟨_, (pss_cons (ps_if (pt_not (pt_val (pe_cd D_is_integer G_is_integer hr (by decide) (pa_cons (pv 0) pa_nil)))) (pss_one (ps_ret pe_bl)) pss_nil)
      (pss_one (ps_ret (pe_and (pe_or (pe_cmp (pc_isN (pv 1)) rfl) (pe_one (pe_cmpR op_le (pv 1) (pv 0) (nomark _)))) (pe_one (pe_or (pe_cmp (pc_isN (pv 2)) rfl) (pe_one (pe_cmpR op_le (pv 0) (pv 2) (nomark _))))))))), ?_⟩
  refine ⟨_, rfl, v, n, rfl, hv, _, rfl, ?_⟩
  cases e : intV v with
  | false =>
    refine iteT ?_
    have : withinV v lo hi = false := by cases v <;> first | rfl | cases e
    rw [this] at q
    exact q
  | true =>
    refine iteF ?_
    obtain ⟨i, rfl⟩ : ∃ i, v = .int i := by cases v <;> first | exact ⟨_, rfl⟩ | cases e
    rcases hlo with rfl | ⟨a, rfl⟩
    · refine ⟨_, rfl, _, rfl, iteT ⟨_, rfl, iteT ?_⟩⟩
      rcases hhi with rfl | ⟨b, rfl⟩
      · exact ⟨_, rfl, _, rfl, iteT q⟩
      · exact ⟨_, rfl, _, rfl, iteF ⟨_, rfl, _, rfl, _, _, rfl, rfl, q⟩⟩
    · refine ⟨_, rfl, _, rfl, iteF ⟨_, rfl, _, rfl, _, _, rfl, rfl, _, rfl, ?_⟩⟩
      by_cases c : a ≤ i
      · rw [decide_eq_true c]
        have hq : withinV (.int i) (.int a) hi = hiB i hi := by
          show (decide (a ≤ i) && _) = _
          rw [decide_eq_true c, Bool.true_and]
        rw [hq] at q
        refine iteT ?_
        rcases hhi with rfl | ⟨b, rfl⟩
        · exact ⟨_, rfl, _, rfl, iteT q⟩
        · exact ⟨_, rfl, _, rfl, iteF ⟨_, rfl, _, rfl, _, _, rfl, rfl, q⟩⟩
      · rw [decide_eq_false c]
        have hq : withinV (.int i) (.int a) hi = false := by
          show (decide (a ≤ i) && _) = _
          rw [decide_eq_false c, Bool.false_and]
        rw [hq] at q
        exact iteF q
end
end TA
namespace TA
open PySem PySem.Spec L2
open PyProof.Rows hiding St
theorem kit_lt {K : PySem.W.Frag} {n : String} (hn : n ∈ tyN) : PySem.W.kitAny K (.type n) [.type "list", .type "tuple"] = some (n == "list" || n == "tuple") := by
  by_cases e : n = "list"
  · subst e
    exact kitAny_cons (b := true) (kit_list hn) (fun z => nomatch z) (fun _ => rfl)
  · have h1 : (n == "list") = false := by simpa using e
    refine kitAny_cons (b := false) (by rw [kit_list hn, h1]) (fun _ => ?_) (fun z => nomatch z)
    rw [h1, Bool.false_or]
    by_cases e2 : n = "tuple"
    · subst e2
      exact kitAny_cons (b := true) (kit_tuple hn) (fun z => nomatch z) (fun _ => rfl)
    · have h2 : (n == "tuple") = false := by simpa using e2
      exact kitAny_cons (b := false) (by rw [kit_tuple hn, h2]) (fun _ => by rw [h2]; exact kitAny_nil) (fun z => nomatch z)
def numV (v : V) : Bool := withinV v (.int 0) .non
def spNums (K : PySem.W.Frag) : Sp := fun vs H Q _ => ∃ (v : V) (n : String), vs = [v] ∧ HasTy K H v n ∧
  ((n ≠ "list" ∧ n ≠ "tuple" ∧ ∀ H', Same H H' → Q (.bl false) H') ∨
   ∃ (a : Addr) (xs : List V), v = .ref a ∧ ((n = "list" ∧ H a = some (.lst xs)) ∨ (n = "tuple" ∧ H a = some (.tup xs))) ∧ (∀ x ∈ xs, ∃ m, HasTy K H x m) ∧ xs.length ≤ 1000 ∧ ∀ H', Same H H' → Q (.bl (xs.all numV)) H')
section
variable {P : Program} {w : World} {K : PySem.W.Frag} {mg : Str → Option Value} {base : Heap} {f f1 : Addr} {fd fd1 : FuncData}
theorem ok_nums (F : Fun K "are_numbers" "are_numbers" sNums f fd) (T : Bn mg) (D_is_within : Df K mg "is_within" sWithin f1 fd1 ["value", "least", "most"]) (G_is_within : FnOk P w K mg base CX0 2 f1 fd1 ["value", "least", "most"] (spWithin K)) : FnOk P w K mg base CX0 3 f fd ["value"] (spNums K) := by
  refine F.ok scNums (fun vs H Q E h => ?_) (fun cdv A outer s H vs Q E hr h => ?_)
  · obtain ⟨v, n, rfl, _⟩ := h
    rfl
  obtain ⟨v, n, rfl, hv, h⟩ := h
  rcases h with ⟨n1, n2, q⟩ | ⟨a, xs, rfl, hk, hty, hl, q⟩
  · refine ⟨_, (pss_cons (ps_if (pt_not (pt_val (pe_callB call_isiT (by rfl) T.b_isinstance (by decide +kernel) (pa_cons (pv 0) (pa_cons (pe_tup (pa_cons (pe_bltn (v := .ty "list") (u := .type "list") (by rfl) T.b_list (by decide +kernel) rfl) (pa_cons (pe_bltn (v := .ty "tuple") (u := .type "tuple") (by rfl) T.b_tuple (by decide +kernel) rfl) pa_nil))) pa_nil))))) (pss_one (ps_ret pe_bl)) pss_nil)
      (pss_one (ps_ret (pe_callB (cr_all rfl) (by rfl) T.b_all (by decide +kernel) (pa_cons (pe_lc (own := [("item", 1)]) (g := gName 1) (by rfl) scNums.nd (pi_list (pv 0)) (blkOk_by (own := [("item", 1)]) (N := ["value", "item"]) (sc := defScope sNums) (by decide +kernel)) (fun _ _ _ _ _ => (pg_name (i := 1) scNums.nd rfl (.inl rfl))) (fun _ _ _ _ _ => pts_nil) (fun _ _ _ _ _ => (pe_cd D_is_within G_is_within hr (by decide) (pa_cons (pv 1) (pa_cons pe_int (pa_cons pe_non pa_nil)))))) pa_nil))))), ?_⟩
    refine ⟨_, rfl, (by show 2 ≤ sizeLine; decide), fun tp htp => ?_⟩
    have s1 := same_new (o := .tup [.ty "list", .ty "tuple"]) htp
    refine ⟨v, tp, _, _, [.type "list", .type "tuple"], _, rfl, upd_same, .cons (.ty _) (.cons (.ty _) .nil), tyx_same hv.1 s1, kit_lt hv.2, _, rfl, ?_⟩
    have h1 : (n == "list" || n == "tuple") = false := by simp [n1, n2]
    rw [h1]
    exact iteT (q _ s1)
  rcases hk with ⟨rfl, ha⟩ | ⟨rfl, ha⟩
  · refine ⟨_, (pss_cons (ps_if (pt_not (pt_val (pe_callB call_isiT (by rfl) T.b_isinstance (by decide +kernel) (pa_cons (pv 0) (pa_cons (pe_tup (pa_cons (pe_bltn (v := .ty "list") (u := .type "list") (by rfl) T.b_list (by decide +kernel) rfl) (pa_cons (pe_bltn (v := .ty "tuple") (u := .type "tuple") (by rfl) T.b_tuple (by decide +kernel) rfl) pa_nil))) pa_nil))))) (pss_one (ps_ret pe_bl)) pss_nil)
      (pss_one (ps_ret (pe_callB (cr_all rfl) (by rfl) T.b_all (by decide +kernel) (pa_cons (pe_lc (own := [("item", 1)]) (g := gName 1) (by rfl) scNums.nd (pi_list (pv 0)) (blkOk_by (own := [("item", 1)]) (N := ["value", "item"]) (sc := defScope sNums) (by decide +kernel)) (fun _ _ _ _ _ => (pg_name (i := 1) scNums.nd rfl (.inl rfl))) (fun _ _ _ _ _ => pts_nil) (fun _ _ _ _ _ => (pe_cd D_is_within G_is_within hr (by decide) (pa_cons (pv 1) (pa_cons pe_int (pa_cons pe_non pa_nil)))))) pa_nil))))), ?_⟩
    refine ⟨_, rfl, (by show 2 ≤ sizeLine; decide), fun tp htp => ?_⟩
    have s1 := same_new (o := .tup [.ty "list", .ty "tuple"]) htp
    refine ⟨.ref a, tp, _, _, [.type "list", .type "tuple"], _, rfl, upd_same, .cons (.ty _) (.cons (.ty _) .nil), tyx_same hv.1 s1, kit_lt hv.2, _, rfl, ?_⟩
    refine iteF ?_
    refine ⟨_, rfl, a, rfl, ⟨_, SqL.of (s1 _ _ ha)⟩, fun D hD => ?_⟩
    have hD0 := s1.free hD
    refine lc_list (K := K) (a := a) (xs := xs) (fun i H2 => Same H H2 ∧ H2 D = some (.lst ((xs.map fun x => V.bl (numV x)).take i))) ?_ ?_ ?_ ?_
    · exact ⟨s1.trans (same_new hD), by rw [upd_same, List.take_zero]⟩
    · rintro i H2 _ ⟨s2, _⟩
      exact SqL.of (s2 _ _ ha)
    · rintro i x H2 hx ⟨s2, h3⟩
      obtain ⟨m, hm⟩ := hty x (List.mem_of_getElem? hx)
      refine ⟨rfl, _, rfl, x, _, _, m, rfl, hm.same s2, .inr ⟨0, rfl⟩, .inl rfl, _, h3, ?_, ?_⟩
      · rw [List.length_take, List.length_map]
        exact small1000 (by omega)
      · refine ⟨fun y o hy => ?_, ?_⟩
        · rw [upd_ne (ne_of_none hy hD0)]
          exact s2 y o hy
        · rw [upd_same, take_snoc (x := V.bl (numV x)) (by rw [List.getElem?_map, hx]; rfl)]
          rfl
    · rintro H2 ⟨s2, h3⟩
      rw [List.take_of_length_le (by rw [List.length_map]; exact Nat.le_refl _)] at h3
      refine ⟨D, xs.map numV, rfl, SqL.of (by rw [h3, List.map_map]; rfl), ?_⟩
      rw [List.all_map]
      exact q _ s2
  · refine ⟨_, (pss_cons (ps_if (pt_not (pt_val (pe_callB call_isiT (by rfl) T.b_isinstance (by decide +kernel) (pa_cons (pv 0) (pa_cons (pe_tup (pa_cons (pe_bltn (v := .ty "list") (u := .type "list") (by rfl) T.b_list (by decide +kernel) rfl) (pa_cons (pe_bltn (v := .ty "tuple") (u := .type "tuple") (by rfl) T.b_tuple (by decide +kernel) rfl) pa_nil))) pa_nil))))) (pss_one (ps_ret pe_bl)) pss_nil)
      (pss_one (ps_ret (pe_callB (cr_all rfl) (by rfl) T.b_all (by decide +kernel) (pa_cons (pe_lc (own := [("item", 1)]) (g := gName 1) (by rfl) scNums.nd (pi_tup (pv 0)) (blkOk_by (own := [("item", 1)]) (N := ["value", "item"]) (sc := defScope sNums) (by decide +kernel)) (fun _ _ _ _ _ => (pg_name (i := 1) scNums.nd rfl (.inl rfl))) (fun _ _ _ _ _ => pts_nil) (fun _ _ _ _ _ => (pe_cd D_is_within G_is_within hr (by decide) (pa_cons (pv 1) (pa_cons pe_int (pa_cons pe_non pa_nil)))))) pa_nil))))), ?_⟩
    refine ⟨_, rfl, (by show 2 ≤ sizeLine; decide), fun tp htp => ?_⟩
    have s1 := same_new (o := .tup [.ty "list", .ty "tuple"]) htp
    refine ⟨.ref a, tp, _, _, [.type "list", .type "tuple"], _, rfl, upd_same, .cons (.ty _) (.cons (.ty _) .nil), tyx_same hv.1 s1, kit_lt hv.2, _, rfl, ?_⟩
    refine iteF ?_
    refine ⟨_, rfl, a, rfl, ⟨_, SqT.of (s1 _ _ ha)⟩, fun D hD => ?_⟩
    have hD0 := s1.free hD
    refine lc_tup (K := K) (a := a) (xs := xs) (fun i H2 => Same H H2 ∧ H2 D = some (.lst ((xs.map fun x => V.bl (numV x)).take i))) ?_ ?_ ?_ ?_
    · exact ⟨s1.trans (same_new hD), by rw [upd_same, List.take_zero]⟩
    · rintro i H2 _ ⟨s2, _⟩
      exact SqT.of (s2 _ _ ha)
    · rintro i x H2 hx ⟨s2, h3⟩
      obtain ⟨m, hm⟩ := hty x (List.mem_of_getElem? hx)
      refine ⟨rfl, _, rfl, x, _, _, m, rfl, hm.same s2, .inr ⟨0, rfl⟩, .inl rfl, _, h3, ?_, ?_⟩
      · rw [List.length_take, List.length_map]
        exact small1000 (by omega)
      · refine ⟨fun y o hy => ?_, ?_⟩
        · rw [upd_ne (ne_of_none hy hD0)]
          exact s2 y o hy
        · rw [upd_same, take_snoc (x := V.bl (numV x)) (by rw [List.getElem?_map, hx]; rfl)]
          rfl
    · rintro H2 ⟨s2, h3⟩
      rw [List.take_of_length_le (by rw [List.length_map]; exact Nat.le_refl _)] at h3
      refine ⟨D, xs.map numV, rfl, SqL.of (by rw [h3, List.map_map]; rfl), ?_⟩
      rw [List.all_map]
      exact q _ s2
end
end TA
namespace TA
open PySem PySem.Spec L2
open PyProof.Rows hiding St
/-- the constants of the checks, as the top leaves them -/
structure Cn (K : PySem.W.Frag) (mg : Str → Option Value) : Prop where
  lets : ∃ t, mg "LETTERS" = some (.str "abcdefghijklmnopqrstuvwxyz" t)
  digs : ∃ t, mg "DIGITS" = some (.str "0123456789" t)
  long : ∃ t, mg "LONGEST_NAME" = some (.int 12 t)
  nons : ∃ a, mg "NO_NAMES" = some (.ref a) ∧ ∀ H, SqT K H a [.str "of", .str "to"]
def letC (c : Nat) : Bool := decide (c ∈ ("abcdefghijklmnopqrstuvwxyz" : Str).cps.toList)
def digC (c : Nat) : Bool := decide (c ∈ ("0123456789" : Str).cps.toList)
def headC : List Nat → Bool
  | c :: _ => letC c
  | [] => false
def nameB (z : Str) : Bool := !inV (.str z) [.str "of", .str "to"] && (withinV (.int (z.length : Int)) (.int 1) (.int 12) && (headC z.cps.toList && z.cps.toList.all fun c => letC c || digC c))
def nameV : V → Bool
  | .str z => nameB z
  | _ => false
def spName (K : PySem.W.Frag) : Sp := fun vs H Q _ => ∃ (v : V) (n : String), vs = [v] ∧ HasTy K H v n ∧ (∀ z, v = .str z → z.length ≤ 1000) ∧ ∀ H', Same H H' → Q (.bl (nameV v)) H'
section
variable {P : Program} {w : World} {K : PySem.W.Frag} {mg : Str → Option Value} {base : Heap} {f f1 : Addr} {fd fd1 : FuncData}
theorem ok_name (F : Fun K "is_name" "is_name" sName f fd) (T : Bn mg) (C : Cn K mg) (D_is_within : Df K mg "is_within" sWithin f1 fd1 ["value", "least", "most"]) (G_is_within : FnOk P w K mg base CX0 2 f1 fd1 ["value", "least", "most"] (spWithin K)) : FnOk P w K mg base CX0 3 f fd ["value"] (spName K) := by
  refine F.ok scName (fun vs H Q E h => ?_) (fun cdv A outer s H vs Q E hr h => ?_)
  · obtain ⟨v, n, rfl, _⟩ := h
    rfl
  obtain ⟨v, n, rfl, hv, hz, q⟩ := h
  obtain ⟨tL, gL⟩ := C.lets
  obtain ⟨tD, gD⟩ := C.digs
  obtain ⟨tM, gM⟩ := C.long
  obtain ⟨aN, gN, hN⟩ := C.nons
  refine ⟨_, (pss_cons (ps_if (PW.pt (pw_or (pt_not (pt_val (pe_callB call_isi (by rfl) T.b_isinstance (by decide +kernel) (pa_cons (pv 0) (pa_cons (pe_bltn (v := .ty "str") (u := .type "str") (by rfl) T.b_str (by decide +kernel) rfl) pa_nil))))) (pw_or1 (pt_cmpR op_in_seq (pv 0) (pe_glob (v := .ref aN) rfl gN rfl) (by rfl))))) (pss_one (ps_ret pe_bl)) pss_nil)
      (pss_cons (ps_if (PW.pt (pw_or (pt_not (pt_val (pe_cd D_is_within G_is_within hr (by decide) (pa_cons (pe_callB call_len_str (by rfl) T.b_len (by decide +kernel) (pa_cons (pv 0) pa_nil)) (pa_cons pe_int (pa_cons (pe_glob (v := .int 12) rfl gM ⟨_, rfl⟩) pa_nil)))))) (pw_or1 (pt_cmpR op_notIn_sign (pe_ix ix_str (pv 0) pe_int (fun _ _ => rfl)) (pe_glob (v := .str "abcdefghijklmnopqrstuvwxyz") rfl gL ⟨_, rfl⟩) (by rfl))))) (pss_one (ps_ret pe_bl)) pss_nil)
      (pss_one (ps_ret (pe_callB (cr_all rfl) (by rfl) T.b_all (by decide +kernel) (pa_cons (pe_lc (own := [("sign", 1)]) (g := gName 1) (by rfl) scName.nd (pi_str (pv 0)) (blkOk_by (own := [("sign", 1)]) (N := ["value", "sign"]) (sc := defScope sName) (by decide +kernel)) (fun _ _ _ _ _ => (pg_name (i := 1) scName.nd rfl (.inl rfl))) (fun _ _ _ _ _ => pts_nil) (fun _ _ _ _ _ => (pe_or (pe_cmpR op_in_sign (pv 1) (pe_glob (v := .str "abcdefghijklmnopqrstuvwxyz") rfl gL ⟨_, rfl⟩) (by rfl)) (pe_one (pe_cmpR op_in_sign (pv 1) (pe_glob (v := .str "0123456789") rfl gD ⟨_, rfl⟩) (by rfl)))))) pa_nil)))))), ?_⟩
  refine ⟨_, rfl, v, _, _, _, _, rfl, .ty "str", hv.1, kit_str hv.2, _, rfl, ?_⟩
  rw [hv.isStr]
  cases e : strV v with
  | false =>
    have : nameV v = false := by cases v <;> first | rfl | cases e
    rw [this] at q
    exact iteT (iteT (q _ (Same.refl H)))
  | true =>
    obtain ⟨z, rfl⟩ : ∃ z, v = .str z := by cases v <;> first | exact ⟨_, rfl⟩ | cases e
    have hl := hz z rfl
    have hl2 : z.length ≤ sizeLine := Nat.le_of_lt (small1000 hl)
    have ec : z.length = z.cps.toList.length := by simp [Str.length]
    refine iteF ⟨_, rfl, aN, _, rfl, .inr (hN _), rfl, rfl, _, rfl, ?_⟩
    have qv : ∀ b, nameB z = b → ∀ H', Same H H' → Q (.bl b) H' := fun b hb H' s => by
      have := q H' s
      rw [show nameV (.str z) = b from hb] at this
      exact this
    cases e1 : inV (.str z) [.str "of", .str "to"] with
    | true =>
      refine iteT (qv false ?_ _ (Same.refl H))
      unfold nameB
      rw [e1]
      rfl
    | false =>
      refine iteF ?_
      refine ⟨_, rfl, z, rfl, hl2, .int z.length, .int 1, .int 12, "int", rfl, HasTy.int _, .inr ⟨1, rfl⟩, .inr ⟨12, rfl⟩, _, rfl, ?_⟩
      cases e2 : withinV (.int (z.length : Int)) (.int 1) (.int 12) with
      | false =>
        refine iteT (iteT (qv false ?_ _ (Same.refl H)))
        unfold nameB
        rw [e1, e2]
        rfl
      | true =>
        obtain ⟨c, r, er⟩ : ∃ c r, z.cps.toList = c :: r := by
          cases er : z.cps.toList with
          | nil =>
            rw [er] at ec
            rw [ec] at e2
            exact absurd e2 (by decide)
          | cons c r => exact ⟨c, r, rfl⟩
        refine iteF ⟨_, rfl, z, 0, c, rfl, rfl, hl2, by rw [er]; exact atI_nat (j := 0) rfl, c, _, rfl, rfl, _, rfl, ?_⟩
        cases e3 : letC c with
        | false =>
          have e3' : decide (c ∈ ("abcdefghijklmnopqrstuvwxyz" : Str).cps.toList) = false := e3
          rw [e3']
          refine iteT (qv false ?_ _ (Same.refl H))
          unfold nameB
          rw [e1, e2, er]
          show (true && (true && (letC c && _))) = false
          rw [e3]
          rfl
        | true =>
          have e3' : decide (c ∈ ("abcdefghijklmnopqrstuvwxyz" : Str).cps.toList) = true := e3
          rw [e3']
          refine iteF ?_
          refine ⟨_, rfl, z, rfl, fun D hD => ?_⟩
          refine lc_it walk_str (fun i H2 => Same H H2 ∧ H2 D = some (.lst ((z.cps.toList.map fun c => V.bl (letC c || digC c)).take i))) ?_ (fun _ _ _ _ => trivial) ?_ ?_
          · exact ⟨same_new hD, by rw [upd_same, List.take_zero]⟩
          · rintro i x H2 H3 hi ⟨s2, h3⟩ ⟨rfl, c, hc, rfl⟩
            have hc' : z.cps.toList[i]? = some c := by rw [← hc]; simp
            have fin : ∃ acc, H3 D = some (.lst acc) ∧ acc.length < sizeLine ∧ Same H (upd H3 D (.lst (acc ++ [V.bl (letC c || digC c)]))) ∧ (upd H3 D (.lst (acc ++ [V.bl (letC c || digC c)]))) D = some (.lst ((z.cps.toList.map fun c => V.bl (letC c || digC c)).take (i + 1))) := by
              refine ⟨_, h3, ?_, ?_, ?_⟩
              · rw [List.length_take, List.length_map, ← ec]
                exact small1000 (by omega)
              · intro y o hy
                rw [upd_ne (ne_of_none hy hD)]
                exact s2 y o hy
              · rw [upd_same, take_snoc (x := V.bl (letC c || digC c)) (by rw [List.getElem?_map, hc']; rfl)]
            refine ⟨rfl, _, rfl, c, _, rfl, rfl, _, rfl, ?_⟩
            by_cases q1 : letC c = true
            · rw [show decide (c ∈ ("abcdefghijklmnopqrstuvwxyz" : Str).cps.toList) = true from q1]
              refine iteT ?_
              rw [q1, Bool.true_or] at fin
              exact fin
            · have q1 : letC c = false := by simpa using q1
              rw [show decide (c ∈ ("abcdefghijklmnopqrstuvwxyz" : Str).cps.toList) = false from q1]
              refine iteF ⟨_, rfl, c, _, rfl, rfl, ?_⟩
              rw [q1, Bool.false_or] at fin
              exact fin
          · rintro H2 ⟨s2, h3⟩
            rw [List.take_of_length_le (by rw [List.length_map]; simp)] at h3
            refine ⟨D, z.cps.toList.map fun c => letC c || digC c, rfl, SqL.of (by rw [h3, List.map_map]; rfl), ?_⟩
            refine qv _ ?_ _ s2
            unfold nameB
            rw [e1, e2, List.all_map]
            show (true && (true && (headC z.cps.toList && _))) = _
            rw [er]
            show (true && (true && (letC c && _))) = _
            rw [e3]
            rfl
end
end TA
namespace TA
open PySem PySem.Spec L2
open PyProof.Rows hiding St
/-- __init__ of an error with one field -/
def spF1 (K : PySem.W.Frag) (g : Str) : Sp := fun vs H Q _ => ∃ (a C : Addr) (v : V), vs = [.ref a, v] ∧ OexC K C ∧ PySem.W.findIn K (.ref C) g = some none ∧ H a = some (exo a C none) ∧
  ∀ dx, H dx = none → dx ≠ a → Q .non (upd (upd H dx (exd dx [(g, v)])) a (exo a C (some dx)))
/-- with two -/
def spF2 (K : PySem.W.Frag) (g1 g2 : Str) : Sp := fun vs H Q _ => ∃ (a C : Addr) (v1 v2 : V), vs = [.ref a, v1, v2] ∧ OexC K C ∧ PySem.W.findIn K (.ref C) g1 = some none ∧ PySem.W.findIn K (.ref C) g2 = some none ∧ H a = some (exo a C none) ∧
  ∀ (dx : Addr) (H' : Hp), H dx = none → dx ≠ a → H' a = some (exo a C (some dx)) → H' dx = some (exd dx [(g2, v2), (g1, v1)]) → (∀ b o, b ≠ a → H b = some o → H' b = some o) → Q .non H'
abbrev iW : Stmt := inClass (top 11) 0
abbrev iK : Stmt := inClass (top 12) 0
abbrev iN : Stmt := inClass (top 13) 0
abbrev iT : Stmt := inClass (top 14) 0
abbrev iF : Stmt := inClass (top 15) 0
abbrev iM : Stmt := inClass (top 16) 0
abbrev iP : Stmt := inClass (top 17) 0
abbrev iO : Stmt := inClass (top 18) 0
abbrev iI : Stmt := inClass (top 19) 0
abbrev iX : Stmt := inClass (top 20) 0
abbrev iB : Stmt := inClass (top 21) 0
section
variable {P : Program} {w : World} {K : PySem.W.Frag} {mg : Str → Option Value} {base : Heap} {f fM : Addr} {fd fdM : FuncData}
theorem ok_iW (F : Fun K "__init__" "BadWriting.__init__" iW f fd) : FnOk P w K mg base CX0 1 f fd ["self", "part"] (spF1 K "part") := by
  have sc : FnScope ["self", "part"] ["self", "part"] (defScope iW) := ⟨rfl, rfl, rfl, by decide +kernel, rfl, by decide +kernel, by decide +kernel⟩
  refine F.ok sc (fun vs H Q E h => ?_) (fun cdv A outer s H vs Q E hr h => ?_)
  · obtain ⟨a, C, v, rfl, _⟩ := h
    rfl
  obtain ⟨a, C, v, rfl, T, hf, ha, q⟩ := h
  refine ⟨_, (pss_one (ps_ost (pv 0) (pv 1))), ?_⟩
  exact ⟨_, rfl, _, rfl, a, C, rfl, T, hf, .inl ⟨ha, fun dx hd hne => q dx hd hne⟩⟩
theorem ok_iK (F : Fun K "__init__" "BadKind.__init__" iK f fd) : FnOk P w K mg base CX0 1 f fd ["self", "part"] (spF1 K "part") := by
  have sc : FnScope ["self", "part"] ["self", "part"] (defScope iK) := ⟨rfl, rfl, rfl, by decide +kernel, rfl, by decide +kernel, by decide +kernel⟩
  refine F.ok sc (fun vs H Q E h => ?_) (fun cdv A outer s H vs Q E hr h => ?_)
  · obtain ⟨a, C, v, rfl, _⟩ := h
    rfl
  obtain ⟨a, C, v, rfl, T, hf, ha, q⟩ := h
  refine ⟨_, (pss_one (ps_ost (pv 0) (pv 1))), ?_⟩
  exact ⟨_, rfl, _, rfl, a, C, rfl, T, hf, .inl ⟨ha, fun dx hd hne => q dx hd hne⟩⟩
theorem ok_iN (F : Fun K "__init__" "BadNumber.__init__" iN f fd) : FnOk P w K mg base CX0 1 f fd ["self", "part"] (spF1 K "part") := by
  have sc : FnScope ["self", "part"] ["self", "part"] (defScope iN) := ⟨rfl, rfl, rfl, by decide +kernel, rfl, by decide +kernel, by decide +kernel⟩
  refine F.ok sc (fun vs H Q E h => ?_) (fun cdv A outer s H vs Q E hr h => ?_)
  · obtain ⟨a, C, v, rfl, _⟩ := h
    rfl
  obtain ⟨a, C, v, rfl, T, hf, ha, q⟩ := h
  refine ⟨_, (pss_one (ps_ost (pv 0) (pv 1))), ?_⟩
  exact ⟨_, rfl, _, rfl, a, C, rfl, T, hf, .inl ⟨ha, fun dx hd hne => q dx hd hne⟩⟩
theorem ok_iT (F : Fun K "__init__" "BadTable.__init__" iT f fd) : FnOk P w K mg base CX0 1 f fd ["self", "part"] (spF1 K "part") := by
  have sc : FnScope ["self", "part"] ["self", "part"] (defScope iT) := ⟨rfl, rfl, rfl, by decide +kernel, rfl, by decide +kernel, by decide +kernel⟩
  refine F.ok sc (fun vs H Q E h => ?_) (fun cdv A outer s H vs Q E hr h => ?_)
  · obtain ⟨a, C, v, rfl, _⟩ := h
    rfl
  obtain ⟨a, C, v, rfl, T, hf, ha, q⟩ := h
  refine ⟨_, (pss_one (ps_ost (pv 0) (pv 1))), ?_⟩
  exact ⟨_, rfl, _, rfl, a, C, rfl, T, hf, .inl ⟨ha, fun dx hd hne => q dx hd hne⟩⟩
theorem ok_iF (F : Fun K "__init__" "Misfit.__init__" iF f fd) : FnOk P w K mg base CX0 1 f fd ["self", "part"] (spF1 K "part") := by
  have sc : FnScope ["self", "part"] ["self", "part"] (defScope iF) := ⟨rfl, rfl, rfl, by decide +kernel, rfl, by decide +kernel, by decide +kernel⟩
  refine F.ok sc (fun vs H Q E h => ?_) (fun cdv A outer s H vs Q E hr h => ?_)
  · obtain ⟨a, C, v, rfl, _⟩ := h
    rfl
  obtain ⟨a, C, v, rfl, T, hf, ha, q⟩ := h
  refine ⟨_, (pss_one (ps_ost (pv 0) (pv 1))), ?_⟩
  exact ⟨_, rfl, _, rfl, a, C, rfl, T, hf, .inl ⟨ha, fun dx hd hne => q dx hd hne⟩⟩
theorem ok_iM (F : Fun K "__init__" "Missing.__init__" iM f fd) : FnOk P w K mg base CX0 1 f fd ["self", "value"] (spF1 K "value") := by
  have sc : FnScope ["self", "value"] ["self", "value"] (defScope iM) := ⟨rfl, rfl, rfl, by decide +kernel, rfl, by decide +kernel, by decide +kernel⟩
  refine F.ok sc (fun vs H Q E h => ?_) (fun cdv A outer s H vs Q E hr h => ?_)
  · obtain ⟨a, C, v, rfl, _⟩ := h
    rfl
  obtain ⟨a, C, v, rfl, T, hf, ha, q⟩ := h
  refine ⟨_, (pss_one (ps_ost (pv 0) (pv 1))), ?_⟩
  exact ⟨_, rfl, _, rfl, a, C, rfl, T, hf, .inl ⟨ha, fun dx hd hne => q dx hd hne⟩⟩
theorem ok_iI (F : Fun K "__init__" "Impossible.__init__" iI f fd) : FnOk P w K mg base CX0 1 f fd ["self", "paper"] (spF1 K "paper") := by
  have sc : FnScope ["self", "paper"] ["self", "paper"] (defScope iI) := ⟨rfl, rfl, rfl, by decide +kernel, rfl, by decide +kernel, by decide +kernel⟩
  refine F.ok sc (fun vs H Q E h => ?_) (fun cdv A outer s H vs Q E hr h => ?_)
  · obtain ⟨a, C, v, rfl, _⟩ := h
    rfl
  obtain ⟨a, C, v, rfl, T, hf, ha, q⟩ := h
  refine ⟨_, (pss_one (ps_ost (pv 0) (pv 1))), ?_⟩
  exact ⟨_, rfl, _, rfl, a, C, rfl, T, hf, .inl ⟨ha, fun dx hd hne => q dx hd hne⟩⟩
theorem ok_iX (F : Fun K "__init__" "TooMany.__init__" iX f fd) : FnOk P w K mg base CX0 1 f fd ["self", "what", "most"] (spF2 K "what" "most") := by
  have sc : FnScope ["self", "what", "most"] ["self", "what", "most"] (defScope iX) := ⟨rfl, rfl, rfl, by decide +kernel, rfl, by decide +kernel, by decide +kernel⟩
  refine F.ok sc (fun vs H Q E h => ?_) (fun cdv A outer s H vs Q E hr h => ?_)
  · obtain ⟨a, C, v, v2, rfl, _⟩ := h
    rfl
  obtain ⟨a, C, v, v2, rfl, T, hf, hf2, ha, q⟩ := h
  refine ⟨_, (pss_cons (ps_ost (pv 0) (pv 1))
      (pss_one (ps_ost (pv 0) (pv 2)))), ?_⟩
  refine ⟨_, rfl, _, rfl, a, C, rfl, T, hf, .inl ⟨ha, fun dx hd hne => ?_⟩⟩
  have e1 : (upd (upd H dx (exd dx [("what", v)])) a (exo a C (some dx))) a = some (exo a C (some dx)) := upd_same
  have e2 : (upd (upd H dx (exd dx [("what", v)])) a (exo a C (some dx))) dx = some (exd dx [("what", v)]) := by rw [upd_ne hne, upd_same]
  refine ⟨_, rfl, _, rfl, a, C, rfl, T, hf2, .inr ⟨dx, _, e1, e2, (by show 1 ≤ 900; decide), ?_⟩⟩
  refine q dx _ hd hne (by rw [upd_ne (Ne.symm hne)]; exact e1) upd_same fun b o hb e => ?_
  rw [upd_ne (ne_of_none e hd), upd_ne hb, upd_ne (ne_of_none e hd)]
  exact e
theorem ok_iB (F : Fun K "__init__" "BadText.__init__" iB f fd) : FnOk P w K mg base CX0 1 f fd ["self", "line", "item"] (spF2 K "line" "item") := by
  have sc : FnScope ["self", "line", "item"] ["self", "line", "item"] (defScope iB) := ⟨rfl, rfl, rfl, by decide +kernel, rfl, by decide +kernel, by decide +kernel⟩
  refine F.ok sc (fun vs H Q E h => ?_) (fun cdv A outer s H vs Q E hr h => ?_)
  · obtain ⟨a, C, v, v2, rfl, _⟩ := h
    rfl
  obtain ⟨a, C, v, v2, rfl, T, hf, hf2, ha, q⟩ := h
  refine ⟨_, (pss_cons (ps_ost (pv 0) (pv 1))
      (pss_one (ps_ost (pv 0) (pv 2)))), ?_⟩
  refine ⟨_, rfl, _, rfl, a, C, rfl, T, hf, .inl ⟨ha, fun dx hd hne => ?_⟩⟩
  have e1 : (upd (upd H dx (exd dx [("line", v)])) a (exo a C (some dx))) a = some (exo a C (some dx)) := upd_same
  have e2 : (upd (upd H dx (exd dx [("line", v)])) a (exo a C (some dx))) dx = some (exd dx [("line", v)]) := by rw [upd_ne hne, upd_same]
  refine ⟨_, rfl, _, rfl, a, C, rfl, T, hf2, .inr ⟨dx, _, e1, e2, (by show 1 ≤ 900; decide), ?_⟩⟩
  refine q dx _ hd hne (by rw [upd_ne (Ne.symm hne)]; exact e1) upd_same fun b o hb e => ?_
  rw [upd_ne (ne_of_none e hd), upd_ne hb, upd_ne (ne_of_none e hd)]
  exact e
theorem ok_iP (F : Fun K "__init__" "NoPlace.__init__" iP f fd) {mB : Addr} {mc : Value} (gMi : mg "Missing" = some (.ref mB)) (cM : CDef K mB mc "__init__" fM) (GM : FnOk P w K mg base CX0 1 fM fdM ["self", "value"] (spF1 K "value")) (kM : PySem.W.keepIn K (.ref fM) = true) (bM : Binds K fdM ["self", "value"] []) :
    FnOk P w K mg base CX0 2 f fd ["self", "value"] (spF1 K "value") := by
  have sc : FnScope ["self", "value"] ["self", "value"] (defScope iP) := ⟨rfl, rfl, rfl, by decide +kernel, rfl, by decide +kernel, by decide +kernel⟩
  refine F.ok sc (fun vs H Q E h => ?_) (fun cdv A outer s H vs Q E hr h => ?_)
  · obtain ⟨a, C, v, rfl, _⟩ := h
    rfl
  obtain ⟨a, C, v, rfl, T, hf, ha, q⟩ := h
  refine ⟨_, (pss_one (ps_expr (pe_cdef (pe_glob (v := .ref mB) rfl gMi rfl) cM GM hr kM bM .nil pass0 (pa_cons (pv 0) (pa_cons (pv 1) pa_nil))))), ?_⟩
  exact ⟨rfl, _, rfl, _, rfl, a, C, v, rfl, T, hf, ha, fun dx hd hne => q dx hd hne⟩
theorem ok_iO (F : Fun K "__init__" "NoName.__init__" iO f fd) {mB : Addr} {mc : Value} (gMi : mg "Missing" = some (.ref mB)) (cM : CDef K mB mc "__init__" fM) (GM : FnOk P w K mg base CX0 1 fM fdM ["self", "value"] (spF1 K "value")) (kM : PySem.W.keepIn K (.ref fM) = true) (bM : Binds K fdM ["self", "value"] []) :
    FnOk P w K mg base CX0 2 f fd ["self", "value"] (spF1 K "value") := by
  have sc : FnScope ["self", "value"] ["self", "value"] (defScope iO) := ⟨rfl, rfl, rfl, by decide +kernel, rfl, by decide +kernel, by decide +kernel⟩
  refine F.ok sc (fun vs H Q E h => ?_) (fun cdv A outer s H vs Q E hr h => ?_)
  · obtain ⟨a, C, v, rfl, _⟩ := h
    rfl
  obtain ⟨a, C, v, rfl, T, hf, ha, q⟩ := h
  refine ⟨_, (pss_one (ps_expr (pe_cdef (pe_glob (v := .ref mB) rfl gMi rfl) cM GM hr kM bM .nil pass0 (pa_cons (pv 0) (pa_cons (pv 1) pa_nil))))), ?_⟩
  exact ⟨rfl, _, rfl, _, rfl, a, C, v, rfl, T, hf, ha, fun dx hd hne => q dx hd hne⟩
end
end TA
namespace TA
open PySem PySem.Spec L2
open PyProof.Rows hiding St
/-- the ten classes of errors that are made, and the two above them -/
structure Ecs (K : PySem.W.Frag) (mg : Str → Option Value) (c : Nat → Addr) (aB mB : Addr) : Prop where
  x : ∀ i, i < 10 → XCl K (c i)
  xM : XCl K mB
  g0 : mg "BadWriting" = some (.ref (c 0))
  g1 : mg "BadKind" = some (.ref (c 1))
  g2 : mg "BadNumber" = some (.ref (c 2))
  g3 : mg "BadTable" = some (.ref (c 3))
  g4 : mg "Misfit" = some (.ref (c 4))
  g5 : mg "NoPlace" = some (.ref (c 5))
  g6 : mg "NoName" = some (.ref (c 6))
  g7 : mg "Impossible" = some (.ref (c 7))
  g8 : mg "TooMany" = some (.ref (c 8))
  g9 : mg "BadText" = some (.ref (c 9))
  gA : mg "AgainError" = some (.ref aB)
  gM : mg "Missing" = some (.ref mB)
  kA : ∀ i, i < 10 → PySem.W.kitOne K (.ref (c i)) (.ref aB) = some true
  kV : ∀ i, i < 10 → PySem.W.kitOne K (.ref (c i)) (.type "ValueError") = some true
  kM : ∀ i, i < 10 → PySem.W.kitOne K (.ref (c i)) (.ref mB) = some (i == 5 || i == 6)
  kO : ∀ i j, i < 10 → j < 10 → PySem.W.kitOne K (.ref (c i)) (.ref (c j)) = some (i == j)
  kB : ∀ i, i < 10 → PySem.W.kitAny K (.ref (c i)) [.type "LookupError", .type "TypeError", .type "ArithmeticError", .type "AttributeError", .type "RuntimeError"] = some false
  mA : PySem.W.kitOne K (.ref mB) (.ref aB) = some true
  m5 : PySem.W.kitOne K (.ref mB) (.ref (c 5)) = some false
  m6 : PySem.W.kitOne K (.ref mB) (.ref (c 6)) = some false
theorem ErrAt.same {H H' : Hp} {a C : Addr} {fs : List (Str × V)} (h : ErrAt H a C fs) (s : Same H H') : ErrAt H' a C fs := h.keep fun b o e _ => s b o e
abbrev sClasses : Stmt := top 27
abbrev sOnly : Stmt := top 28
theorem scClasses : FnScope ["error", "told"] ["error"] (defScope sClasses) := ⟨rfl, rfl, rfl, by decide +kernel, rfl, by decide +kernel, by decide +kernel⟩
theorem scOnly : FnScope ["error", "at", "spot"] ["error", "at"] (defScope sOnly) := ⟨rfl, rfl, rfl, by decide +kernel, rfl, by decide +kernel, by decide +kernel⟩
def rowB (i : Nat) : List V := (List.range 10).map fun j => V.bl (i == j)
def spClasses (c : Nat → Addr) : Sp := fun vs H Q _ => ∃ (a : Addr) (i : Nat) (fs : List (Str × V)), vs = [.ref a] ∧ i < 10 ∧ ErrAt H a (c i) fs ∧
  ∀ (l : Addr) (H' : Hp), H l = none → Same H H' → H' l = some (.lst (rowB i)) → Q (.ref l) H'
def spOnly (c : Nat → Addr) : Sp := fun vs H Q _ => ∃ (a : Addr) (i : Nat) (fs : List (Str × V)), vs = [.ref a, .int (i : Int)] ∧ i < 10 ∧ ErrAt H a (c i) fs ∧ ∀ (H' : Hp), Same H H' → Q (.bl true) H'
theorem eqIs_bools : ∀ bs : List Bool, EqIs (bs.map V.bl) (bs.map V.bl) (bs.map fun _ => true)
  | [] => .nil
  | b :: r => .cons (.same _ (.inl rfl)) (eqIs_bools r)
section
variable {P : Program} {w : World} {K : PySem.W.Frag} {mg : Str → Option Value} {base : Heap} {f f1 : Addr} {fd fd1 : FuncData} {c : Nat → Addr} {aB mB : Addr}
theorem ok_classes (F : Fun K "_law_classes" "_law_classes" sClasses f fd) (T : Bn mg) (Z : Ecs K mg c aB mB) : FnOk P w K mg base CX0 1 f fd ["error"] (spClasses c) := by
  refine F.ok scClasses (fun vs H Q E h => ?_) (fun cdv A outer s H vs Q E hr h => ?_)
  · obtain ⟨a, i, fs, rfl, _⟩ := h
    rfl
  obtain ⟨a, i, fs, rfl, hi, hE, q⟩ := h
  have X := Z.x i hi
  refine ⟨_, (pss_cons (ps_set (i := 1) scClasses.nd rfl (.inl rfl) (pe_lst (pa_cons (pe_callB call_err (by rfl) T.b_isinstance (by decide +kernel) (pa_cons (pv 0) (pa_cons (pe_glob (v := .ref (c 0)) rfl Z.g0 rfl) pa_nil))) (pa_cons (pe_callB call_err (by rfl) T.b_isinstance (by decide +kernel) (pa_cons (pv 0) (pa_cons (pe_glob (v := .ref (c 1)) rfl Z.g1 rfl) pa_nil))) (pa_cons (pe_callB call_err (by rfl) T.b_isinstance (by decide +kernel) (pa_cons (pv 0) (pa_cons (pe_glob (v := .ref (c 2)) rfl Z.g2 rfl) pa_nil))) (pa_cons (pe_callB call_err (by rfl) T.b_isinstance (by decide +kernel) (pa_cons (pv 0) (pa_cons (pe_glob (v := .ref (c 3)) rfl Z.g3 rfl) pa_nil))) pa_nil))))))
      (pss_cons (ps_set (i := 1) scClasses.nd rfl (.inl rfl) (pe_op op_cat (pv 1) (pe_lst (pa_cons (pe_callB call_err (by rfl) T.b_isinstance (by decide +kernel) (pa_cons (pv 0) (pa_cons (pe_glob (v := .ref (c 4)) rfl Z.g4 rfl) pa_nil))) (pa_cons (pe_callB call_err (by rfl) T.b_isinstance (by decide +kernel) (pa_cons (pv 0) (pa_cons (pe_glob (v := .ref (c 5)) rfl Z.g5 rfl) pa_nil))) (pa_cons (pe_callB call_err (by rfl) T.b_isinstance (by decide +kernel) (pa_cons (pv 0) (pa_cons (pe_glob (v := .ref (c 6)) rfl Z.g6 rfl) pa_nil))) (pa_cons (pe_callB call_err (by rfl) T.b_isinstance (by decide +kernel) (pa_cons (pv 0) (pa_cons (pe_glob (v := .ref (c 7)) rfl Z.g7 rfl) pa_nil))) pa_nil)))))))
      (pss_one (ps_ret (pe_op op_cat (pv 1) (pe_lst (pa_cons (pe_callB call_err (by rfl) T.b_isinstance (by decide +kernel) (pa_cons (pv 0) (pa_cons (pe_glob (v := .ref (c 8)) rfl Z.g8 rfl) pa_nil))) (pa_cons (pe_callB call_err (by rfl) T.b_isinstance (by decide +kernel) (pa_cons (pv 0) (pa_cons (pe_glob (v := .ref (c 9)) rfl Z.g9 rfl) pa_nil))) pa_nil)))))))), ?_⟩
  refine ⟨_, rfl, a, _, fs, _, _, _, rfl, hE, X, .own (c 0), Z.kO i 0 hi (by decide), ?_⟩
  refine ⟨_, rfl, a, _, fs, _, _, _, rfl, hE, X, .own (c 1), Z.kO i 1 hi (by decide), ?_⟩
  refine ⟨_, rfl, a, _, fs, _, _, _, rfl, hE, X, .own (c 2), Z.kO i 2 hi (by decide), ?_⟩
  refine ⟨_, rfl, a, _, fs, _, _, _, rfl, hE, X, .own (c 3), Z.kO i 3 hi (by decide), ?_⟩
  refine ⟨(by show 4 ≤ sizeLine; decide), fun l1 h1 => ?_⟩
  have s1 := same_new (o := .lst [.bl (i == 0), .bl (i == 1), .bl (i == 2), .bl (i == 3)]) h1
  have hE1 := hE.same s1
  refine ⟨_, rfl, ?_⟩
  refine ⟨_, rfl, a, _, fs, _, _, _, rfl, hE1, X, .own (c 4), Z.kO i 4 hi (by decide), ?_⟩
  refine ⟨_, rfl, a, _, fs, _, _, _, rfl, hE1, X, .own (c 5), Z.kO i 5 hi (by decide), ?_⟩
  refine ⟨_, rfl, a, _, fs, _, _, _, rfl, hE1, X, .own (c 6), Z.kO i 6 hi (by decide), ?_⟩
  refine ⟨_, rfl, a, _, fs, _, _, _, rfl, hE1, X, .own (c 7), Z.kO i 7 hi (by decide), ?_⟩
  refine ⟨(by show 4 ≤ sizeLine; decide), fun l2 h2 => ?_⟩
  have s2 := same_new (o := .lst [.bl (i == 4), .bl (i == 5), .bl (i == 6), .bl (i == 7)]) h2
  refine ⟨l1, l2, _, _, rfl, rfl, s2 _ _ upd_same, upd_same, (by show 8 ≤ sizeLine; decide), fun l3 h3 => ?_⟩
  have s3 := same_new (o := .lst ([.bl (i == 0), .bl (i == 1), .bl (i == 2), .bl (i == 3)] ++ [.bl (i == 4), .bl (i == 5), .bl (i == 6), .bl (i == 7)])) h3
  have hE3 := (hE1.same s2).same s3
  refine ⟨_, rfl, ?_⟩
  refine ⟨_, rfl, a, _, fs, _, _, _, rfl, hE3, X, .own (c 8), Z.kO i 8 hi (by decide), ?_⟩
  refine ⟨_, rfl, a, _, fs, _, _, _, rfl, hE3, X, .own (c 9), Z.kO i 9 hi (by decide), ?_⟩
  refine ⟨(by show 2 ≤ sizeLine; decide), fun l4 h4 => ?_⟩
  have s4 := same_new (o := .lst [.bl (i == 8), .bl (i == 9)]) h4
  refine ⟨l3, l4, _, _, rfl, rfl, s4 _ _ upd_same, upd_same, (by show 10 ≤ sizeLine; decide), fun l5 h5 => ?_⟩
  have s0 := s1.trans (s2.trans (s3.trans s4))
  exact q l5 _ (s0.free h5) (s0.trans (same_new h5)) upd_same
theorem in56 {i : Nat} (hi : i < 10) : inV (.int (i : Int)) [.int 5, .int 6] = (i == 5 || i == 6) := by
  show ((5 : Int) == (i : Int) || ((6 : Int) == (i : Int) || false)) = (i == 5 || i == 6)
  rw [Bool.or_false]
  by_cases h5 : i = 5
  · subst h5; rfl
  · by_cases h6 : i = 6
    · subst h6; rfl
    · have a1 : ((5 : Int) == (i : Int)) = false := by simp; omega
      have a2 : ((6 : Int) == (i : Int)) = false := by simp; omega
      have a3 : (i == 5) = false := by simp; omega
      have a4 : (i == 6) = false := by simp; omega
      rw [a1, a2, a3, a4]
theorem ok_only (F : Fun K "_law_is_only" "_law_is_only" sOnly f fd) (T : Bn mg) (Z : Ecs K mg c aB mB) (D__law_classes : Df K mg "_law_classes" sClasses f1 fd1 ["error"]) (G__law_classes : FnOk P w K mg base CX0 1 f1 fd1 ["error"] (spClasses c)) : FnOk P w K mg base CX0 2 f fd ["error", "at"] (spOnly c) := by
  refine F.ok scOnly (fun vs H Q E h => ?_) (fun cdv A outer s H vs Q E hr h => ?_)
  · obtain ⟨a, i, fs, rfl, _⟩ := h
    rfl
  obtain ⟨a, i, fs, rfl, hi, hE, q⟩ := h
  have X := Z.x i hi
  refine ⟨_, (pss_cons (ps_if (PW.pt (pw_or (pt_not (pt_val (pe_callB call_err (by rfl) T.b_isinstance (by decide +kernel) (pa_cons (pv 0) (pa_cons (pe_glob (v := .ref aB) rfl Z.gA rfl) pa_nil))))) (pw_or (pt_not (pt_val (pe_callB call_err (by rfl) T.b_isinstance (by decide +kernel) (pa_cons (pv 0) (pa_cons (pe_bltn (v := .ty "ValueError") (u := .type "ValueError") (by rfl) T.b_ValueError (by decide +kernel) rfl) pa_nil))))) (pw_or1 (pt_cmpR op_ne (pe_callB call_err (by rfl) T.b_isinstance (by decide +kernel) (pa_cons (pv 0) (pa_cons (pe_glob (v := .ref mB) rfl Z.gM rfl) pa_nil))) (pe_cmpR op_in_seq (pv 1) (pe_tup (pa_cons pe_int (pa_cons pe_int pa_nil))) (by rfl)) (nomark _)))))) (pss_one (ps_ret pe_bl)) pss_nil)
      (pss_cons (ps_if (pt_val (pe_callB call_errT (by rfl) T.b_isinstance (by decide +kernel) (pa_cons (pv 0) (pa_cons (pe_tup (pa_cons (pe_bltn (v := .ty "LookupError") (u := .type "LookupError") (by rfl) T.b_LookupError (by decide +kernel) rfl) (pa_cons (pe_bltn (v := .ty "TypeError") (u := .type "TypeError") (by rfl) T.b_TypeError (by decide +kernel) rfl) (pa_cons (pe_bltn (v := .ty "ArithmeticError") (u := .type "ArithmeticError") (by rfl) T.b_ArithmeticError (by decide +kernel) rfl) (pa_cons (pe_bltn (v := .ty "AttributeError") (u := .type "AttributeError") (by rfl) T.b_AttributeError (by decide +kernel) rfl) (pa_cons (pe_bltn (v := .ty "RuntimeError") (u := .type "RuntimeError") (by rfl) T.b_RuntimeError (by decide +kernel) rfl) pa_nil)))))) pa_nil)))) (pss_one (ps_ret pe_bl)) pss_nil)
      (pss_one (ps_ret (pe_cmpR (op_eqL hr.units0) (pe_cd D__law_classes G__law_classes hr (by decide) (pa_cons (pv 0) pa_nil)) (pe_lc (own := [("spot", 2)]) (g := gName 2) (by rfl) scOnly.nd (pi_range1 (by rfl) T.b_range (pa_cons pe_int pa_nil)) (blkOk_by (own := [("spot", 2)]) (N := ["error", "at", "spot"]) (sc := defScope sOnly) (by decide +kernel)) (fun _ _ _ _ _ => (pg_name (i := 2) scOnly.nd rfl (.inl rfl))) (fun _ _ _ _ _ => pts_nil) (fun _ _ _ _ _ => (pe_cmpR op_eq (pv 2) (pv 1) (nomark _)))) (nomark _)))))), ?_⟩
  refine ⟨_, rfl, a, _, fs, _, _, _, rfl, hE, X, .own aB, Z.kA i hi, _, rfl, ?_⟩
  refine iteF ⟨_, rfl, a, _, fs, _, _, _, rfl, hE, X, .ty "ValueError", Z.kV i hi, _, rfl, ?_⟩
  refine iteF ⟨_, rfl, a, _, fs, _, _, _, rfl, hE, X, .own mB, Z.kM i hi, ?_⟩
  refine ⟨_, rfl, (by show 2 ≤ sizeLine; decide), fun tp htp => ?_⟩
  have s1 := same_new (o := .tup [.int 5, .int 6]) htp
  refine ⟨tp, _, rfl, .inr (SqT.of upd_same), rfl, rfl, rfl, _, rfl, ?_⟩
  refine ite2 (fun hc => ?_) (fun _ => ?_)
  · exfalso
    have e5 := in56 hi
    simp [e5] at hc
  refine ⟨_, rfl, (by show 5 ≤ sizeLine; decide), fun tq htq => ?_⟩
  have s2 := same_new (o := .tup [.ty "LookupError", .ty "TypeError", .ty "ArithmeticError", .ty "AttributeError", .ty "RuntimeError"]) htq
  refine ⟨a, _, fs, tq, _, _, _, rfl, (hE.same s1).same s2, X, upd_same, .cons (.ty _) (.cons (.ty _) (.cons (.ty _) (.cons (.ty _) (.cons (.ty _) .nil)))), Z.kB i hi, _, rfl, ?_⟩
  refine iteF ?_
  refine ⟨_, rfl, a, i, fs, rfl, hi, (hE.same s1).same s2, fun l H3 hl s3 hrow => ?_⟩
  have s0 := s1.trans (s2.trans s3)
  refine ⟨10, rfl, by decide, by decide, fun D hD => ?_⟩
  have nlD : l ≠ D := ne_of_none hrow hD
  refine lc_range (lo := 0) (n := 10) (fun j H4 => Same H H4 ∧ H4 l = some (.lst (rowB i)) ∧ H4 D = some (.lst ((rowB i).take j))) ?_ ?_ ?_
  · exact ⟨s0.trans (same_new hD), by rw [upd_ne nlD]; exact hrow, by rw [upd_same, List.take_zero]⟩
  · rintro j H4 hj ⟨s4, h4, h5⟩
    refine ⟨rfl, _, rfl, _, rfl, rfl, _, h5, ?_, ?_⟩
    · rw [List.length_take]
      exact small1000 (by unfold rowB; rw [List.length_map, List.length_range]; omega)
    · refine ⟨fun y o hy => ?_, by rw [upd_ne nlD]; exact h4, ?_⟩
      · rw [upd_ne (ne_of_none hy (s0.free hD))]
        exact s4 y o hy
      · have ej : decide (V.int (0 + (j : Int)) = V.int (i : Int)) = (i == j) := by
          by_cases e : i = j
          · subst e
            simp
          · have h1 : (i == j) = false := by simpa using e
            rw [h1]
            refine decide_eq_false fun z => e ?_
            have z1 := V.int.inj z
            omega
        rw [upd_same, take_snoc (x := V.bl (i == j)) (by unfold rowB; rw [List.getElem?_map, List.getElem?_range hj]; rfl)]
        show some (HO.lst (_ ++ [V.bl (decide (V.int (0 + (j : Int)) = V.int (i : Int)))])) = _
        rw [ej]
  rintro H4 ⟨s4, h4, h5⟩
  rw [List.take_of_length_le (by unfold rowB; rw [List.length_map, List.length_range]; exact Nat.le_refl _)] at h5
  refine ⟨l, D, _, _, rfl, rfl, SqL.of h4, SqL.of h5, .inr ⟨((List.range 10).map fun j => i == j).map fun _ => true, ?_, ?_⟩⟩
  · have := eqIs_bools ((List.range 10).map fun j => i == j)
    rw [List.map_map] at this
    exact this
  · have e : ((List.range 10).map fun j => i == j).map (fun _ => true) = List.replicate 10 true := rfl
    rw [e]
    exact q _ s4
end
end TA
namespace TA
open PySem PySem.Spec L2
open PyProof.Rows hiding St
theorem pe_imp {X : Cx} {e : Expr} {t t' : TE} (h : PE X e t) (k : ∀ σ H Q, t' σ H Q → t σ H Q) : PE X e t' := ⟨fun pins s σ H Q I q => h.run pins s σ H Q I (k σ H Q q)⟩
/-- C(v), C(g = v): an error with one field -/
def tMk1 (C : Addr) (g : Str) (t : TA) : TE := fun σ H Q => t σ H fun vs H1 => ∃ v, vs = [v] ∧ ∀ (a : Addr) (H' : Hp), H1 a = none → Same H1 H' → ErrAt H' a C [(g, v)] → Q (.ref a) H'
/-- two fields, v1 and v2 in the order of the parameters -/
def tMk2 (C : Addr) (g1 g2 : Str) (t : TA) : TE := fun σ H Q => t σ H fun vs H1 => ∃ v1 v2, vs = [v1, v2] ∧ ∀ (a : Addr) (H' : Hp), H1 a = none → Same H1 H' → ErrAt H' a C [(g2, v2), (g1, v1)] → Q (.ref a) H'
/-- .. told in the other order -/
def tMk2r (C : Addr) (g1 g2 : Str) (t : TA) : TE := fun σ H Q => t σ H fun vs H1 => ∃ v1 v2, vs = [v2, v1] ∧ ∀ (a : Addr) (H' : Hp), H1 a = none → Same H1 H' → ErrAt H' a C [(g2, v2), (g1, v1)] → Q (.ref a) H'
structure Mx (P : Program) (w : World) (K : PySem.W.Frag) (mg : Str → Option Value) (base : Heap) (x : Str) (C f : Addr) (fd : FuncData) (g : Str) (j : Nat) : Prop where
  xc : XCl K C
  i : PySem.W.findIn K (.ref C) "__init__" = some (some (.ref f))
  t : PySem.W.typeIn K (.ref f) = some (.type "function")
  G : FnOk P w K mg base CX0 j f fd ["self", g] (spF1 K g)
  n : PySem.W.findIn K (.ref C) g = some none
  m : mg x = some (.ref C)
  bp : KBn K fd ["self", g] 2 [] (fun us _ => us) (fun vs _ => vs)
  bk : KBn K fd ["self", g] 1 [g] (fun us ws => us ++ ws) (fun vs zs => vs ++ zs)
structure Mx2 (P : Program) (w : World) (K : PySem.W.Frag) (mg : Str → Option Value) (base : Heap) (x : Str) (C f : Addr) (fd : FuncData) (g1 g2 : Str) (j : Nat) : Prop where
  xc : XCl K C
  i : PySem.W.findIn K (.ref C) "__init__" = some (some (.ref f))
  t : PySem.W.typeIn K (.ref f) = some (.type "function")
  G : FnOk P w K mg base CX0 j f fd ["self", g1, g2] (spF2 K g1 g2)
  n1 : PySem.W.findIn K (.ref C) g1 = some none
  n2 : PySem.W.findIn K (.ref C) g2 = some none
  m : mg x = some (.ref C)
  bp : KBn K fd ["self", g1, g2] 3 [] (fun us _ => us) (fun vs _ => vs)
  bk : KBn K fd ["self", g1, g2] 1 [g2, g1] (fun us ws => us ++ ws.reverse) (fun vs zs => vs ++ zs.reverse)
theorem mk1_end {H1 : Hp} {a dx C : Addr} {g : Str} {v : V} (ha : H1 a = none) (hd : upd H1 a (exo a C none) dx = none) (hne : dx ≠ a) :
    Same H1 (upd (upd (upd H1 a (exo a C none)) dx (exd dx [(g, v)])) a (exo a C (some dx))) ∧ ErrAt (upd (upd (upd H1 a (exo a C none)) dx (exd dx [(g, v)])) a (exo a C (some dx))) a C [(g, v)] := by
  rw [upd_ne hne] at hd
  refine ⟨fun b o e => ?_, dx, upd_same, by rw [upd_ne hne, upd_same]⟩
  rw [upd_ne (ne_of_none e ha), upd_ne (ne_of_none e hd), upd_ne (ne_of_none e ha)]
  exact e
section
variable {X : Cx} {x g g1 g2 : Str} {C f : Addr} {fd : FuncData} {j : Nat} {p pos : Pos} {e e2 : Expr} {t tk : TA} {kws : List Keyword}
theorem pe_mk1p (M : Mx X.prog X.w X.K X.mg X.base x C f fd g j) (hr : Room (j + 1) X.A) (ha : PA X [e] t) (hg : Gl X x := by rfl) (hdb : (x == ("__debug__" : Str)) = false := by decide) (he : starEach [e] X.env = (false, eval e X.env) :: starEach [] X.env := by rfl) :
    PE X (.Call (.Name x p) [e] [] pos) (tMk1 C g t) := by
  refine ⟨fun pins s σ H Q I h => ?_⟩
  refine wpAny_Call_Name_kw (ld_glob I hg M.m ?_ hdb)
  refine PySem.W.callWith_K (h₀ := X.base) I.ok.mod.kin M.xc.o.kC (thn (ha.run pos pins s σ H _ I h) fun us s1 ⟨vs, H1, I1, r, v, ev, q⟩ => ⟨I1.kIn, ?_⟩) he (by rfl)
  subst ev
  refine run_mkx (us := us) (vs := [v]) (zs := []) (ws := []) (ks := []) M.xc.o M.i M.t M.G hr M.bp (n := 1) (by decide) I1 r .nil rfl rfl fun a ha' => ?_
  exact ⟨a, C, v, rfl, M.xc.o, M.n, upd_same, fun dx hd hne => ⟨rfl, q a _ ha' (mk1_end ha' hd hne).1 (mk1_end ha' hd hne).2⟩⟩
theorem pe_mk1k (M : Mx X.prog X.w X.K X.mg X.base x C f fd g j) (hr : Room (j + 1) X.A) (hkw : PK X kws tk) (hg : Gl X x := by rfl) (hall : (backToKw pos (keywordEach kws X.env)).all (·.1.isSome) = true := by rfl) (hks : (backToKw pos (keywordEach kws X.env)).filterMap (·.1) = [g] := by rfl)
    (hdb : (x == ("__debug__" : Str)) = false := by decide) (hpl : ((backTo pos (starEach [] X.env)).any (·.1) || (backToKw pos (keywordEach kws X.env)).any (·.1.isNone)) = false := by rfl) : PE X (.Call (.Name x p) [] kws pos) (tMk1 C g tk) := by
  refine ⟨fun pins s σ H Q I h => ?_⟩
  refine wpAny_Call_Name_kw (ld_glob I hg M.m ?_ hdb)
  refine PySem.W.callWith_KW0 (h₀ := X.base) I.ok.mod.kin M.xc.o.kC hall ?_ hpl
  refine thn (hkw.run pos pins s σ H _ I h) fun ws s2 ⟨zs, H2, I2, rz, v, ev, q⟩ => ⟨I2.kIn, ?_⟩
  subst ev
  rw [hks]
  refine run_mkx (us := []) (vs := []) (zs := [v]) (ks := [g]) M.xc.o M.i M.t M.G hr M.bk (n := 0) (by decide) I2 .nil rz rfl rfl fun a ha' => ?_
  exact ⟨a, C, v, rfl, M.xc.o, M.n, upd_same, fun dx hd hne => ⟨rfl, q a _ ha' (mk1_end ha' hd hne).1 (mk1_end ha' hd hne).2⟩⟩
theorem mk2_end {K : PySem.W.Frag} {H1 : Hp} {a : Addr} {v1 v2 : V} {Q : V → Hp → Prop} (T : OexC K C) (n1 : PySem.W.findIn K (.ref C) g1 = some none) (n2 : PySem.W.findIn K (.ref C) g2 = some none) (ha : H1 a = none)
    (q : ∀ (H' : Hp), Same H1 H' → ErrAt H' a C [(g2, v2), (g1, v1)] → Q (.ref a) H') : spF2 K g1 g2 [.ref a, v1, v2] (upd H1 a (exo a C none)) (fun v H3 => v = .non ∧ Q (.ref a) H3) E0 :=
  ⟨a, C, v1, v2, rfl, T, n1, n2, upd_same, fun dx H' hd hne e1 e2 k => ⟨rfl, q H' (fun b o e => k b o (ne_of_none e ha) (by rw [upd_ne (ne_of_none e ha)]; exact e)) ⟨dx, e1, e2⟩⟩⟩
theorem pe_mk2p (M : Mx2 X.prog X.w X.K X.mg X.base x C f fd g1 g2 j) (hr : Room (j + 1) X.A) (ha : PA X [e, e2] t) (hg : Gl X x := by rfl) (hdb : (x == ("__debug__" : Str)) = false := by decide) (he : starEach [e, e2] X.env = (false, eval e X.env) :: starEach [e2] X.env := by rfl)
    (hpl : (backTo pos (starEach [e2] X.env)).any (·.1) = false := by rfl) : PE X (.Call (.Name x p) [e, e2] [] pos) (tMk2 C g1 g2 t) := by
  refine ⟨fun pins s σ H Q I h => ?_⟩
  refine wpAny_Call_Name_kw (ld_glob I hg M.m ?_ hdb)
  refine PySem.W.callWith_K (h₀ := X.base) I.ok.mod.kin M.xc.o.kC (thn (ha.run pos pins s σ H _ I h) fun us s1 ⟨vs, H1, I1, r, v1, v2, ev, q⟩ => ⟨I1.kIn, ?_⟩) he hpl
  subst ev
  exact run_mkx (us := us) (vs := [v1, v2]) (zs := []) (ws := []) (ks := []) M.xc.o M.i M.t M.G hr M.bp (n := 2) (by decide) I1 r .nil rfl rfl fun a ha' => mk2_end M.xc.o M.n1 M.n2 ha' fun H' s e => q a H' ha' s e
theorem pe_mk2k (M : Mx2 X.prog X.w X.K X.mg X.base x C f fd g1 g2 j) (hr : Room (j + 1) X.A) (hkw : PK X kws tk) (hg : Gl X x := by rfl) (hall : (backToKw pos (keywordEach kws X.env)).all (·.1.isSome) = true := by rfl) (hks : (backToKw pos (keywordEach kws X.env)).filterMap (·.1) = [g2, g1] := by rfl)
    (hdb : (x == ("__debug__" : Str)) = false := by decide) (hpl : ((backTo pos (starEach [] X.env)).any (·.1) || (backToKw pos (keywordEach kws X.env)).any (·.1.isNone)) = false := by rfl) : PE X (.Call (.Name x p) [] kws pos) (tMk2r C g1 g2 tk) := by
  refine ⟨fun pins s σ H Q I h => ?_⟩
  refine wpAny_Call_Name_kw (ld_glob I hg M.m ?_ hdb)
  refine PySem.W.callWith_KW0 (h₀ := X.base) I.ok.mod.kin M.xc.o.kC hall ?_ hpl
  refine thn (hkw.run pos pins s σ H _ I h) fun ws s2 ⟨zs, H2, I2, rz, v1, v2, ev, q⟩ => ⟨I2.kIn, ?_⟩
  subst ev
  rw [hks]
  exact run_mkx (us := []) (vs := []) (zs := [v2, v1]) (ks := [g2, g1]) M.xc.o M.i M.t M.G hr M.bk (n := 0) (by decide) I2 .nil rz rfl rfl fun a ha' => mk2_end M.xc.o M.n1 M.n2 ha' fun H' s e => q a H' ha' s e
end
/-- the field of each class -/
def fld (i : Nat) : Str := if i < 5 then "part" else if i = 7 then "paper" else "value"
abbrev sByP : Stmt := top 29
abbrev sByN : Stmt := top 30
abbrev sField : Stmt := top 31
theorem scByP : FnScope ["one"] ["one"] (defScope sByP) := ⟨rfl, rfl, rfl, by decide +kernel, rfl, by decide +kernel, by decide +kernel⟩
theorem scByN : FnScope ["one", "made"] ["one"] (defScope sByN) := ⟨rfl, rfl, rfl, by decide +kernel, rfl, by decide +kernel, by decide +kernel⟩
theorem scField : FnScope ["error", "at"] ["error", "at"] (defScope sField) := ⟨rfl, rfl, rfl, by decide +kernel, rfl, by decide +kernel, by decide +kernel⟩
/-- at l: an error of each of the eight classes, with this field -/
def Made (c : Nat → Addr) (H : Hp) (l : Addr) (v : V) : Prop := ∃ es : List Addr, es.length = 8 ∧ H l = some (.lst (es.map V.ref)) ∧ ∀ i a, es[i]? = some a → ErrAt H a (c i) [(fld i, v)]
theorem Made.keep {c : Nat → Addr} {H H' : Hp} {l : Addr} {v : V} (h : Made c H l v) (s : Same H H') : Made c H' l v := by
  obtain ⟨es, h1, h2, h3⟩ := h
  exact ⟨es, h1, s _ _ h2, fun i a e => (h3 i a e).same s⟩
def spMade (c : Nat → Addr) : Sp := fun vs H Q _ => ∃ v, vs = [v] ∧ ∀ (l : Addr) (H' : Hp), H l = none → Same H H' → Made c H' l v → Q (.ref l) H'
def spField (c : Nat → Addr) : Sp := fun vs H Q _ => ∃ (a : Addr) (i : Nat) (v : V), vs = [.ref a, .int (i : Int)] ∧ i < 8 ∧ ErrAt H a (c i) [(fld i, v)] ∧ Q v H
section
variable {P : Program} {w : World} {K : PySem.W.Frag} {mg : Str → Option Value} {base : Heap} {f f0 f1 f2 f3 f4 f5 f6 f7 : Addr} {fd d0 d1 d2 d3 d4 d5 d6 d7 : FuncData} {c : Nat → Addr} {aB mB : Addr}
theorem made_at {c : Nat → Addr} {H : Hp} {l a0 a1 a2 a3 a4 a5 a6 a7 : Addr} {v : V} (hl : H l = some (.lst [.ref a0, .ref a1, .ref a2, .ref a3, .ref a4, .ref a5, .ref a6, .ref a7])) (h0 : ErrAt H a0 (c 0) [("part", v)]) (h1 : ErrAt H a1 (c 1) [("part", v)])
    (h2 : ErrAt H a2 (c 2) [("part", v)]) (h3 : ErrAt H a3 (c 3) [("part", v)]) (h4 : ErrAt H a4 (c 4) [("part", v)]) (h5 : ErrAt H a5 (c 5) [("value", v)]) (h6 : ErrAt H a6 (c 6) [("value", v)]) (h7 : ErrAt H a7 (c 7) [("paper", v)]) : Made c H l v := by
  refine ⟨[a0, a1, a2, a3, a4, a5, a6, a7], rfl, hl, fun i a e => ?_⟩
  match i, e with
  | 0, e => cases e; exact h0
  | 1, e => cases e; exact h1
  | 2, e => cases e; exact h2
  | 3, e => cases e; exact h3
  | 4, e => cases e; exact h4
  | 5, e => cases e; exact h5
  | 6, e => cases e; exact h6
  | 7, e => cases e; exact h7
  | i + 8, e => cases e
theorem ok_byP (F : Fun K "_law_by_place" "_law_by_place" sByP f fd) (M0 : Mx P w K mg base "BadWriting" (c 0) f0 d0 "part" 1) (M1 : Mx P w K mg base "BadKind" (c 1) f1 d1 "part" 1) (M2 : Mx P w K mg base "BadNumber" (c 2) f2 d2 "part" 1) (M3 : Mx P w K mg base "BadTable" (c 3) f3 d3 "part" 1)
    (M4 : Mx P w K mg base "Misfit" (c 4) f4 d4 "part" 1) (M5 : Mx P w K mg base "NoPlace" (c 5) f5 d5 "value" 2) (M6 : Mx P w K mg base "NoName" (c 6) f6 d6 "value" 2) (M7 : Mx P w K mg base "Impossible" (c 7) f7 d7 "paper" 1) : FnOk P w K mg base CX0 4 f fd ["one"] (spMade c) := by
  refine F.ok scByP (fun vs H Q E h => ?_) (fun cdv A outer s H vs Q E hr h => ?_)
  · obtain ⟨v, rfl, _⟩ := h
    rfl
  obtain ⟨v, rfl, q⟩ := h
  refine ⟨_, (pss_one (ps_ret (pe_lst (pa_cons (pe_mk1p M0 (hr.mono (by decide)) (pa_cons (pv 0) pa_nil)) (pa_cons (pe_mk1p M1 (hr.mono (by decide)) (pa_cons (pv 0) pa_nil)) (pa_cons (pe_mk1p M2 (hr.mono (by decide)) (pa_cons (pv 0) pa_nil)) (pa_cons (pe_mk1p M3 (hr.mono (by decide)) (pa_cons (pv 0) pa_nil)) (pa_cons (pe_mk1p M4 (hr.mono (by decide)) (pa_cons (pv 0) pa_nil)) (pa_cons (pe_mk1p M5 (hr.mono (by decide)) (pa_cons (pv 0) pa_nil)) (pa_cons (pe_mk1p M6 (hr.mono (by decide)) (pa_cons (pv 0) pa_nil)) (pa_cons (pe_mk1p M7 (hr.mono (by decide)) (pa_cons (pv 0) pa_nil)) pa_nil))))))))))), ?_⟩
  refine ⟨_, rfl, v, rfl, fun a0 H0 n0 s0 e0 => ?_⟩
  refine ⟨_, rfl, v, rfl, fun a1 H1 n1 s1 e1 => ?_⟩
  refine ⟨_, rfl, v, rfl, fun a2 H2 n2 s2 e2 => ?_⟩
  refine ⟨_, rfl, v, rfl, fun a3 H3 n3 s3 e3 => ?_⟩
  refine ⟨_, rfl, v, rfl, fun a4 H4 n4 s4 e4 => ?_⟩
  refine ⟨_, rfl, v, rfl, fun a5 H5 n5 s5 e5 => ?_⟩
  refine ⟨_, rfl, v, rfl, fun a6 H6 n6 s6 e6 => ?_⟩
  refine ⟨_, rfl, v, rfl, fun a7 H7 n7 s7 e7 => ?_⟩
  refine ⟨(by show 8 ≤ sizeLine; decide), fun l hl => ?_⟩
  have t7 := same_new (o := .lst [.ref a0, .ref a1, .ref a2, .ref a3, .ref a4, .ref a5, .ref a6, .ref a7]) hl
  have t6 := s7.trans t7
  have t5 := s6.trans t6
  have t4 := s5.trans t5
  have t3 := s4.trans t4
  have t2 := s3.trans t3
  have t1 := s2.trans t2
  have t0 := s1.trans t1
  have tt := s0.trans t0
  have sn := s0.trans (s1.trans (s2.trans (s3.trans (s4.trans (s5.trans (s6.trans s7))))))
  exact q l _ (sn.free hl) tt (made_at upd_same (e0.same t0) (e1.same t1) (e2.same t2) (e3.same t3) (e4.same t4) (e5.same t5) (e6.same t6) (e7.same t7))
theorem ok_byN (F : Fun K "_law_by_name" "_law_by_name" sByN f fd) (M0 : Mx P w K mg base "BadWriting" (c 0) f0 d0 "part" 1) (M1 : Mx P w K mg base "BadKind" (c 1) f1 d1 "part" 1) (M2 : Mx P w K mg base "BadNumber" (c 2) f2 d2 "part" 1) (M3 : Mx P w K mg base "BadTable" (c 3) f3 d3 "part" 1)
    (M4 : Mx P w K mg base "Misfit" (c 4) f4 d4 "part" 1) (M5 : Mx P w K mg base "NoPlace" (c 5) f5 d5 "value" 2) (M6 : Mx P w K mg base "NoName" (c 6) f6 d6 "value" 2) (M7 : Mx P w K mg base "Impossible" (c 7) f7 d7 "paper" 1) : FnOk P w K mg base CX0 4 f fd ["one"] (spMade c) := by
  refine F.ok scByN (fun vs H Q E h => ?_) (fun cdv A outer s H vs Q E hr h => ?_)
  · obtain ⟨v, rfl, _⟩ := h
    rfl
  obtain ⟨v, rfl, q⟩ := h
  refine ⟨_, (pss_cons (ps_set (i := 1) scByN.nd rfl (.inl rfl) (pe_lst (pa_cons (pe_mk1k M0 (hr.mono (by decide)) (pk_cons (pv 0) pk_nil)) (pa_cons (pe_mk1k M1 (hr.mono (by decide)) (pk_cons (pv 0) pk_nil)) (pa_cons (pe_mk1k M2 (hr.mono (by decide)) (pk_cons (pv 0) pk_nil)) (pa_cons (pe_mk1k M3 (hr.mono (by decide)) (pk_cons (pv 0) pk_nil)) (pa_cons (pe_mk1k M4 (hr.mono (by decide)) (pk_cons (pv 0) pk_nil)) pa_nil)))))))
      (pss_one (ps_ret (pe_op op_cat (pv 1) (pe_lst (pa_cons (pe_mk1k M5 (hr.mono (by decide)) (pk_cons (pv 0) pk_nil)) (pa_cons (pe_mk1k M6 (hr.mono (by decide)) (pk_cons (pv 0) pk_nil)) (pa_cons (pe_mk1k M7 (hr.mono (by decide)) (pk_cons (pv 0) pk_nil)) pa_nil)))))))), ?_⟩
  refine ⟨_, rfl, v, rfl, fun a0 H0 n0 s0 e0 => ?_⟩
  refine ⟨_, rfl, v, rfl, fun a1 H1 n1 s1 e1 => ?_⟩
  refine ⟨_, rfl, v, rfl, fun a2 H2 n2 s2 e2 => ?_⟩
  refine ⟨_, rfl, v, rfl, fun a3 H3 n3 s3 e3 => ?_⟩
  refine ⟨_, rfl, v, rfl, fun a4 H4 n4 s4 e4 => ?_⟩
  refine ⟨(by show 5 ≤ sizeLine; decide), fun l1 hl1 => ?_⟩
  have u1 := same_new (o := .lst [.ref a0, .ref a1, .ref a2, .ref a3, .ref a4]) hl1
  refine ⟨_, rfl, ?_⟩
  refine ⟨_, rfl, v, rfl, fun a5 H5 n5 s5 e5 => ?_⟩
  refine ⟨_, rfl, v, rfl, fun a6 H6 n6 s6 e6 => ?_⟩
  refine ⟨_, rfl, v, rfl, fun a7 H7 n7 s7 e7 => ?_⟩
  refine ⟨(by show 3 ≤ sizeLine; decide), fun l2 hl2 => ?_⟩
  have u2 := same_new (o := .lst [.ref a5, .ref a6, .ref a7]) hl2
  have s57 := s5.trans (s6.trans (s7.trans u2))
  refine ⟨l1, l2, _, _, rfl, rfl, s57 _ _ upd_same, upd_same, (by show 8 ≤ sizeLine; decide), fun l hl => ?_⟩
  have t8 := u2.trans (same_new (o := .lst ([.ref a0, .ref a1, .ref a2, .ref a3, .ref a4] ++ [.ref a5, .ref a6, .ref a7])) hl)
  have t7 := t8
  have t6 := s7.trans t7
  have t5 := s6.trans t6
  have t4 := u1.trans (s5.trans t5)
  have t3 := s4.trans t4
  have t2 := s3.trans t3
  have t1 := s2.trans t2
  have t0 := s1.trans t1
  have tt := s0.trans t0
  have sn := s0.trans (s1.trans (s2.trans (s3.trans (s4.trans (u1.trans s57)))))
  exact q l _ (sn.free hl) tt (made_at upd_same (e0.same t0) (e1.same t1) (e2.same t2) (e3.same t3) (e4.same t4) (e5.same t5) (e6.same t6) (e7.same t7))
theorem ok_field (F : Fun K "_law_field" "_law_field" sField f fd) (Z : Ecs K mg c aB mB) (nf : ∀ i, i < 8 → PySem.W.findIn K (.ref (c i)) (fld i) = some none) : FnOk P w K mg base CX0 1 f fd ["error", "at"] (spField c) := by
  refine F.ok scField (fun vs H Q E h => ?_) (fun cdv A outer s H vs Q E hr h => ?_)
  · obtain ⟨a, i, v, rfl, _⟩ := h
    rfl
  obtain ⟨a, i, v, rfl, hi, hE, q⟩ := h
  have X := Z.x i (by omega)
  have n := nf i hi
  refine ⟨_, (pss_cons (ps_if (pt_cmpR op_lt (pv 1) pe_int (nomark _)) (pss_one (ps_ret (pe_ofl (pv 0)))) pss_nil)
      (pss_one (ps_ret (pe_ifExp (pt_cmpR op_eq (pv 1) pe_int (nomark _)) (pe_ofl (pv 0)) (pe_ofl (pv 0)))))), ?_⟩
  refine ⟨_, rfl, _, _, rfl, rfl, _, rfl, ?_⟩
  refine ite2 (fun c5 => ?_) (fun c5 => ?_)
  · have h5 : (i : Int) < 5 := of_decide_eq_true c5
    have e : fld i = "part" := if_pos (by omega)
    rw [e] at n hE
    exact ⟨_, rfl, a, _, _, v, rfl, hE, X, n, by simp [List.lookup], q⟩
  · have h5 : ¬ (i : Int) < 5 := of_decide_eq_false (Bool.eq_false_iff.mpr c5)
    refine ⟨_, rfl, rfl, _, rfl, ?_⟩
    refine ite2 (fun c7 => ?_) (fun c7 => ?_)
    · have h7 : V.int (i : Int) = V.int 7 := of_decide_eq_true c7
      have h7' : i = 7 := by have := V.int.inj h7; omega
      subst h7'
      exact ⟨_, rfl, a, _, _, v, rfl, hE, X, n, by simp [List.lookup, fld], q⟩
    · have h7 : ¬ V.int (i : Int) = V.int 7 := of_decide_eq_false (Bool.eq_false_iff.mpr c7)
      have e : fld i = "value" := by
        unfold fld
        rw [if_neg (by omega), if_neg (fun z => h7 (by rw [z]; rfl))]
      rw [e] at n hE
      exact ⟨_, rfl, a, _, _, v, rfl, hE, X, n, by simp [List.lookup], q⟩
end
end TA
namespace TA
open PySem PySem.Spec L2
open PyProof.Rows hiding St
theorem lv_same {p : Addr} {H : Hp} {v : V} (h : LV p H v) : flatB v = true ∨ ∃ a, v = .ref a := by
  cases h with
  | int _ => exact .inl rfl
  | str _ _ => exact .inl rfl
  | non => exact .inl rfl
  | bl _ => exact .inl rfl
  | lst => exact .inr ⟨_, rfl⟩
  | tup => exact .inr ⟨_, rfl⟩
  | dct => exact .inr ⟨_, rfl⟩
theorem eqD_self {K : PySem.W.Frag} {H : Hp} {v : V} {Q : VK} (d : PyData) (h : Dp K H v d) (s : SeqAt.shaped d = true) (c : d.canLay0 = true) (q : Q (.bl true) H) : rEqD K v v H Q := by
  refine ⟨d, d, h, h, s, s, ?_⟩
  rw [SeqAt.eqv_refl d c]
  exact q
theorem lay_shaped (d : PyData) (c : d.canLay0 = true) (h : d.depth ≤ 64) : SeqAt.shaped d = true := by
  unfold SeqAt.shaped
  rw [c, decide_eq_true h]
  rfl
theorem lv_self {K : PySem.W.Frag} {p : Addr} {H : Hp} {v : V} {Q : VK} (h : LV p H v) (q : Q (.bl true) H) : rEqD K v v H Q ∨ rEqV K v v H Q := by
  cases h with
  | int i => exact .inl (eqD_self (.int i) (.int i) rfl rfl q)
  | str z hz => exact .inl (eqD_self (.str z) (.str z) (lay_shaped _ hz (by simp [PyData.depth])) hz q)
  | non => exact .inl (eqD_self .none .non rfl rfl q)
  | bl b => exact .inl (eqD_self (.bool b) (.bl b) rfl rfl q)
  | @lst a b i na nb ha hb => exact .inl (eqD_self (.list [.int i, .list [.none]]) (.lst (SqL.of ha) (.cons (.int i) (.cons (.lst (SqL.of hb) (.cons .non .nil)) .nil))) rfl rfl q)
  | @tup a b i z na nb ha hb hz =>
    have c : PyData.canLay0 (.tuple [.int i, .tuple [.str z]]) = true := by simp [PyData.canLay0, PyData.canLayAll0] at hz ⊢; exact hz
    exact .inl (eqD_self (.tuple [.int i, .tuple [.str z]]) (.tup (SqT.of ha) (.cons (.int i) (.cons (.tup (SqT.of hb) (.cons (.str z) .nil)) .nil))) (lay_shaped _ c (by simp [PyData.depth, PyData.depthAll])) c q)
  | dct na ha => exact .inr ⟨1, by decide, .inr ⟨_, _, [], [], rfl, rfl, ha, ha, rfl, fun p hp => absurd hp (by simp)⟩, q⟩
abbrev sErrs : Stmt := top 32
theorem scErrs : FnScope ["one", "other", "made", "again", "at", "error", "base"] ["one", "other"] (defScope sErrs) := ⟨rfl, rfl, rfl, by decide +kernel, rfl, by decide +kernel, by decide +kernel⟩
def spErrs : Sp := fun vs H Q _ => ∃ (p : Addr) (one other : V), vs = [one, other] ∧ LV p H one ∧ LV p H other ∧ ∀ (H' : Hp), Same H H' → Q (.bl true) H'
theorem lk1 {g : Str} {v : V} {r : List (Str × V)} : ((g, v) :: r).lookup g = some v := by rw [lookup_put, if_pos rfl]
theorem lk2 {g h : Str} {v u : V} {r : List (Str × V)} (n : ¬ g = h) : ((h, u) :: (g, v) :: r).lookup g = some v := by rw [lookup_put, if_neg n, lookup_put, if_pos rfl]
theorem eqIs2 {p : Addr} {H : Hp} {a b : V} (ha : LV p H a) (hb : LV p H b) : EqIs [a, b] [a, b] [true, true] := .cons (.same a (lv_same ha)) (.cons (.same b (lv_same hb)) .nil)
section
variable {P : Program} {w : World} {K : PySem.W.Frag} {mg : Str → Option Value} {base : Heap} {f fp fn ff fo : Addr} {fd dp dn df do' : FuncData} {c : Nat → Addr} {aB mB : Addr} {f8 f9 fM : Addr} {d8 d9 dM : FuncData}
theorem ok_errs (F : Fun K "_law_errors_right" "_law_errors_right" sErrs f fd) (T : Bn mg) (Z : Ecs K mg c aB mB)
    (D__law_by_place : Df K mg "_law_by_place" sByP fp dp ["one"]) (G__law_by_place : FnOk P w K mg base CX0 4 fp dp ["one"] (spMade c))
    (D__law_by_name : Df K mg "_law_by_name" sByN fn dn ["one"]) (G__law_by_name : FnOk P w K mg base CX0 4 fn dn ["one"] (spMade c))
    (D__law_field : Df K mg "_law_field" sField ff df ["error", "at"]) (G__law_field : FnOk P w K mg base CX0 1 ff df ["error", "at"] (spField c))
    (D__law_is_only : Df K mg "_law_is_only" sOnly fo do' ["error", "at"]) (G__law_is_only : FnOk P w K mg base CX0 2 fo do' ["error", "at"] (spOnly c))
    (M8 : Mx2 P w K mg base "TooMany" (c 8) f8 d8 "what" "most" 1) (M9 : Mx2 P w K mg base "BadText" (c 9) f9 d9 "line" "item" 1) (MM : Mx P w K mg base "Missing" mB fM dM "value" 1) :
    FnOk P w K mg base CX0 5 f fd ["one", "other"] spErrs := by
  refine F.ok scErrs (fun vs H Q E h => ?_) (fun cdv A outer s H vs Q E hr h => ?_)
  · obtain ⟨p, one, other, rfl, _⟩ := h
    rfl
  obtain ⟨p, one, other, rfl, h1, h2, q⟩ := h
  refine ⟨_, (pss_cons (ps_for PassesOwn.never rfl (pi_tup (pe_tup (pa_cons (pe_tup (pa_cons (pe_cd D__law_by_place G__law_by_place hr (by decide) (pa_cons (pv 0) pa_nil)) (pa_cons (pe_cd D__law_by_name G__law_by_name hr (by decide) (pa_cons (pv 1) pa_nil)) pa_nil))) (pa_cons (pe_tup (pa_cons (pe_cd D__law_by_name G__law_by_name hr (by decide) (pa_cons (pv 0) pa_nil)) (pa_cons (pe_cd D__law_by_place G__law_by_place hr (by decide) (pa_cons (pv 1) pa_nil)) pa_nil))) pa_nil)))) (pg_tup (by rfl) (pgs_cons (pg_name (i := 2) scErrs.nd rfl (.inl rfl)) (pgs_cons (pg_name (i := 3) scErrs.nd rfl (.inl rfl)) pgs_nil)))
        (pss_one (ps_for PassesOwn.never rfl (pi_enum (by rfl) T.b_enumerate (pa_cons (pv 2) pa_nil)) (pg_tup (by rfl) (pgs_cons (pg_name (i := 4) scErrs.nd rfl (.inl rfl)) (pgs_cons (pg_name (i := 5) scErrs.nd rfl (.inl rfl)) pgs_nil)))
          (pss_one (ps_if (PW.pt (pw_or (pt_cmpR (op_neL hr.units0) (pe_lst (pa_cons (pe_cd D__law_field G__law_field hr (by decide) (pa_cons (pv 5) (pa_cons (pv 4) pa_nil))) (pa_cons (pe_cd D__law_field G__law_field hr (by decide) (pa_cons (pe_ix ix_list (pv 3) (pv 4) (fun _ _ => rfl)) (pa_cons (pv 4) pa_nil))) pa_nil))) (pe_lst (pa_cons (pv 0) (pa_cons (pv 1) pa_nil))) (nomark _)) (pw_or (pt_not (pt_val (pe_cd D__law_is_only G__law_is_only hr (by decide) (pa_cons (pv 5) (pa_cons (pv 4) pa_nil))))) (pw_or1 (pt_not (pt_val (pe_cd D__law_is_only G__law_is_only hr (by decide) (pa_cons (pe_ix ix_list (pv 3) (pv 4) (fun _ _ => rfl)) (pa_cons (pv 4) pa_nil))))))))) (pss_one (ps_ret pe_bl)) pss_nil)))))
      (pss_cons (ps_for PassesOwn.never rfl (pi_tup (pe_tup (pa_cons (pe_mk2p M8 (hr.mono (by decide)) (pa_cons (pv 0) (pa_cons (pv 1) pa_nil))) (pa_cons (pe_mk2k M8 (hr.mono (by decide)) (pk_cons (pv 1) (pk_cons (pv 0) pk_nil))) pa_nil)))) (pg_name (i := 5) scErrs.nd rfl (.inl rfl))
        (pss_one (ps_if (PW.pt (pw_or (pt_cmpR (op_neL hr.units0) (pe_lst (pa_cons (pe_ofl (pv 5)) (pa_cons (pe_ofl (pv 5)) pa_nil))) (pe_lst (pa_cons (pv 0) (pa_cons (pv 1) pa_nil))) (nomark _)) (pw_or1 (pt_not (pt_val (pe_cd D__law_is_only G__law_is_only hr (by decide) (pa_cons (pv 5) (pa_cons pe_int pa_nil)))))))) (pss_one (ps_ret pe_bl)) pss_nil)))
      (pss_cons (ps_for PassesOwn.never rfl (pi_tup (pe_tup (pa_cons (pe_mk2p M9 (hr.mono (by decide)) (pa_cons (pv 0) (pa_cons (pv 1) pa_nil))) (pa_cons (pe_mk2k M9 (hr.mono (by decide)) (pk_cons (pv 1) (pk_cons (pv 0) pk_nil))) pa_nil)))) (pg_name (i := 5) scErrs.nd rfl (.inl rfl))
        (pss_one (ps_if (PW.pt (pw_or (pt_cmpR (op_neL hr.units0) (pe_lst (pa_cons (pe_ofl (pv 5)) (pa_cons (pe_ofl (pv 5)) pa_nil))) (pe_lst (pa_cons (pv 0) (pa_cons (pv 1) pa_nil))) (nomark _)) (pw_or1 (pt_not (pt_val (pe_cd D__law_is_only G__law_is_only hr (by decide) (pa_cons (pv 5) (pa_cons pe_int pa_nil)))))))) (pss_one (ps_ret pe_bl)) pss_nil)))
      (pss_cons (ps_set (i := 6) scErrs.nd rfl (.inl rfl) (pe_mk1k MM (hr.mono (by decide)) (pk_cons (pv 0) pk_nil)))
      (pss_one (ps_ret (pe_and (pe_cmpR (op_or (op_eqD hr.units) (op_eqV hr.units)) (pe_ofl (pv 6)) (pv 0) (nomark _)) (pe_and (pe_not (pe_callB call_err (by rfl) T.b_isinstance (by decide +kernel) (pa_cons (pv 6) (pa_cons (pe_glob (v := .ref (c 5)) rfl Z.g5 rfl) pa_nil)))) (pe_and (pe_not (pe_callB call_err (by rfl) T.b_isinstance (by decide +kernel) (pa_cons (pv 6) (pa_cons (pe_glob (v := .ref (c 6)) rfl Z.g6 rfl) pa_nil)))) (pe_and (pe_callB call_err (by rfl) T.b_isinstance (by decide +kernel) (pa_cons (pv 6) (pa_cons (pe_glob (v := .ref aB) rfl Z.gA rfl) pa_nil))) (pe_one (pe_cmpR (op_or (op_eqD hr.units) (op_eqV hr.units)) (pe_ofl (pe_mk1p MM (hr.mono (by decide)) (pa_cons (pv 1) pa_nil))) (pv 1) (nomark _))))))))))))), ?_⟩
  refine ⟨_, rfl, one, rfl, fun l1 H1 n1 s1 m1 => ?_⟩
  refine ⟨_, rfl, other, rfl, fun l2 H2 n2 s2 m2 => ⟨(by show 2 ≤ sizeLine; decide), fun t1 ht1 => ?_⟩⟩
  refine ⟨_, rfl, one, rfl, fun l3 H3 n3 s3 m3 => ?_⟩
  refine ⟨_, rfl, other, rfl, fun l4 H4 n4 s4 m4 => ⟨(by show 2 ≤ sizeLine; decide), fun t2 ht2 => ⟨(by show 2 ≤ sizeLine; decide), fun t0 ht0 => ?_⟩⟩⟩
  have u1 := same_new (o := .tup [.ref l1, .ref l2]) ht1
  have u2 := same_new (o := .tup [.ref l3, .ref l4]) ht2
  have u0 := same_new (o := .tup [.ref t1, .ref t2]) ht0
  have sA := s3.trans (s4.trans (u2.trans u0))
  have sAll := s1.trans (s2.trans (u1.trans sA))
  refine ⟨t0, rfl, ⟨_, SqT.of upd_same⟩, for_tup (K := K) (a := t0) (xs := [.ref t1, .ref t2]) (fun i σ H' => (∃ v2 v3 v4 v5 v6 : Option V, σ = [some one, some other, v2, v3, v4, v5, v6]) ∧ Same (upd (upd H4 t2 (.tup [.ref l3, .ref l4])) t0 (.tup [.ref t1, .ref t2])) H') ?_ ?_ ?_ ?_⟩
  · exact ⟨⟨_, _, _, _, _, rfl⟩, Same.refl _⟩
  · rintro i σ H' _ ⟨_, sx⟩
    exact SqT.of (sx _ _ upd_same)
  · rintro i x σ H' hx ⟨⟨v2, v3, v4, v5, v6, rfl⟩, sx⟩
    have hx' : ∃ ta la lb, x = .ref ta ∧ H' ta = some (.tup [.ref la, .ref lb]) ∧ Made c H' la one ∧ Made c H' lb other := by
      match i, hx with
      | 0, hx => cases hx; exact ⟨t1, l1, l2, rfl, (sA.trans sx) _ _ upd_same, m1.keep (s2.trans (u1.trans (sA.trans sx))), m2.keep (u1.trans (sA.trans sx))⟩
      | 1, hx => cases hx; exact ⟨t2, l3, l4, rfl, (u0.trans sx) _ _ upd_same, m3.keep (s4.trans (u2.trans (u0.trans sx))), m4.keep (u2.trans (u0.trans sx))⟩
      | i + 2, hx => cases hx
    obtain ⟨ta, la, lb, rfl, hta, ma, mb⟩ := hx'
    refine ⟨ta, _, rfl, SqT.of hta, rfl, _, _, rfl, _, _, rfl, rfl, ?_⟩
    obtain ⟨ea, ea8, hla, ma'⟩ := id ma
    obtain ⟨eb, eb8, hlb, mb'⟩ := id mb
    have k1 := (sAll.trans sx)
    refine ⟨_, rfl, la, _, rfl, SqL.of hla, ?_⟩
    refine for_it (walk_enum (xs := ea.map V.ref)) (fun j σ H2 => (∃ v4 v5 v6 : Option V, σ = [some one, some other, some (.ref la), some (.ref lb), v4, v5, v6]) ∧ Same H' H2) ?_ ?_ ?_ ?_
    · exact ⟨⟨_, _, _, rfl⟩, Same.refl _⟩
    · rintro j σ H2 _ ⟨_, s2'⟩
      exact SqL.of (s2' _ _ hla)
    · rintro j x σ H2 H3 hj ⟨⟨w4, w5, w6, rfl⟩, sj⟩ ⟨U, y1, y2, rfl, hU, rfl, e1, e2⟩
      cases e1
      have hj8 : j < 8 := by rw [List.length_map] at hj; omega
      have e2 : (ea.map V.ref)[j]? = some y2 := e2
      rw [List.getElem?_map] at e2
      obtain ⟨aj, haj, rfl⟩ := Option.map_eq_some_iff.mp e2
      have hbj : eb[j]? = some (eb[j]'(by omega)) := List.getElem?_eq_getElem _
      generalize hbje : (eb[j]'(by omega)) = bj at hbj
      have uU := same_new (o := .tup [.int (j : Int), .ref aj]) hU
      have kk := k1.trans (sj.trans uU)
      have Ea := (ma' j aj haj).same (sj.trans uU)
      have Eb := (mb' j bj hbj).same (sj.trans uU)
      have hlb2 := (sj.trans uU) _ _ hlb
      have atb : atI (eb.map V.ref) (j : Int) = some (.ref bj) := at_of (j := j) rfl (by rw [List.getElem?_map, hbj]; rfl)
      refine ⟨U, _, rfl, SqT.of upd_same, rfl, _, _, rfl, _, _, rfl, rfl, ?_⟩
      refine ⟨_, rfl, _, rfl, aj, j, one, rfl, hj8, Ea, ?_⟩
      refine ⟨_, rfl, _, rfl, lb, _, _, _, rfl, rfl, SqL.of hlb2, atb, _, rfl, bj, j, other, rfl, hj8, Eb, ?_⟩
      refine ⟨(by show 2 ≤ sizeLine; decide), fun m1' hm1 => ?_⟩
      refine ⟨_, rfl, _, rfl, (by show 2 ≤ sizeLine; decide), fun m2' hm2 => ?_⟩
      have v1 := same_new (o := .lst [one, other]) hm1
      have v2 := same_new (o := .lst [one, other]) hm2
      refine ⟨m1', m2', _, _, rfl, rfl, SqL.of (v2 _ _ upd_same), SqL.of upd_same, .inr ⟨_, eqIs2 h1 h2, _, rfl, ?_⟩⟩
      have Ea2 := Ea.same (v1.trans v2)
      refine iteF ⟨_, rfl, _, rfl, aj, j, _, rfl, by omega, Ea2, fun H5 s5 => ⟨_, rfl, iteF ?_⟩⟩
      have Eb2 := (Eb.same (v1.trans v2)).same s5
      refine ⟨_, rfl, _, rfl, lb, _, _, _, rfl, rfl, SqL.of (s5 _ _ ((v1.trans v2) _ _ hlb2)), atb, _, rfl, bj, j, _, rfl, by omega, Eb2, fun H6 s6 => ⟨_, rfl, iteF ?_⟩⟩
      exact ⟨⟨_, _, _, rfl⟩, sj.trans (uU.trans (v1.trans (v2.trans (s5.trans s6))))⟩
    · rintro σ H2 ⟨⟨w4, w5, w6, rfl⟩, sj⟩
      exact ⟨⟨_, _, _, _, _, rfl⟩, sx.trans sj⟩
  rintro σA HA ⟨⟨va2, va3, va4, va5, va6, rfl⟩, sB⟩
  have tA := sAll.trans sB
  refine ⟨_, rfl, _, rfl, one, other, rfl, fun xp Gp yp zp ep => ?_⟩
  refine ⟨_, rfl, _, rfl, one, other, rfl, fun xp' Gp' yp' zp' ep' => ⟨(by show 2 ≤ sizeLine; decide), fun bp hbp => ?_⟩⟩
  have qp := same_new (o := .tup [.ref xp, .ref xp']) hbp
  have rp := zp.trans (zp'.trans qp)
  refine ⟨bp, rfl, ⟨_, SqT.of upd_same⟩, for_tup (K := K) (a := bp) (xs := [.ref xp, .ref xp']) (fun i σ H' => (∃ v2 v3 v4 v5 v6 : Option V, σ = [some one, some other, v2, v3, v4, v5, v6]) ∧ Same (upd Gp' bp (.tup [.ref xp, .ref xp'])) H') ?_ ?_ ?_ ?_⟩
  · exact ⟨⟨_, _, _, _, _, rfl⟩, Same.refl _⟩
  · rintro i σ H' _ ⟨_, sx⟩
    exact SqT.of (sx _ _ upd_same)
  · rintro i x σ H' hx ⟨⟨v2, v3, v4, v5, v6, rfl⟩, sx⟩
    have hx' : ∃ a, x = .ref a ∧ ErrAt H' a (c 8) [("most", other), ("what", one)] := by
      match i, hx with
      | 0, hx => cases hx; exact ⟨_, rfl, ep.same (zp'.trans (qp.trans sx))⟩
      | 1, hx => cases hx; exact ⟨_, rfl, ep'.same (qp.trans sx)⟩
      | i + 2, hx => cases hx
    obtain ⟨a, rfl, Ea⟩ := hx'
    refine ⟨_, rfl, a, _, _, one, rfl, Ea, M8.xc, M8.n1, lk2 (by decide +kernel), ?_⟩
    refine ⟨_, rfl, a, _, _, other, rfl, Ea, M8.xc, M8.n2, lk1, ?_⟩
    refine ⟨(by show 2 ≤ sizeLine; decide), fun m1' hm1 => ?_⟩
    refine ⟨_, rfl, _, rfl, (by show 2 ≤ sizeLine; decide), fun m2' hm2 => ?_⟩
    have v1 := same_new (o := .lst [one, other]) hm1
    have v2 := same_new (o := .lst [one, other]) hm2
    refine ⟨m1', m2', _, _, rfl, rfl, SqL.of (v2 _ _ upd_same), SqL.of upd_same, .inr ⟨_, eqIs2 h1 h2, _, rfl, ?_⟩⟩
    refine iteF ⟨_, rfl, a, 8, _, rfl, by decide, Ea.same (v1.trans v2), fun H5 s5 => ⟨_, rfl, iteF ?_⟩⟩
    exact ⟨⟨_, _, _, _, _, rfl⟩, sx.trans (v1.trans (v2.trans s5))⟩
  rintro σB HB ⟨⟨vb2, vb3, vb4, vb5, vb6, rfl⟩, sC⟩
  have tB := tA.trans (rp.trans sC)
  refine ⟨_, rfl, _, rfl, one, other, rfl, fun xq Gq yq zq eq => ?_⟩
  refine ⟨_, rfl, _, rfl, one, other, rfl, fun xq' Gq' yq' zq' eq' => ⟨(by show 2 ≤ sizeLine; decide), fun bq hbq => ?_⟩⟩
  have qq := same_new (o := .tup [.ref xq, .ref xq']) hbq
  have rq := zq.trans (zq'.trans qq)
  refine ⟨bq, rfl, ⟨_, SqT.of upd_same⟩, for_tup (K := K) (a := bq) (xs := [.ref xq, .ref xq']) (fun i σ H' => (∃ v2 v3 v4 v5 v6 : Option V, σ = [some one, some other, v2, v3, v4, v5, v6]) ∧ Same (upd Gq' bq (.tup [.ref xq, .ref xq'])) H') ?_ ?_ ?_ ?_⟩
  · exact ⟨⟨_, _, _, _, _, rfl⟩, Same.refl _⟩
  · rintro i σ H' _ ⟨_, sx⟩
    exact SqT.of (sx _ _ upd_same)
  · rintro i x σ H' hx ⟨⟨v2, v3, v4, v5, v6, rfl⟩, sx⟩
    have hx' : ∃ a, x = .ref a ∧ ErrAt H' a (c 9) [("item", other), ("line", one)] := by
      match i, hx with
      | 0, hx => cases hx; exact ⟨_, rfl, eq.same (zq'.trans (qq.trans sx))⟩
      | 1, hx => cases hx; exact ⟨_, rfl, eq'.same (qq.trans sx)⟩
      | i + 2, hx => cases hx
    obtain ⟨a, rfl, Ea⟩ := hx'
    refine ⟨_, rfl, a, _, _, one, rfl, Ea, M9.xc, M9.n1, lk2 (by decide +kernel), ?_⟩
    refine ⟨_, rfl, a, _, _, other, rfl, Ea, M9.xc, M9.n2, lk1, ?_⟩
    refine ⟨(by show 2 ≤ sizeLine; decide), fun m1' hm1 => ?_⟩
    refine ⟨_, rfl, _, rfl, (by show 2 ≤ sizeLine; decide), fun m2' hm2 => ?_⟩
    have v1 := same_new (o := .lst [one, other]) hm1
    have v2 := same_new (o := .lst [one, other]) hm2
    refine ⟨m1', m2', _, _, rfl, rfl, SqL.of (v2 _ _ upd_same), SqL.of upd_same, .inr ⟨_, eqIs2 h1 h2, _, rfl, ?_⟩⟩
    refine iteF ⟨_, rfl, a, 9, _, rfl, by decide, Ea.same (v1.trans v2), fun H5 s5 => ⟨_, rfl, iteF ?_⟩⟩
    exact ⟨⟨_, _, _, _, _, rfl⟩, sx.trans (v1.trans (v2.trans s5))⟩
  rintro σC HC ⟨⟨vc2, vc3, vc4, vc5, vc6, rfl⟩, sD⟩
  have tC := tB.trans (rq.trans sD)
  refine ⟨_, rfl, one, rfl, fun b HM nb sM eM => ?_⟩
  have k1 := h1.keep (Keep.of_same (p := p) (tC.trans sM))
  refine ⟨_, rfl, b, _, _, one, rfl, eM, MM.xc, MM.n, lk1, _, rfl, lv_self k1 ⟨_, rfl, iteT ?_⟩⟩
  refine ⟨_, rfl, b, _, _, _, _, _, rfl, eM, MM.xc, .own (c 5), Z.m5, _, rfl, _, rfl, iteT ?_⟩
  refine ⟨_, rfl, b, _, _, _, _, _, rfl, eM, MM.xc, .own (c 6), Z.m6, _, rfl, _, rfl, iteT ?_⟩
  refine ⟨_, rfl, b, _, _, _, _, _, rfl, eM, MM.xc, .own aB, Z.mA, _, rfl, iteT ?_⟩
  refine ⟨_, rfl, other, rfl, fun b2 HN nb2 sN eN => ?_⟩
  have k2 := h2.keep (Keep.of_same (p := p) ((tC.trans sM).trans sN))
  exact ⟨b2, _, _, other, rfl, eN, MM.xc, MM.n, lk1, _, rfl, lv_self k2 (q _ ((tC.trans sM).trans sN))⟩
end
end TA
namespace TA
open PySem PySem.Spec L2
open PyProof.Rows hiding St
section
variable {X : Cx} {k j n : Nat} {f : Addr} {fd : FuncData} {ps ks : List Str} {sp : Sp} {x : Str} {st : Stmt} {p pos : Pos} {e : Expr} {es : List Expr} {kws : List Keyword} {t tk : TA} {g : List Value → List Value → List Value} {gV : List V → List V → List V}
theorem pe_cdk (D : Df X.K X.mg x st f fd ps) (F : FnOk X.prog X.w X.K X.mg X.base CX0 k f fd ps sp) (B : KBn X.K fd ps n ks g gV) (hr : Room j X.A) (hj : k ≤ j) (ha : PA X (e :: es) t) (hkw : PK X kws tk) (hg : Gl X x := by rfl)
    (hall : (backToKw pos (keywordEach kws X.env)).all (·.1.isSome) = true := by rfl) (hks : (backToKw pos (keywordEach kws X.env)).filterMap (·.1) = ks := by rfl)
    (hdb : (x == ("__debug__" : Str)) = false := by decide) (he : starEach (e :: es) X.env = (false, eval e X.env) :: starEach es X.env := by rfl)
    (hpl : ((backTo pos (starEach (e :: es) X.env)).any (·.1) || (backToKw pos (keywordEach kws X.env)).any (·.1.isNone)) = false := by rfl) :
    PE X (.Call (.Name x p) (e :: es) kws pos) (tCallN n ks.length sp gV E0 t tk) := pe_callN F (hr.mono hj) hg D.m D.F.kp B pass0 ha hkw hall hks hdb he hpl
/-- f(k = v, ..) -/
theorem pe_cdk0 (D : Df X.K X.mg x st f fd ps) (F : FnOk X.prog X.w X.K X.mg X.base CX0 k f fd ps sp) (B : KBn X.K fd ps 0 ks g gV) (hr : Room j X.A) (hj : k ≤ j) (hkw : PK X kws tk) (hg : Gl X x := by rfl)
    (hall : (backToKw pos (keywordEach kws X.env)).all (·.1.isSome) = true := by rfl) (hks : (backToKw pos (keywordEach kws X.env)).filterMap (·.1) = ks := by rfl)
    (hdb : (x == ("__debug__" : Str)) = false := by decide) (hpl : ((backTo pos (starEach [] X.env)).any (·.1) || (backToKw pos (keywordEach kws X.env)).any (·.1.isNone)) = false := by rfl) :
    PE X (.Call (.Name x p) [] kws pos) (tCallN 0 ks.length sp gV E0 tNil tk) := by
  refine ⟨fun pins s σ H Q I h => ?_⟩
  refine wpAny_Call_Name_kw (ld_glob I hg D.m ?_ hdb)
  refine PySem.W.callWith_KW0 (h₀ := X.base) I.ok.mod.kin D.F.kp hall ?_ hpl
  refine thn (hkw.run pos pins s σ H _ I h) fun ws s2 ⟨zs, H2, I2, rz, l1, l2, q2⟩ => ⟨I2.kIn, ?_⟩
  rw [hks]
  exact run_fnN (us := []) (vs := []) F (hr.mono hj) B pass0 I2 .nil rz rfl l2 q2
end
/-- something that is no integer, apart from the pen -/
inductive OV (p : Addr) (H : Hp) : V → Prop where
  | bl (b : Bool) : OV p H (.bl b)
  | non : OV p H .non
  | str (z : Str) : OV p H (.str z)
  | lst {a : Addr} {xs : List V} (na : a ≠ p) (h : H a = some (.lst xs)) : OV p H (.ref a)
  | tup {a : Addr} {xs : List V} (na : a ≠ p) (h : H a = some (.tup xs)) : OV p H (.ref a)
  | dct {a : Addr} {kvs : List (Key × V)} (na : a ≠ p) (h : H a = some (.dK kvs)) : OV p H (.ref a)
theorem OV.keep {p : Addr} {H H' : Hp} {v : V} (h : OV p H v) (k : Keep p H H') : OV p H' v := by
  cases h with
  | bl b => exact .bl b
  | non => exact .non
  | str z => exact .str z
  | lst na h => exact .lst na (k _ _ na h)
  | tup na h => exact .tup na (k _ _ na h)
  | dct na h => exact .dct na (k _ _ na h)
theorem OV.ty {K : PySem.W.Frag} {p : Addr} {H : Hp} {v : V} (h : OV p H v) : ∃ n, HasTy K H v n := by
  cases h with
  | bl b => exact ⟨_, .bl b⟩
  | non => exact ⟨_, .non⟩
  | str z => exact ⟨_, .str z⟩
  | lst na h => exact ⟨_, .lst h⟩
  | tup na h => exact ⟨_, .tup h⟩
  | dct na h => exact ⟨_, .dct h⟩
theorem OV.noInt {p : Addr} {H : Hp} {v : V} (h : OV p H v) : intV v = false := by cases h <;> rfl
theorem OV.noWithin {p : Addr} {H : Hp} {v : V} (h : OV p H v) (lo hi : V) : withinV v lo hi = false := by cases h <;> rfl
/-- something that is no number -/
inductive SV (p : Addr) (H : Hp) : V → Prop where
  | ov {v : V} (h : OV p H v) : SV p H v
  | neg {i : Int} (h : i < 0) : SV p H (.int i)
theorem SV.ty {K : PySem.W.Frag} {p : Addr} {H : Hp} {v : V} (h : SV p H v) : ∃ n, HasTy K H v n := by
  cases h with
  | ov h => exact h.ty
  | neg h => exact ⟨_, .int _⟩
theorem SV.noNum {p : Addr} {H : Hp} {v : V} (h : SV p H v) : numV v = false := by
  cases h with
  | ov h => exact h.noWithin _ _
  | neg h =>
    show (decide (0 ≤ _) && true) = false
    rw [decide_eq_false (by omega)]
    rfl
theorem SV.keep {p : Addr} {H H' : Hp} {v : V} (h : SV p H v) (k : Keep p H H') : SV p H' v := by
  cases h with
  | ov h => exact .ov (h.keep k)
  | neg h => exact .neg h
abbrev sInts : Stmt := top 33
theorem scInts : FnScope ["pen", "number", "odd", "low", "high", "told", "row", "turn", "at", "strange", "value"] ["pen"] (defScope sInts) := ⟨rfl, rfl, rfl, by decide +kernel, rfl, by decide +kernel, by decide +kernel⟩
def spInts : Sp := fun vs H Q _ => ∃ (p c : Addr) (n : Nat), vs = [.ref p] ∧ PenAt n H p c ∧ n ≤ 1000 ∧ ∀ (H' : Hp), Keep p H H' → PenAt (n + 30) H' p c → Q (.bl true) H'
section
variable {P : Program} {w : World} {K : PySem.W.Frag} {mg : Str → Option Value} {base : Heap} {f f1 f2 f3 f4 f5 : Addr} {fd d1 d2 d3 d4 d5 : FuncData}
theorem ok_ints (F : Fun K "_law_integers_right" "_law_integers_right" sInts f fd) (T : Bn mg)
    (D__law_draw : Df K mg "_law_draw" sDraw f1 d1 ["pen", "many"]) (G__law_draw : FnOk P w K mg base CX0 1 f1 d1 ["pen", "many"] spDraw)
    (D__law_pick : Df K mg "_law_pick" sPick f2 d2 ["pen", "some"]) (G__law_pick : FnOk P w K mg base CX0 2 f2 d2 ["pen", "some"] (spPick K))
    (D_is_integer : Df K mg "is_integer" sInt f3 d3 ["value"]) (G_is_integer : FnOk P w K mg base CX0 1 f3 d3 ["value"] (spIsInt K)) (BI : KBn K d3 ["value"] 0 ["value"] (fun us ws => us ++ ws) (fun vs zs => vs ++ zs))
    (D_is_within : Df K mg "is_within" sWithin f4 d4 ["value", "least", "most"]) (G_is_within : FnOk P w K mg base CX0 2 f4 d4 ["value", "least", "most"] (spWithin K))
    (BW0 : KBn K d4 ["value", "least", "most"] 0 ["value", "least", "most"] (fun us ws => us ++ ws) (fun vs zs => vs ++ zs)) (BW1 : KBn K d4 ["value", "least", "most"] 1 ["least", "most"] (fun us ws => us ++ ws) (fun vs zs => vs ++ zs))
    (D_are_numbers : Df K mg "are_numbers" sNums f5 d5 ["value"]) (G_are_numbers : FnOk P w K mg base CX0 3 f5 d5 ["value"] (spNums K)) (BN : KBn K d5 ["value"] 0 ["value"] (fun us ws => us ++ ws) (fun vs zs => vs ++ zs)) :
    FnOk P w K mg base CX0 4 f fd ["pen"] spInts := by
  refine F.ok scInts (fun vs H Q E h => ?_) (fun cdv A outer s H vs Q E hr h => ?_)
  · obtain ⟨p, c, n, rfl, _⟩ := h
    rfl
  obtain ⟨p, c, n, rfl, hp, hn, q⟩ := h
  refine ⟨_, (pss_cons (ps_set (i := 1) scInts.nd rfl (.inl rfl) (pe_cd D__law_pick G__law_pick hr (by decide) (pa_cons (pv 0) (pa_cons (pe_lst (pa_cons pe_int (pa_cons pe_int (pa_cons (pe_un un_neg pe_int) (pa_cons (pe_op op_pow pe_int pe_int) (pa_cons (pe_un un_neg (pe_op op_pow pe_int pe_int)) (pa_cons (pe_cd D__law_draw G__law_draw hr (by decide) (pa_cons (pv 0) (pa_cons pe_int pa_nil))) pa_nil))))))) pa_nil))))
      (pss_cons (ps_set (i := 2) scInts.nd rfl (.inl rfl) (pe_cd D__law_pick G__law_pick hr (by decide) (pa_cons (pv 0) (pa_cons (pe_lst (pa_cons pe_bl (pa_cons pe_bl (pa_cons pe_non (pa_cons pe_str (pa_cons (pe_lst (pa_cons pe_int pa_nil)) (pa_cons (pe_tup (pa_cons pe_int pa_nil)) (pa_cons pe_dnewK (pa_cons pe_str (pa_cons (pe_cmpR op_eq (pv 1) pe_int (nomark _)) pa_nil)))))))))) pa_nil))))
      (pss_cons (ps_if (PW.pt (pw_or (pt_cmpR (op_neL hr.units0) (pe_lst (pa_cons (pe_cdk0 D_is_integer G_is_integer BI hr (by decide) (pk_cons (pv 1) pk_nil)) (pa_cons (pe_cd D_is_integer G_is_integer hr (by decide) (pa_cons (pv 2) pa_nil)) pa_nil))) (pe_lst (pa_cons pe_bl (pa_cons pe_bl pa_nil))) (nomark _)) (pw_or (pt_val (pe_cd D_is_within G_is_within hr (by decide) (pa_cons (pv 2) (pa_cons pe_non (pa_cons pe_non pa_nil))))) (pw_or1 (pt_val (pe_cdk D_is_within G_is_within BW1 hr (by decide) (pa_cons (pv 2) pa_nil) (pk_cons pe_int (pk_cons pe_int pk_nil)))))))) (pss_one (ps_ret pe_bl)) pss_nil)
      (pss_cons (ps_par (i := 3) (j := 4) (by rfl) scInts.nd rfl rfl (by decide) rfl rfl (pa_cons (pe_op op_sub (pe_cd D__law_draw G__law_draw hr (by decide) (pa_cons (pv 0) (pa_cons pe_int pa_nil))) pe_int) (pa_cons (pe_op op_sub (pe_cd D__law_draw G__law_draw hr (by decide) (pa_cons (pv 0) (pa_cons pe_int pa_nil))) pe_int) pa_nil)) (by rfl))
      (pss_cons (ps_set (i := 5) scInts.nd rfl (.inl rfl) (pe_lst (pa_cons (pe_cd D_is_within G_is_within hr (by decide) (pa_cons (pv 1) (pa_cons (pe_op op_add (pv 1) (pv 3)) (pa_cons (pe_op op_add (pv 1) (pv 4)) pa_nil)))) (pa_cons (pe_cdk0 D_is_within G_is_within BW0 hr (by decide) (pk_cons (pv 1) (pk_cons pe_non (pk_cons (pe_op op_add (pv 1) (pv 4)) pk_nil)))) (pa_cons (pe_cd D_is_within G_is_within hr (by decide) (pa_cons (pv 1) (pa_cons (pe_op op_add (pv 1) (pv 3)) (pa_cons pe_non pa_nil)))) pa_nil)))))
      (C8.pss_cut (ps_if (PW.pt (pw_or (pt_cmpR (op_neL hr.units0) (pv 5) (pe_lst (pa_cons (pe_chain op_le op_le (pv 3) pe_int (pv 4)) (pa_cons (pe_cmpR op_le pe_int (pv 4) (nomark _)) (pa_cons (pe_cmpR op_le (pv 3) pe_int (nomark _)) pa_nil)))) (nomark _)) (pw_or1 (pt_cmpR op_notBl (pe_cd D_is_within G_is_within hr (by decide) (pa_cons (pv 1) (pa_cons pe_non (pa_cons pe_non pa_nil)))) pe_bl (nomark _))))) (pss_one (ps_ret pe_bl)) pss_nil)
      (pss_cons (ps_setLc (i := 6) (own := [("turn", 7)]) (g := gName 7) rfl scInts.nd rfl rfl (sw_true rfl rfl rfl (by decide +kernel)) (pi_range1 (by rfl) T.b_range (pa_cons (pe_cd D__law_draw G__law_draw hr (by decide) (pa_cons (pv 0) (pa_cons pe_int pa_nil))) pa_nil)) (blkOk_by (own := [("turn", 7)]) (N := ["pen", "number", "odd", "low", "high", "told", "row", "turn", "at", "strange", "value"]) (sc := defScope sInts) (by decide +kernel)) (fun _ _ _ _ _ => (pg_name (i := 7) scInts.nd rfl (.inl rfl))) (fun _ _ _ _ _ => pts_nil) (fun _ _ _ _ _ => (pe_cd D__law_pick G__law_pick hr (by decide) (pa_cons (pv 0) (pa_cons (pe_lst (pa_cons pe_int (pa_cons pe_int (pa_cons pe_int (pa_cons (pe_op op_pow pe_int pe_int) pa_nil))))) pa_nil)))))
      (pss_cons (ps_set (i := 8) scInts.nd rfl (.inl rfl) (pe_cd D__law_draw G__law_draw hr (by decide) (pa_cons (pv 0) (pa_cons (pe_op op_add (pe_callB call_len_seq (by rfl) T.b_len (by decide +kernel) (pa_cons (pv 6) pa_nil)) pe_int) pa_nil))))
      (pss_cons (ps_set (i := 9) scInts.nd rfl (.inl rfl) (pe_cd D__law_pick G__law_pick hr (by decide) (pa_cons (pv 0) (pa_cons (pe_lst (pa_cons (pv 2) (pa_cons (pe_un un_neg pe_int) (pa_cons (pe_un un_neg (pe_op op_pow pe_int pe_int)) (pa_cons pe_non (pa_cons pe_str pa_nil)))))) pa_nil))))
      (pss_cons (ps_if (PW.pt (pw_or (pt_cmpR op_notBl (pe_cd D_are_numbers G_are_numbers hr (by decide) (pa_cons (pv 6) pa_nil)) pe_bl (nomark _)) (pw_or (pt_cmpR op_notBl (pe_cdk0 D_are_numbers G_are_numbers BN hr (by decide) (pk_cons (pe_callTy call_tuple_of (by rfl) T.b_tuple (by decide +kernel) (pa_cons (pv 6) pa_nil)) pk_nil)) pe_bl (nomark _)) (pw_or1 (pt_cmpR op_notBl (pe_cd D_are_numbers G_are_numbers hr (by decide) (pa_cons (pe_op op_cat (pe_op op_cat (pe_slice sl_list (pv 6) po_none (po_some (pv 8))) (pe_lst (pa_cons (pv 9) pa_nil))) (pe_slice sl_list (pv 6) (po_some (pv 8)) po_none)) pa_nil)) pe_bl (nomark _)))))) (pss_one (ps_ret pe_bl)) pss_nil)
      (pss_one (ps_ret (pe_cmpR (op_eqL hr.units0) (pe_lc (own := [("value", 10)]) (g := gName 10) (by rfl) scInts.nd (pi_tup (pe_tup (pa_cons pe_non (pa_cons pe_int (pa_cons pe_str (pa_cons (pe_disp (pps_cons pe_int pe_int pps_nil) (by rfl) (by rfl) (fun z => by cases z) (by decide)) (pa_cons pe_str (pa_cons pe_bl pa_nil)))))))) (blkOk_by (own := [("value", 10)]) (N := ["pen", "number", "odd", "low", "high", "told", "row", "turn", "at", "strange", "value"]) (sc := defScope sInts) (by decide +kernel)) (fun _ _ _ _ _ => (pg_name (i := 10) scInts.nd rfl (.inl rfl))) (fun _ _ _ _ _ => (pts_one (pt_cmpR op_notBl (pe_cd D_are_numbers G_are_numbers hr (by decide) (pa_cons (pv 10) pa_nil)) pe_bl (nomark _)))) (fun _ _ _ _ _ => (pv 10))) (pe_lst pa_nil) (nomark _)))))))))))))), ?_⟩
  refine ⟨_, rfl, _, rfl, _, _, rfl, rfl, ⟨by decide, by decide, by decide⟩, _, _, rfl, rfl, ⟨by decide, by decide, by decide⟩, _, rfl, _, rfl, p, c, _, n, rfl, hp, by omega, by decide, by decide, fun r0 H1 a0 a1 k1 hp1 => ⟨(by show 6 ≤ sizeLine; decide), fun l1 hl1 => ?_⟩⟩
  refine ⟨p, c, l1, _, n + 1, rfl, hp1.same (same_new hl1), by omega, hp1.ne hl1, upd_same, List.cons_ne_nil _ _, (by show 6 ≤ 1000; decide), fun v H2 hv k2 hp2 => ?_⟩
  obtain ⟨i, rfl⟩ : ∃ i, v = .int i := by
    simp only [List.mem_cons, List.not_mem_nil, or_false] at hv
    rcases hv with rfl | rfl | rfl | rfl | rfl | rfl <;> exact ⟨_, rfl⟩
  have K2 := k1.trans ((Keep.new hl1).trans k2)
  refine ⟨_, rfl, (by show 1 ≤ sizeLine; decide), fun oa hoa => ⟨(by show 1 ≤ sizeLine; decide), fun ob hob => fun od hod => ?_⟩⟩
  refine ⟨_, rfl, rfl, (by show 9 ≤ sizeLine; decide), fun l2 hl2 => ?_⟩
  have sa := same_new (o := .lst [.int 1]) hoa
  have sb := same_new (o := .tup [.int 1]) hob
  have sd := same_new (o := .dK []) hod
  have sl := same_new (o := .lst [.bl true, .bl false, .non, .str "1", .ref oa, .ref ob, .ref od, .str "", .bl (decide (V.int i = V.int 0))]) hl2
  have hp2a := hp2.same sa
  have hp2b := hp2a.same sb
  have hp2d := hp2b.same sd
  refine ⟨p, c, l2, _, n + 2, rfl, hp2d.same sl, by omega, hp2d.ne hl2, upd_same, List.cons_ne_nil _ _, (by show 9 ≤ 1000; decide), fun odd H3 hv k3 hp3 => ?_⟩
  have K3 := K2.trans ((Keep.of_same (sa.trans (sb.trans (sd.trans sl)))).trans k3)
  have ho : OV p H3 odd := by
    have ea := k3 _ _ (hp2.ne hoa) ((sb.trans (sd.trans sl)) _ _ upd_same)
    have eb := k3 _ _ (hp2a.ne hob) ((sd.trans sl) _ _ upd_same)
    have ed := k3 _ _ (hp2b.ne hod) (sl _ _ upd_same)
    simp only [List.mem_cons, List.not_mem_nil, or_false] at hv
    rcases hv with rfl | rfl | rfl | rfl | rfl | rfl | rfl | rfl | rfl
    · exact .bl _
    · exact .bl _
    · exact .non
    · exact .str _
    · exact .lst (hp2.ne hoa) ea
    · exact .tup (hp2a.ne hob) eb
    · exact .dct (hp2b.ne hod) ed
    · exact .str _
    · exact .bl _
  obtain ⟨no, hoty⟩ := ho.ty (K := K)
  refine ⟨_, rfl, rfl, rfl, .int i, _, rfl, HasTy.int i, _, rfl, odd, no, rfl, hoty, (by show 2 ≤ sizeLine; decide), fun m1 hm1 => ⟨(by show 2 ≤ sizeLine; decide), fun m2 hm2 => ?_⟩⟩
  have sm1 := same_new (o := .lst [.bl (intV (.int i)), .bl (intV odd)]) hm1
  have sm2 := same_new (o := .lst [.bl true, .bl false]) hm2
  have Sx := sm1.trans sm2
  refine ⟨m1, m2, _, _, rfl, rfl, SqL.of (sm2 _ _ upd_same), SqL.of upd_same, .inr ⟨[true, true], by rw [ho.noInt]; exact .cons (.same _ (.inl rfl)) (.cons (.same _ (.inl rfl)) .nil), _, rfl, iteF ?_⟩⟩
  refine ⟨_, rfl, odd, .non, .non, no, rfl, hoty.same Sx, .inl rfl, .inl rfl, _, rfl, ?_⟩
  rw [ho.noWithin]
  refine iteF ⟨_, rfl, rfl, rfl, odd, .int 0, .int 1, no, rfl, hoty.same Sx, .inr ⟨_, rfl⟩, .inr ⟨_, rfl⟩, _, rfl, ?_⟩
  rw [ho.noWithin]
  refine iteF ?_
  have hp3x := hp3.same Sx
  refine ⟨_, rfl, p, c, _, n + 3, rfl, hp3x, by omega, by decide, by decide, fun lo H4 b0 b1 k4 hp4 => ⟨_, _, rfl, rfl, ?_⟩⟩
  refine ⟨_, rfl, p, c, _, n + 4, rfl, hp4, by omega, by decide, by decide, fun hi H5 c0 c1 k5 hp5 => ⟨_, _, rfl, rfl, _, _, rfl, ?_⟩⟩
  have K5 := (K3.trans (Keep.of_same Sx)).trans (k4.trans k5)
  have ho5 := ho.keep ((Keep.of_same Sx).trans (k4.trans k5))
  refine ⟨_, rfl, _, rfl, _, rfl, _, _, rfl, rfl, _, rfl, _, rfl, _, _, rfl, rfl, .int i, .int (i + (lo - 2)), .int (i + (hi - 2)), _, rfl, HasTy.int i, .inr ⟨_, rfl⟩, .inr ⟨_, rfl⟩, ?_⟩
  refine ⟨_, rfl, _, rfl, _, rfl, _, _, rfl, rfl, rfl, rfl, .int i, .non, .int (i + (hi - 2)), _, rfl, HasTy.int i, .inl rfl, .inr ⟨_, rfl⟩, ?_⟩
  refine ⟨_, rfl, _, rfl, _, rfl, _, _, rfl, rfl, .int i, .int (i + (lo - 2)), .non, _, rfl, HasTy.int i, .inr ⟨_, rfl⟩, .inl rfl, (by show 3 ≤ sizeLine; decide), fun tl htl => ?_⟩
  have w1 : withinV (.int i) (.int (i + (lo - 2))) (.int (i + (hi - 2))) = (decide (lo - 2 ≤ 0) && decide (0 ≤ hi - 2)) := by
    show (decide (i + (lo - 2) ≤ i) && decide (i ≤ i + (hi - 2))) = _
    congr 1
    · exact decide_eq_decide.mpr ⟨fun _ => by omega, fun _ => by omega⟩
    · exact decide_eq_decide.mpr ⟨fun _ => by omega, fun _ => by omega⟩
  have w2 : withinV (.int i) .non (.int (i + (hi - 2))) = decide (0 ≤ hi - 2) := by
    show (true && decide (i ≤ i + (hi - 2))) = _
    rw [Bool.true_and]
    exact decide_eq_decide.mpr ⟨fun _ => by omega, fun _ => by omega⟩
  have w3 : withinV (.int i) (.int (i + (lo - 2))) .non = decide (lo - 2 ≤ 0) := by
    show (decide (i + (lo - 2) ≤ i) && true) = _
    rw [Bool.and_true]
    exact decide_eq_decide.mpr ⟨fun _ => by omega, fun _ => by omega⟩
  rw [w1, w2, w3]
  have sT := same_new (o := .lst [.bl (decide (lo - 2 ≤ 0) && decide (0 ≤ hi - 2)), .bl (decide (0 ≤ hi - 2)), .bl (decide (lo - 2 ≤ 0))]) htl
  generalize hH6 : upd H5 tl (.lst [.bl (decide (lo - 2 ≤ 0) && decide (0 ≤ hi - 2)), .bl (decide (0 ≤ hi - 2)), .bl (decide (lo - 2 ≤ 0))]) = H6 at sT
  have eT : H6 tl = some (.lst [.bl (decide (lo - 2 ≤ 0) && decide (0 ≤ hi - 2)), .bl (decide (0 ≤ hi - 2)), .bl (decide (lo - 2 ≤ 0))]) := by rw [← hH6]; exact upd_same
  have fin : ∀ (b : Bool) (H7 : Hp) (b' : Bool), b = (decide (lo - 2 ≤ 0) && decide (0 ≤ hi - 2)) → b' = decide (lo - 2 ≤ 0) → EqIs [.bl (decide (lo - 2 ≤ 0) && decide (0 ≤ hi - 2)), .bl (decide (0 ≤ hi - 2)), .bl (decide (lo - 2 ≤ 0))] [.bl b, .bl (decide (0 ≤ hi - 2)), .bl b'] [true, true, true] := by
    rintro b H7 b' rfl rfl
    exact .cons (.same _ (.inl rfl)) (.cons (.same _ (.inl rfl)) (.cons (.same _ (.inl rfl)) .nil))
  refine ⟨fun σ H' => (∃ v6 v7 v8 v9 v10 : Option V, σ = [some (.ref p), some (.int i), some odd, some (.int (lo - 2)), some (.int (hi - 2)), some (.ref tl), v6, v7, v8, v9, v10]) ∧ Same H6 H', ?_, ?_⟩
  · refine ⟨_, rfl, _, rfl, _, _, rfl, rfl, _, rfl, ?_⟩
    by_cases cl : lo - 2 ≤ 0
    · rw [decide_eq_true cl]
      refine iteT ⟨_, rfl, _, _, rfl, rfl, _, rfl, _, _, rfl, rfl, _, rfl, _, _, rfl, rfl, (by show 3 ≤ sizeLine; decide), fun m hm => ?_⟩
      have sm := same_new (o := .lst [.bl (decide (0 ≤ hi - 2)), .bl (decide (0 ≤ hi - 2)), .bl (decide (lo - 2 ≤ 0))]) hm
      refine ⟨tl, m, _, _, rfl, rfl, SqL.of (sm _ _ eT), SqL.of upd_same, .inr ⟨_, fin _ H6 _ (by rw [decide_eq_true cl]; rfl) rfl, _, rfl, iteF ?_⟩⟩
      refine ⟨_, rfl, .int i, .non, .non, _, rfl, HasTy.int i, .inl rfl, .inl rfl, true, true, rfl, rfl, _, rfl, iteF ?_⟩
      exact ⟨⟨_, _, _, _, _, rfl⟩, sm⟩
    · rw [decide_eq_false cl]
      refine iteF ⟨_, rfl, _, _, rfl, rfl, _, rfl, _, _, rfl, rfl, (by show 3 ≤ sizeLine; decide), fun m hm => ?_⟩
      have sm := same_new (o := .lst [.bl false, .bl (decide (0 ≤ hi - 2)), .bl (decide (lo - 2 ≤ 0))]) hm
      refine ⟨tl, m, _, _, rfl, rfl, SqL.of (sm _ _ eT), SqL.of upd_same, .inr ⟨_, fin _ H6 _ (by rw [decide_eq_false cl]; rfl) rfl, _, rfl, iteF ?_⟩⟩
      refine ⟨_, rfl, .int i, .non, .non, _, rfl, HasTy.int i, .inl rfl, .inl rfl, true, true, rfl, rfl, _, rfl, iteF ?_⟩
      exact ⟨⟨_, _, _, _, _, rfl⟩, sm⟩
  rintro σ7 H7 ⟨⟨v6, v7, v8, v9, v10, rfl⟩, s7⟩
  have hp7 := (hp5.same sT).same s7
  have K7 := K5.trans (Keep.of_same (sT.trans s7))
  have ho7 := ho5.keep (Keep.of_same (sT.trans s7))
  refine ⟨_, rfl, p, c, _, n + 5, rfl, hp7, by omega, by decide, by decide, fun m H8 e0 e1 k8 hp8 => ⟨_, rfl, by omega, by omega, fun D hD => ?_⟩⟩
  have nDp := hp8.ne hD
  have nDc := hp8.ne2 hD
  refine lc_range (lo := 0) (n := m.toNat) (fun j Hx => Keep p H8 Hx ∧ PenAt (n + 6 + j) Hx p c ∧ ∃ js : List Int, js.length = j ∧ (∀ z ∈ js, 0 ≤ z) ∧ Hx D = some (.lst (js.map V.int))) ?_ ?_ ?_
  · exact ⟨Keep.new hD, hp8.upd nDp nDc, [], rfl, by simp, upd_same⟩
  · rintro j Hx hj ⟨kx, hpx, js, ej, hz, hDx⟩
    refine ⟨rfl, _, rfl, _, _, rfl, rfl, ⟨by decide, by decide, by decide⟩, (by show 4 ≤ sizeLine; decide), fun l hl => ?_⟩
    refine ⟨p, c, l, _, n + 6 + j, rfl, hpx.same (same_new hl), by omega, hpx.ne hl, upd_same, List.cons_ne_nil _ _, (by show 4 ≤ 1000; decide), fun v H9 hv k9 hp9 => ?_⟩
    obtain ⟨z, rfl, z0⟩ : ∃ z : Int, v = .int z ∧ 0 ≤ z := by
      simp only [List.mem_cons, List.not_mem_nil, or_false] at hv
      rcases hv with rfl | rfl | rfl | rfl <;> exact ⟨_, rfl, by decide⟩
    have hD9 : H9 D = some (.lst (js.map V.int)) := k9 _ _ nDp ((same_new hl) _ _ hDx)
    refine ⟨_, hD9, ?_, ?_, ?_, js ++ [z], ?_, ?_, ?_⟩
    · rw [List.length_map, ej]
      exact small1000 (by omega)
    · intro b o nb hb
      rw [upd_ne (ne_of_none hb hD)]
      exact k9 _ _ nb ((same_new hl) _ _ (kx _ _ nb hb))
    · exact (hp9.upd nDp nDc).up (by omega)
    · rw [List.length_append, ej]
      rfl
    · intro y hy
      rcases List.mem_append.mp hy with h | h
      · exact hz y h
      · rw [List.mem_singleton.mp h]
        exact z0
    · rw [upd_same, List.map_append]
      rfl
  rintro Hr ⟨kr, hpr, js, ej, hz, hDr⟩
  have Kr := K7.trans (k8.trans kr)
  have hor := ho7.keep (k8.trans kr)
  have lj : js.length ≤ 4 := by omega
  have hpr := hpr.up (show n + 6 + m.toNat ≤ n + 10 by omega)
  have len1 : ((js.map V.int).length : Int) = (js.length : Int) := by rw [List.length_map]
  refine ⟨_, rfl, _, rfl, D, _, rfl, .inl (SqL.of hDr), _, _, rfl, rfl, p, c, _, n + 10, rfl, hpr, by omega, by omega, by omega, fun cut Ha f0 f1 ka hpa => ?_⟩
  have hora := hor.keep ka
  refine ⟨_, rfl, _, rfl, _, rfl, _, _, rfl, rfl, ⟨by decide, by decide, by decide⟩, _, rfl, (by show 5 ≤ sizeLine; decide), fun l3 hl3 => ?_⟩
  have sl3 := same_new (o := .lst [odd, .int (-1), .int (-(10 ^ (20 : Int).toNat)), .non, .str "0"]) hl3
  refine ⟨p, c, l3, _, n + 11, rfl, hpa.same sl3, by omega, hpa.ne hl3, upd_same, List.cons_ne_nil _ _, (by show 5 ≤ 1000; decide), fun w Hs hw ks hps => ?_⟩
  have Ks := Kr.trans (ka.trans ((Keep.of_same sl3).trans ks))
  have hsv : SV p Hs w := by
    have := hora.keep ((Keep.of_same sl3).trans ks)
    simp only [List.mem_cons, List.not_mem_nil, or_false] at hw
    rcases hw with rfl | rfl | rfl | rfl | rfl
    · exact .ov this
    · exact .neg (by decide)
    · exact .neg (by decide)
    · exact .ov .non
    · exact .ov (.str _)
  have hDs : Hs D = some (.lst (js.map V.int)) := ks _ _ nDp (sl3 _ _ (ka _ _ nDp hDr))
  have hnum : ∀ z ∈ js, numV (.int z) = true := fun z h => by
    show (decide (0 ≤ z) && true) = true
    rw [decide_eq_true (hz z h)]
    rfl
  have hall : (js.map V.int).all numV = true := by
    rw [List.all_map, List.all_eq_true]
    exact hnum
  have htys : ∀ H' : Hp, ∀ x ∈ js.map V.int, ∃ m, HasTy K H' x m := fun H' x hx => by
    obtain ⟨z, _, rfl⟩ := List.mem_map.mp hx
    exact ⟨_, HasTy.int z⟩
  have hlr : (js.map V.int).length ≤ 1000 := by rw [List.length_map]; omega
  refine ⟨_, rfl, .ref D, _, rfl, .lst hDs, .inr ⟨D, _, rfl, .inl ⟨rfl, hDs⟩, htys Hs, hlr, fun Hu su => ?_⟩⟩
  rw [hall]
  refine ⟨true, true, rfl, rfl, _, rfl, iteF ?_⟩
  refine ⟨_, rfl, D, _, rfl, .inl ⟨SqL.of (su _ _ hDs), fun tt htt => ⟨rfl, rfl, .ref tt, _, rfl, .tup upd_same, .inr ⟨tt, _, rfl, .inr ⟨rfl, upd_same⟩, htys _, hlr, fun Hv sv => ?_⟩⟩⟩⟩
  rw [hall]
  refine ⟨true, true, rfl, rfl, _, rfl, iteF ?_⟩
  have stt := same_new (o := .tup (js.map V.int)) htt
  have sV := su.trans (stt.trans sv)
  refine ⟨_, rfl, _, rfl, _, rfl, D, _, rfl, SqL.of (sV _ _ hDs), fun b1 hb1 => ?_⟩
  have q1 := same_new (o := .lst (cutV (js.map V.int) none (some cut))) hb1
  refine ⟨_, rfl, (by show 1 ≤ sizeLine; decide), fun b2 hb2 => ?_⟩
  have q2 := same_new (o := .lst [w]) hb2
  have c1 := cutV_length (js.map V.int) none (some cut)
  have c2 := cutV_length (js.map V.int) (some cut) none
  refine ⟨b1, b2, _, _, rfl, rfl, q2 _ _ upd_same, upd_same, Nat.le_of_lt (small1000 (by rw [List.length_singleton]; omega)), fun b3 hb3 => ?_⟩
  have q3 := same_new (o := .lst (cutV (js.map V.int) none (some cut) ++ [w])) hb3
  refine ⟨_, rfl, _, rfl, _, rfl, D, _, rfl, SqL.of ((sV.trans (q1.trans (q2.trans q3))) _ _ hDs), fun b4 hb4 => ?_⟩
  have q4 := same_new (o := .lst (cutV (js.map V.int) (some cut) none)) hb4
  have lsum : (cutV (js.map V.int) none (some cut) ++ [w]).length + (cutV (js.map V.int) (some cut) none).length ≤ 1000 := by
    rw [List.length_append, List.length_singleton]
    rw [List.length_map] at c1 c2
    omega
  refine ⟨b3, b4, _, _, rfl, rfl, q4 _ _ upd_same, upd_same, Nat.le_of_lt (small1000 lsum), fun b5 hb5 => ?_⟩
  have q5 := same_new (o := .lst ((cutV (js.map V.int) none (some cut) ++ [w]) ++ cutV (js.map V.int) (some cut) none)) hb5
  have sW := sV.trans (q1.trans (q2.trans (q3.trans (q4.trans q5))))
  have mem_cut : ∀ (a b : Option Int) (x : V), x ∈ cutV (js.map V.int) a b → x ∈ js.map V.int := fun a b x hx => List.mem_of_mem_drop (List.mem_of_mem_take hx)
  refine ⟨.ref b5, _, rfl, .lst upd_same, .inr ⟨b5, _, rfl, .inl ⟨rfl, upd_same⟩, fun x hx => ?_, by rw [List.length_append]; exact lsum, fun Hy sy => ?_⟩⟩
  · rcases List.mem_append.mp hx with h | h
    · rcases List.mem_append.mp h with h | h
      · exact htys _ x (mem_cut _ _ x h)
      · rw [List.mem_singleton.mp h]
        exact (hsv.keep (Keep.of_same sW)).ty
    · exact htys _ x (mem_cut _ _ x h)
  have hno : ((cutV (js.map V.int) none (some cut) ++ [w]) ++ cutV (js.map V.int) (some cut) none).all numV = false := by
    rw [List.all_append, List.all_append]
    show (_ && (numV w && true) && _) = false
    rw [hsv.noNum, Bool.false_and, Bool.and_false, Bool.false_and]
  rw [hno]
  refine ⟨false, false, rfl, rfl, _, rfl, iteF ?_⟩
  have sY := sW.trans sy
  intro dp hdp
  have z1 := same_new (o := .dK (mergeK [] [(Sum.inl 0, V.int 1)])) hdp
  refine ⟨upd_same, [(Sum.inl 0, V.int 1)], rfl, by decide, (by show 6 ≤ sizeLine; decide), fun tz htz => ?_⟩
  have hdp2 : (upd (upd Hy dp (.dK [])) dp (.dK (mergeK [] [(Sum.inl 0, V.int 1)]))) = upd Hy dp (.dK (mergeK [] [(Sum.inl 0, V.int 1)])) := upd_upd
  rw [hdp2] at htz ⊢
  have z2 := same_new (o := .tup [.non, .int 5, .str "01", .ref dp, .str "", .bl true]) htz
  refine ⟨tz, rfl, ⟨_, SqT.of upd_same⟩, fun D2 hD2 => ?_⟩
  have z3 := same_new (o := .lst []) hD2
  refine lc_tup (K := K) (a := tz) (xs := [.non, .int 5, .str "01", .ref dp, .str "", .bl true]) (fun _ Hx => Same (upd (upd (upd Hy dp (.dK (mergeK [] [(Sum.inl 0, V.int 1)]))) tz (.tup [.non, .int 5, .str "01", .ref dp, .str "", .bl true])) D2 (.lst [])) Hx) ?_ ?_ ?_ ?_
  · exact Same.refl _
  · rintro _ Hx _ sx
    exact SqT.of (sx _ _ (z3 _ _ upd_same))
  · rintro j x Hx hx sx
    have hty : ∃ n, HasTy K Hx x n ∧ n ≠ "list" ∧ n ≠ "tuple" := by
      match j, hx with
      | 0, hx => cases hx; exact ⟨_, .non, by decide, by decide⟩
      | 1, hx => cases hx; exact ⟨_, .int _, by decide, by decide⟩
      | 2, hx => cases hx; exact ⟨_, .str _, by decide, by decide⟩
      | 3, hx => cases hx; exact ⟨_, .dct (sx _ _ (z3 _ _ (z2 _ _ upd_same))), by decide, by decide⟩
      | 4, hx => cases hx; exact ⟨_, .str _, by decide, by decide⟩
      | 5, hx => cases hx; exact ⟨_, .bl _, by decide, by decide⟩
      | j + 6, hx => cases hx
    obtain ⟨n, hn, n1, n2⟩ := hty
    refine ⟨rfl, _, rfl, x, n, rfl, hn, .inl ⟨n1, n2, fun Hx' sx' => ?_⟩⟩
    exact ⟨false, false, rfl, rfl, _, rfl, iteF (sx.trans sx')⟩
  rintro Hx sx
  have hD2x := sx _ _ (upd_same (H := upd (upd Hy dp (.dK (mergeK [] [(Sum.inl 0, V.int 1)]))) tz (.tup [.non, .int 5, .str "01", .ref dp, .str "", .bl true])) (a := D2) (o := .lst []))
  refine ⟨Nat.zero_le _, fun m9 hm9 => ?_⟩
  have z4 := same_new (o := .lst []) hm9
  refine ⟨D2, m9, _, _, rfl, rfl, SqL.of (z4 _ _ hD2x), SqL.of upd_same, .inr ⟨[], .nil, ?_⟩⟩
  have sZ := sY.trans (z1.trans (z2.trans (z3.trans (sx.trans z4))))
  exact q _ (Ks.trans (Keep.of_same sZ)) ((hps.same sZ).up (by omega))
end
end TA
namespace TA
open PySem PySem.Spec L2
open PyProof.Rows hiding St
/-- text * number -/
def rMulS : R2 := fun x y H Q => ∃ (z : Str) (n : Int), x = .str z ∧ y = .int n ∧ MulOk z n ∧ Q (.str (Txt.mul z n)) H
theorem op_mulS {X : Cx} : OpR X (binaryOp .Mult) rMulS := by
  intro pins s σ H x y v u Q I rx ry h
  obtain ⟨z, n, rfl, rfl, hm, q⟩ := h
  obtain ⟨t, rfl⟩ := (show ∃ t, v = Value.str z t from rx)
  obtain ⟨t', rfl⟩ := (show ∃ t, u = Value.int n t from ry)
  exact SB.mul hm fun t' k => ⟨.str _, H, I.tok k, ⟨t', rfl⟩, q⟩
def tx (l : List Nat) : Str := ⟨l.toArray⟩
theorem tx_tl (l : List Nat) : (tx l).cps.toList = l := rfl
theorem tx_len (l : List Nat) : (tx l).length = l.length := by simp [tx, Str.length]
theorem of_tl (z : Str) : z = tx z.cps.toList := TL.ext_tl rfl
theorem app_tl (x y : Str) : (x ++ y).cps.toList = x.cps.toList ++ y.cps.toList := TL.tl_append x y
theorem len_tl (z : Str) : z.length = z.cps.toList.length := by simp [Str.length]
theorem join_tx : ∀ cs : List Nat, Txt.join "" (cs.map fun c => tx [c]) = tx cs := by
  intro cs
  refine TL.ext_tl ?_
  show (Builtin.Str.glued "" (cs.map fun c => tx [c])).cps.toList = cs
  have fold : ∀ (r : List Nat) (acc : Array Nat), ((r.map fun c => tx [c]).foldl (fun acc p => acc ++ ("" : Str).cps ++ p.cps) acc).toList = acc.toList ++ r := by
    intro r
    induction r with
    | nil => intro acc; simp
    | cons c r ih =>
      intro acc
      rw [List.map_cons, List.foldl_cons, ih]
      have : ("" : Str).cps = #[] := by decide +kernel
      rw [this]
      simp [tx]
  cases cs with
  | nil => rfl
  | cons c r =>
    show (((r.map fun c => tx [c])).foldl (fun acc p => acc ++ ("" : Str).cps ++ p.cps) (tx [c]).cps).toList = c :: r
    rw [fold]
    rfl
theorem sum_tx : ∀ l : List Nat, ((l.map fun c => tx [c]).map (·.length)).sum = l.length
  | [] => rfl
  | c :: r => by
    rw [List.map_cons, List.map_cons, List.sum_cons, sum_tx r, tx_len]
    show 1 + r.length = r.length + 1
    omega
theorem cut_len (z : Str) (lo hi : Option Int) : (cutS z lo hi).length ≤ z.length := by
  rw [len_tl, len_tl z]
  show ((z.cps.toList.drop _).take _).length ≤ _
  rw [List.length_take, List.length_drop]
  omega
theorem app_len (x y : Str) : (x ++ y).length = x.length + y.length := by rw [len_tl, app_tl, List.length_append, ← len_tl, ← len_tl]
theorem mul2ok {X : Str} (h : X.length ≤ 1) : MulOk X 2 := by
  refine ⟨by decide, ?_, ?_⟩
  · intro _ _
    have : ((2 : Int) ^ 63 - 1) / 2 = 4611686018427387903 := by decide
    rw [this]
    omega
  · intro _ _
    refine decide_eq_false ?_
    rw [sizeLine_eq, show (2 : Int).toNat = 2 from rfl]
    omega
/-! ### names and what is none -/
def signC (c : Nat) : Bool := letC c || digC c
theorem nb_all {z : Str} (h : z.cps.toList.all signC = false) : nameB z = false := by
  unfold nameB
  rw [show (z.cps.toList.all fun c => letC c || digC c) = false from h, Bool.and_false, Bool.and_false, Bool.and_false]
theorem nb_head {z : Str} (h : headC z.cps.toList = false) : nameB z = false := by
  unfold nameB
  rw [h, Bool.false_and, Bool.and_false, Bool.and_false]
theorem nb_len {z : Str} (h : z.length = 13) : nameB z = false := by
  unfold nameB
  rw [h]
  show (_ && (false && _)) = false
  rw [Bool.false_and, Bool.and_false]
theorem nb_mem {z : Str} {c : Nat} (h : c ∈ z.cps.toList) (n : signC c = false) : nameB z = false := nb_all (by
  rw [List.all_eq_false]
  exact ⟨c, h, by rw [n]; decide⟩)
theorem nb_good {c : Nat} {r : List Nat} (hc : letC c = true) (hr : ∀ x ∈ r, signC x = true) (hl : r.length ≤ 11) : nameB (tx (c :: r)) = !inV (.str (tx (c :: r))) [.str "of", .str "to"] := by
  have e1 : withinV (.int ((tx (c :: r)).length : Int)) (.int 1) (.int 12) = true := by
    rw [tx_len, List.length_cons]
    show (decide (1 ≤ ((r.length + 1 : Nat) : Int)) && decide (((r.length + 1 : Nat) : Int) ≤ 12)) = true
    rw [decide_eq_true (by omega), decide_eq_true (by omega)]
    rfl
  have e2 : ((tx (c :: r)).cps.toList.all fun c => letC c || digC c) = true := by
    show (signC c && r.all signC) = true
    rw [List.all_eq_true.mpr hr]
    unfold signC
    rw [hc]
    rfl
  unfold nameB
  rw [e1, e2]
  show (_ && (true && (letC c && true))) = _
  rw [hc]
  simp
theorem dig10 : ∀ k : Nat, k < 10 → headC (Str.ofString (toString (k : Int))).cps.toList = false ∧ (Str.ofString (toString (k : Int))).length = 1 := by decide +kernel
theorem x13 : ∀ k : Nat, k < 14 → (Txt.mul "x" (k : Int)).length = k := by decide +kernel
theorem x13ok : ∀ k : Nat, k < 14 → MulOk "x" (k : Int) := by
  intro k hk
  refine ⟨?_, ?_, ?_⟩
  · simp
    omega
  · intro hk1 _
    have : (("x" : Str).length : Int) = 1 := by decide +kernel
    rw [this]
    match k, hk with
    | 0, _ => exact absurd (by decide) hk1
    | 1, _ => decide
    | 2, _ => decide
    | 3, _ => decide
    | 4, _ => decide
    | 5, _ => decide
    | 6, _ => decide
    | 7, _ => decide
    | 8, _ => decide
    | 9, _ => decide
    | 10, _ => decide
    | 11, _ => decide
    | 12, _ => decide
    | 13, _ => decide
  · intro _ _
    have : ("x" : Str).length = 1 := by decide +kernel
    rw [this, Int.toNat_natCast]
    refine decide_eq_false ?_
    rw [sizeLine_eq]
    omega
theorem up_no : ∀ c ∈ ("abcdefghijklmnopqrstuvwxyz" : Str).cps.toList, letC (up1 c) = false := by decide +kernel
theorem sign128 : ∀ c ∈ ("abcdefghijklmnopqrstuvwxyz0123456789" : Str).cps.toList, c < 128 ∧ signC c = true := by decide +kernel
theorem let_lt : ∀ c ∈ ("abcdefghijklmnopqrstuvwxyz" : Str).cps.toList, c < 128 := by decide +kernel
theorem dig_lt : ∀ c ∈ ("0123456789" : Str).cps.toList, c < 128 := by decide +kernel
theorem sign_lt {z : Nat} (h : signC z = true) : z < 128 := by
  rcases Bool.or_eq_true_iff.mp h with h | h
  · exact let_lt z (of_decide_eq_true h)
  · exact dig_lt z (of_decide_eq_true h)
theorem up_bad {c : Nat} {cs : List Nat} {nm : Str} (e : nm.cps.toList = c :: cs) (hc : letC c = true) (hs : ∀ z ∈ cs, signC z = true) : nameB (Txt.upper nm) = false := by
  refine nb_head ?_
  have hA : ∀ z ∈ nm.cps.toList, z < 128 := by
    intro z hz
    rw [e] at hz
    rcases List.mem_cons.mp hz with rfl | hz
    · exact let_lt z (of_decide_eq_true hc)
    · exact sign_lt (hs z hz)
  rw [PyProof.Rows.upper_ascii hA]
  show headC (nm.cps.map up1).toList = false
  rw [Array.toList_map, e]
  exact up_no c (of_decide_eq_true hc)
end TA
namespace TA
open PySem PySem.Spec L2
open PyProof.Rows hiding St
abbrev sNames : Stmt := top 34
theorem scNames : FnScope ["pen", "first", "rest", "signs", "turn", "name", "at", "bent", "odd", "value"] ["pen"] (defScope sNames) := ⟨rfl, rfl, rfl, by decide +kernel, rfl, by decide +kernel, by decide +kernel⟩
section
variable {P : Program} {w : World} {K : PySem.W.Frag} {mg : Str → Option Value} {base : Heap} {f f1 f2 f3 : Addr} {fd d1 d2 d3 : FuncData}
theorem ok_names (F : Fun K "_law_names_right" "_law_names_right" sNames f fd) (T : Bn mg)
    (D__law_draw : Df K mg "_law_draw" sDraw f1 d1 ["pen", "many"]) (G__law_draw : FnOk P w K mg base CX0 1 f1 d1 ["pen", "many"] spDraw)
    (D__law_pick : Df K mg "_law_pick" sPick f2 d2 ["pen", "some"]) (G__law_pick : FnOk P w K mg base CX0 2 f2 d2 ["pen", "some"] (spPick K))
    (D_is_name : Df K mg "is_name" sName f3 d3 ["value"]) (G_is_name : FnOk P w K mg base CX0 3 f3 d3 ["value"] (spName K)) (BNm : KBn K d3 ["value"] 0 ["value"] (fun us ws => us ++ ws) (fun vs zs => vs ++ zs)) :
    FnOk P w K mg base CX0 4 f fd ["pen"] spInts := by
  refine F.ok scNames (fun vs H Q E h => ?_) (fun cdv A outer s H vs Q E hr h => ?_)
  · obtain ⟨p, c, n, rfl, _⟩ := h
    rfl
  obtain ⟨p, c, n, rfl, hp, hn, q⟩ := h
  refine ⟨_, (pss_cons (ps_asg (pe_tup (pa_cons pe_str (pa_cons pe_str pa_nil))) (pg_tup (by rfl) (pgs_cons (pg_name (i := 1) scNames.nd rfl (.inl rfl)) (pgs_cons (pg_name (i := 2) scNames.nd rfl (.inr rfl)) pgs_nil))))
      (pss_cons (ps_set (i := 3) scNames.nd rfl (.inl rfl) (pe_op op_cat (pe_lst (pa_cons (pe_cd D__law_pick G__law_pick hr (by decide) (pa_cons (pv 0) (pa_cons (pe_callTy (call_listS (by rfl)) (by rfl) T.b_list (by decide +kernel) (pa_cons (pv 1) pa_nil)) pa_nil))) pa_nil)) (pe_lc (own := [("turn", 4)]) (g := gName 4) (by rfl) scNames.nd (pi_range1 (by rfl) T.b_range (pa_cons (pe_cd D__law_pick G__law_pick hr (by decide) (pa_cons (pv 0) (pa_cons (pe_lst (pa_cons pe_int (pa_cons pe_int (pa_cons pe_int (pa_cons pe_int (pa_cons pe_int pa_nil)))))) pa_nil))) pa_nil)) (blkOk_by (own := [("turn", 4)]) (N := ["pen", "first", "rest", "signs", "turn", "name", "at", "bent", "odd", "value"]) (sc := defScope sNames) (by decide +kernel)) (fun _ _ _ _ _ => (pg_name (i := 4) scNames.nd rfl (.inl rfl))) (fun _ _ _ _ _ => pts_nil) (fun _ _ _ _ _ => (pe_cd D__law_pick G__law_pick hr (by decide) (pa_cons (pv 0) (pa_cons (pe_callTy (call_listS (by rfl)) (by rfl) T.b_list (by decide +kernel) (pa_cons (pv 2) pa_nil)) pa_nil)))))))
      (pss_cons (ps_set (i := 5) scNames.nd rfl (.inl rfl) (pe_join pe_str (pv 3)))
      (pss_cons (ps_if (pt_cmpR op_ne (pe_cdk0 D_is_name G_is_name BNm hr (by decide) (pk_cons (pv 5) pk_nil)) (pe_cmpR op_notIn_seq (pv 5) (pe_tup (pa_cons pe_str (pa_cons pe_str pa_nil))) (by rfl)) (nomark _)) (pss_one (ps_ret pe_bl)) pss_nil)
      (pss_cons (ps_set (i := 6) scNames.nd rfl (.inl rfl) (pe_cd D__law_draw G__law_draw hr (by decide) (pa_cons (pv 0) (pa_cons (pe_callB call_len_seq (by rfl) T.b_len (by decide +kernel) (pa_cons (pv 3) pa_nil)) pa_nil))))
      (pss_cons (ps_set (i := 7) scNames.nd rfl (.inl rfl) (pe_lst (pa_cons (pe_op op_add_str (pe_op op_add_str (pe_op op_add_str (pe_slice sl_str (pv 5) po_none (po_some (pv 6))) (pe_op op_mulS (pe_cd D__law_pick G__law_pick hr (by decide) (pa_cons (pv 0) (pa_cons (pe_lst (pa_cons pe_str (pa_cons pe_str (pa_cons pe_str (pa_cons pe_str (pa_cons pe_str (pa_cons pe_str (pa_cons pe_str pa_nil)))))))) pa_nil))) pe_int)) (pe_slice sl_str (pv 5) (po_some (pe_op op_add (pv 6) pe_int)) po_none)) pe_str) (pa_cons (pe_op op_add_str (pe_callTy call_str_int (by rfl) T.b_str (by decide +kernel) (pa_cons (pe_cd D__law_draw G__law_draw hr (by decide) (pa_cons (pv 0) (pa_cons pe_int pa_nil))) pa_nil)) (pe_slice sl_str (pv 5) (po_some pe_int) po_none)) (pa_cons (pe_op op_add_str (pv 5) (pe_op op_mulS pe_str (pe_op op_sub pe_int (pe_callB call_len_str (by rfl) T.b_len (by decide +kernel) (pa_cons (pv 5) pa_nil))))) pa_nil)))))
      (pss_cons (ps_set (i := 8) scNames.nd rfl (.inl rfl) (pe_op op_cat (pv 7) (pe_lst (pa_cons pe_str (pa_cons pe_str (pa_cons pe_str (pa_cons pe_str (pa_cons pe_non (pa_cons pe_int (pa_cons pe_bl (pa_cons (pe_lst (pa_cons (pv 5) pa_nil)) (pa_cons (pe_tup (pa_cons (pv 5) pa_nil)) (pa_cons (pe_upper (pv 5)) (pa_cons (pe_op op_add_str (pv 5) pe_str) (pa_cons (pe_op op_add_str pe_str (pv 5)) (pa_cons (pe_op op_add_str (pv 5) pe_str) (pa_cons (pe_disp (pps_cons (pv 5) pe_int pps_nil) (by rfl) (by rfl) (fun z => by cases z) (by decide)) pa_nil)))))))))))))))))
      (pss_cons (ps_if (pt_cmpR (op_neL hr.units0) (pe_lc (own := [("value", 9)]) (g := gName 9) (by rfl) scNames.nd (pi_list (pv 8)) (blkOk_by (own := [("value", 9)]) (N := ["pen", "first", "rest", "signs", "turn", "name", "at", "bent", "odd", "value"]) (sc := defScope sNames) (by decide +kernel)) (fun _ _ _ _ _ => (pg_name (i := 9) scNames.nd rfl (.inl rfl))) (fun _ _ _ _ _ => (pts_one (pt_cmpR op_notBl (pe_cd D_is_name G_is_name hr (by decide) (pa_cons (pv 9) pa_nil)) pe_bl (nomark _)))) (fun _ _ _ _ _ => (pv 9))) (pe_lst pa_nil) (nomark _)) (pss_one (ps_ret pe_bl)) pss_nil)
      (pss_one (ps_ret (pe_and (pe_cmpR op_isBl (pe_cd D_is_name G_is_name hr (by decide) (pa_cons pe_str pa_nil)) pe_bl (nomark _)) (pe_and (pe_cmpR op_isBl (pe_cd D_is_name G_is_name hr (by decide) (pa_cons pe_str pa_nil)) pe_bl (nomark _)) (pe_and (pe_cmpR op_isBl (pe_cd D_is_name G_is_name hr (by decide) (pa_cons pe_str pa_nil)) pe_bl (nomark _)) (pe_one (pe_cmpR op_isBl (pe_cd D_is_name G_is_name hr (by decide) (pa_cons pe_str pa_nil)) pe_bl (nomark _)))))))))))))))), ?_⟩
  refine ⟨(by show 2 ≤ sizeLine; decide), fun t0 ht0 => ⟨t0, _, rfl, SqT.of upd_same, rfl, _, _, rfl, _, _, rfl, rfl, ?_⟩⟩
  have s0 := same_new (o := .tup [.str "abcdefghijklmnopqrstuvwxyz", .str "abcdefghijklmnopqrstuvwxyz0123456789"]) ht0
  generalize hH0 : upd H t0 (.tup [.str "abcdefghijklmnopqrstuvwxyz", .str "abcdefghijklmnopqrstuvwxyz0123456789"]) = H0 at s0
  have hp0 := hp.same s0
  refine ⟨_, rfl, _, rfl, _, rfl, (by decide +kernel), fun l1 hl1 => ?_⟩
  have s1 := same_new (o := .lst (("abcdefghijklmnopqrstuvwxyz" : Str).cps.toList.map fun c => V.str ⟨#[c]⟩)) hl1
  refine ⟨p, c, l1, _, n, rfl, hp0.same s1, by omega, hp0.ne hl1, upd_same, (by decide +kernel), (by decide +kernel), fun v H1 hv k1 hp1 => ?_⟩
  obtain ⟨c0, hc0, rfl⟩ := List.mem_map.mp hv
  have K1 : Keep p H H1 := (Keep.of_same (s0.trans s1)).trans k1
  have lc0 : letC c0 = true := decide_eq_true hc0
  refine ⟨(by show 1 ≤ sizeLine; decide), fun l2 hl2 => ?_⟩
  have s2 := same_new (o := .lst [.str ⟨#[c0]⟩]) hl2
  generalize hH2 : upd H1 l2 (.lst [.str ⟨#[c0]⟩]) = H2 at s2
  have hl2' : H2 l2 = some (.lst [.str ⟨#[c0]⟩]) := by rw [← hH2]; exact upd_same
  have hp2 := hp1.same s2
  refine ⟨_, rfl, (by show 5 ≤ sizeLine; decide), fun l3 hl3 => ?_⟩
  have s3 := same_new (o := .lst [.int 0, .int 1, .int 2, .int 5, .int 11]) hl3
  refine ⟨p, c, l3, _, n + 1, rfl, hp2.same s3, by omega, hp2.ne hl3, upd_same, List.cons_ne_nil _ _, (by show 5 ≤ 1000; decide), fun v H3 hv k3 hp3 => ?_⟩
  obtain ⟨m, rfl, m0, m1⟩ : ∃ m : Int, v = .int m ∧ 0 ≤ m ∧ m ≤ 11 := by
    simp only [List.mem_cons, List.not_mem_nil, or_false] at hv
    rcases hv with rfl | rfl | rfl | rfl | rfl <;> exact ⟨_, rfl, by decide, by decide⟩
  have nl2 : l2 ≠ p := hp1.ne hl2
  refine ⟨_, rfl, by omega, by omega, fun D hD => ?_⟩
  have nDp := hp3.ne hD
  have nDc := hp3.ne2 hD
  refine lc_range (lo := 0) (n := m.toNat) (fun j Hx => Keep p H3 Hx ∧ PenAt (n + 2 + j) Hx p c ∧ ∃ cs : List Nat, cs.length = j ∧ (∀ z ∈ cs, signC z = true) ∧ Hx D = some (.lst (cs.map fun c => V.str ⟨#[c]⟩))) ?_ ?_ ?_
  · exact ⟨Keep.new hD, hp3.upd nDp nDc, [], rfl, by simp, upd_same⟩
  · rintro j Hx hj ⟨kx, hpx, cs, ej, hz, hDx⟩
    refine ⟨rfl, _, rfl, _, rfl, _, rfl, (by decide +kernel), fun l hl => ?_⟩
    refine ⟨p, c, l, _, n + 2 + j, rfl, hpx.same (same_new hl), by omega, hpx.ne hl, upd_same, (by decide +kernel), (by decide +kernel), fun v H9 hv k9 hp9 => ?_⟩
    obtain ⟨z, hz2, rfl⟩ := List.mem_map.mp hv
    have hD9 : H9 D = some (.lst (cs.map fun c => V.str ⟨#[c]⟩)) := k9 _ _ nDp ((same_new hl) _ _ hDx)
    refine ⟨_, hD9, ?_, ?_, ?_, cs ++ [z], ?_, ?_, ?_⟩
    · rw [List.length_map, ej]
      exact small1000 (by omega)
    · intro b o nb hb
      rw [upd_ne (ne_of_none hb hD)]
      exact k9 _ _ nb ((same_new hl) _ _ (kx _ _ nb hb))
    · exact (hp9.upd nDp nDc).up (by omega)
    · rw [List.length_append, ej]
      rfl
    · intro y hy
      rcases List.mem_append.mp hy with h | h
      · exact hz y h
      · rw [List.mem_singleton.mp h]
        exact (sign128 z hz2).2
    · rw [upd_same, List.map_append]
      rfl
  rintro H4 ⟨k4, hp4, cs, ej, hz, hD4⟩
  have hp4 := hp4.up (show n + 2 + m.toNat ≤ n + 13 by omega)
  have lcs : cs.length ≤ 11 := by omega
  have K4 : Keep p H H4 := (K1.trans (Keep.of_same s2)).trans (((Keep.of_same s3).trans k3).trans k4)
  have e2 := k4 _ _ nl2 (k3 _ _ nl2 (s3 _ _ hl2'))
  refine ⟨l2, D, _, _, rfl, rfl, e2, hD4, Nat.le_of_lt (small1000 (by rw [List.length_map, List.length_singleton]; omega)), fun sg hsg => ?_⟩
  have s5 := same_new (o := .lst ([.str ⟨#[c0]⟩] ++ cs.map fun c => V.str ⟨#[c]⟩)) hsg
  have eS : ([.str ⟨#[c0]⟩] ++ cs.map fun c => V.str ⟨#[c]⟩ : List V) = ((c0 :: cs).map fun c => tx [c]).map V.str := by
    rw [List.map_map]
    rfl
  generalize hH5 : upd H4 sg (.lst ([.str ⟨#[c0]⟩] ++ cs.map fun c => V.str ⟨#[c]⟩)) = H5 at s5
  have hsg5 : H5 sg = some (.lst (((c0 :: cs).map fun c => tx [c]).map V.str)) := by rw [← hH5, upd_same, eS]
  have hp5 := hp4.same s5
  have K5 := K4.trans (Keep.of_same s5)
  refine ⟨⟨_, rfl⟩, _, rfl, "", sg, (c0 :: cs).map fun c => tx [c], rfl, rfl, .inl (SqL.of hsg5), ?_, ?_⟩
  · have e1 : (((c0 :: cs).map fun c => tx [c]).map (·.length)).sum = cs.length + 1 := sum_tx _
    have e2 : ("" : Str).length = 0 := by decide +kernel
    show (((c0 :: cs).map fun c => tx [c]).map (·.length)).sum + _ * ("" : Str).length ≤ _
    rw [e1, e2, Nat.mul_zero]
    omega
  rw [join_tx]
  have good := nb_good lc0 hz lcs
  have ln : (tx (c0 :: cs)).length = cs.length + 1 := tx_len _
  have tl0 : (tx (c0 :: cs)).cps.toList = c0 :: cs := rfl
  generalize hnm : tx (c0 :: cs) = nm at good ln tl0
  have lz : nm.length ≤ sizeLine := Nat.le_of_lt (small1000 (by omega))
  refine ⟨_, rfl, rfl, rfl, .str nm, _, rfl, HasTy.str nm, fun z e => by cases e; omega, fun H6 s6 => ?_⟩
  refine ⟨_, rfl, (by show 2 ≤ sizeLine; decide), fun tp htp => ⟨tp, _, rfl, .inr (SqT.of upd_same), rfl, rfl, rfl, _, rfl, ?_⟩⟩
  have s7 := s6.trans (same_new (o := .tup [.str "of", .str "to"]) htp)
  refine ite2 (fun hc => ?_) (fun _ => ?_)
  · exfalso
    have e1 : nameV (.str nm) = !inV (.str nm) [.str "of", .str "to"] := good
    simp [e1] at hc
  generalize hH7 : upd H6 tp (.tup [.str "of", .str "to"]) = H7 at s7
  have hp7 := hp5.same s7
  refine ⟨_, rfl, _, rfl, sg, _, rfl, .inl (SqL.of (s7 _ _ hsg5)), p, c, _, n + 13, rfl, hp7, by omega, by simp <;> omega, by simp <;> omega, fun ct H8 _ _ k8 hp8 => ?_⟩
  refine ⟨_, rfl, _, rfl, _, rfl, nm, rfl, lz, ?_⟩
  refine ⟨_, rfl, (by show 7 ≤ sizeLine; decide), fun l9 hl9 => ?_⟩
  have s9 := same_new (o := .lst [.str "A", .str "-", .str "_", .str " ", .str ".", .str "\n", .str ""]) hl9
  refine ⟨p, c, l9, _, n + 14, rfl, hp8.same s9, by omega, hp8.ne hl9, upd_same, List.cons_ne_nil _ _, (by show 7 ≤ 1000; decide), fun v H9 hv k9 hp9 => ?_⟩
  obtain ⟨X, rfl, mX, lX⟩ : ∃ X : Str, v = .str X ∧ MulOk X 2 ∧ (Txt.mul X 2).length ≤ 2 := by
    simp only [List.mem_cons, List.not_mem_nil, or_false] at hv
    rcases hv with rfl | rfl | rfl | rfl | rfl | rfl | rfl <;> exact ⟨_, rfl, mul2ok (by decide +kernel), by decide +kernel⟩
  have lc1 := cut_len nm none (some ct)
  have lc2 := cut_len nm (some (ct + 1)) none
  have lc3 := cut_len nm (some 1) none
  have l1 : ∀ s : Str, s.length ≤ 900 → s.length ≤ sizeLine := fun s h => Nat.le_of_lt (small1000 (by omega))
  have one : ∀ s : Str, s = "!" ∨ s = " " ∨ s = "\n" → s.length = 1 := by
    rintro s (rfl | rfl | rfl) <;> decide +kernel
  refine ⟨X, 2, rfl, rfl, mX, _, _, rfl, rfl, Nat.le_of_lt (small1000 (by omega)), ?_⟩
  refine ⟨_, rfl, _, rfl, _, _, rfl, rfl, _, rfl, nm, rfl, lz, _, _, rfl, rfl, Nat.le_of_lt (small1000 (by rw [app_len]; omega)), ?_⟩
  refine ⟨_, _, rfl, rfl, Nat.le_of_lt (small1000 (by rw [app_len, app_len, one "!" (.inl rfl)]; omega)), ?_⟩
  refine ⟨_, rfl, p, c, _, n + 15, rfl, hp9, by omega, by decide, by decide, fun d HA d0 d1 kA hpA => ?_⟩
  have hd10 := dig10 d.toNat (by omega)
  rw [show ((d.toNat : Nat) : Int) = d from by omega] at hd10
  refine ⟨_, rfl, Nat.lt_of_le_of_lt (Nat.log2_le_self _) (by omega), ?_⟩
  refine ⟨_, rfl, _, rfl, nm, rfl, lz, _, _, rfl, rfl, Nat.le_of_lt (small1000 (by rw [hd10.2]; omega)), ?_⟩
  have hk : (13 : Int) - (nm.length : Int) = ((13 - nm.length : Nat) : Int) := by omega
  have hx1 := x13 (13 - nm.length) (by omega)
  have hx2 := x13ok (13 - nm.length) (by omega)
  rw [← hk] at hx1 hx2
  refine ⟨_, rfl, _, rfl, nm, rfl, lz, _, _, rfl, rfl, "x", _, rfl, rfl, hx2, _, _, rfl, rfl, Nat.le_of_lt (small1000 (by rw [hx1]; omega)), ?_⟩
  refine ⟨(by show 3 ≤ sizeLine; decide), fun bl hbl => ?_⟩
  have b1 : nameB (cutS nm none (some ct) ++ Txt.mul X 2 ++ cutS nm (some (ct + 1)) none ++ "!") = false := nb_mem (c := 33) (by rw [app_tl]; exact List.mem_append_right _ (by decide +kernel)) (by decide +kernel)
  have b2 : nameB (Str.ofString (toString d) ++ cutS nm (some 1) none) = false := by
    refine nb_head ?_
    rw [app_tl]
    have e := hd10.1
    have e2 := hd10.2
    rw [len_tl] at e2
    generalize (Str.ofString (toString d)).cps.toList = dl at e e2
    match dl, e2, e with
    | [x], _, e => exact e
  have b3 : nameB (nm ++ Txt.mul "x" (13 - (nm.length : Int))) = false := nb_len (by rw [app_len, hx1]; omega)
  have z1 : (cutS nm none (some ct) ++ Txt.mul X 2 ++ cutS nm (some (ct + 1)) none ++ "!").length ≤ 1000 := by rw [app_len, app_len, app_len, one "!" (.inl rfl)]; omega
  have z2 : (Str.ofString (toString d) ++ cutS nm (some 1) none).length ≤ 1000 := by rw [app_len, hd10.2]; omega
  have z3 : (nm ++ Txt.mul "x" (13 - (nm.length : Int))).length ≤ 1000 := by rw [app_len, hx1]; omega
  generalize (cutS nm none (some ct) ++ Txt.mul X 2 ++ cutS nm (some (ct + 1)) none ++ "!") = B1 at b1 z1 ⊢
  generalize (Str.ofString (toString d) ++ cutS nm (some 1) none) = B2 at b2 z2 ⊢
  generalize (nm ++ Txt.mul "x" (13 - (nm.length : Int))) = B3 at b3 z3 ⊢
  have sbl := same_new (o := .lst [.str B1, .str B2, .str B3]) hbl
  generalize hHB : upd HA bl (.lst [.str B1, .str B2, .str B3]) = HB at sbl
  have ebl : HB bl = some (.lst [.str B1, .str B2, .str B3]) := by rw [← hHB]; exact upd_same
  have hpB := hpA.same sbl
  refine ⟨_, rfl, _, rfl, (by show 1 ≤ sizeLine; decide), fun o1 ho1 => ?_⟩
  have so1 := same_new (o := .lst [.str nm]) ho1
  refine ⟨_, rfl, (by show 1 ≤ sizeLine; decide), fun o2 ho2 => ?_⟩
  have so2 := same_new (o := .tup [.str nm]) ho2
  refine ⟨_, rfl, ⟨_, rfl⟩, nm, rfl, rfl, by omega, ?_⟩
  refine ⟨_, rfl, _, _, rfl, rfl, Nat.le_of_lt (small1000 (by rw [one " " (.inr (.inl rfl))]; omega)), ?_⟩
  refine ⟨_, rfl, _, _, rfl, rfl, Nat.le_of_lt (small1000 (by rw [one " " (.inr (.inl rfl))]; omega)), ?_⟩
  refine ⟨_, rfl, _, _, rfl, rfl, Nat.le_of_lt (small1000 (by rw [one "\n" (.inr (.inr rfl))]; omega)), ?_⟩
  intro o3 ho3
  refine ⟨_, rfl, upd_same, [(Sum.inr nm, V.int 1)], rfl, (by show 1 ≤ 15; decide), (by show 14 ≤ sizeLine; decide), fun o4 ho4 => ?_⟩
  rw [upd_upd] at ho4 ⊢
  have so3 := same_new (o := .dK (mergeK [] [(Sum.inr nm, V.int 1)])) ho3
  have so4 := same_new (o := .lst [.str "", .str "of", .str "to", .str "Of", .non, .int 5, .bl true, .ref o1, .ref o2, .str (Txt.upper nm), .str (nm ++ " "), .str (" " ++ nm), .str (nm ++ "\n"), .ref o3]) ho4
  have sO := so1.trans (so2.trans (so3.trans so4))
  refine ⟨bl, o4, _, _, rfl, rfl, sO _ _ ebl, upd_same, (by show 17 ≤ sizeLine; decide), fun od hod => ?_⟩
  have sod := same_new (o := .lst ([.str B1, .str B2, .str B3] ++ [.str "", .str "of", .str "to", .str "Of", .non, .int 5, .bl true, .ref o1, .ref o2, .str (Txt.upper nm), .str (nm ++ " "), .str (" " ++ nm), .str (nm ++ "\n"), .ref o3])) hod
  have e1 := sod _ _ ((so2.trans (so3.trans so4)) _ _ upd_same)
  have e2 := sod _ _ ((so3.trans so4) _ _ upd_same)
  have e3 := sod _ _ (so4 _ _ upd_same)
  have sP := sO.trans sod
  have hpP := hpB.same sP
  generalize hHP : upd _ od _ = HP at sP e1 e2 e3 hpP
  have eod : HP od = some (.lst ([.str B1, .str B2, .str B3] ++ [.str "", .str "of", .str "to", .str "Of", .non, .int 5, .bl true, .ref o1, .ref o2, .str (Txt.upper nm), .str (nm ++ " "), .str (" " ++ nm), .str (nm ++ "\n"), .ref o3])) := by rw [← hHP]; exact upd_same
  have ups := len_upper nm
  have bad : ∀ x ∈ ([.str B1, .str B2, .str B3] ++ [.str "", .str "of", .str "to", .str "Of", .non, .int 5, .bl true, .ref o1, .ref o2, .str (Txt.upper nm), .str (nm ++ " "), .str (" " ++ nm), .str (nm ++ "\n"), .ref o3] : List V), (∃ m, HasTy K HP x m) ∧ (∀ z, x = .str z → z.length ≤ 1000) ∧ nameV x = false := by
    have S : ∀ s : Str, s.length ≤ 1000 → nameB s = false → (∃ m, HasTy K HP (.str s) m) ∧ (∀ z, V.str s = .str z → z.length ≤ 1000) ∧ nameV (.str s) = false := fun s h1 h2 => ⟨⟨_, .str s⟩, fun z e => by cases e; exact h1, h2⟩
    have N : ∀ v : V, (∃ m, HasTy K HP v m) → strV v = false → (∃ m, HasTy K HP v m) ∧ (∀ z, v = .str z → z.length ≤ 1000) ∧ nameV v = false := fun v h1 h2 => ⟨h1, fun z e => (by rw [e] at h2; cases h2), (by cases v <;> first | rfl | cases h2)⟩
    intro x hx
    simp only [List.cons_append, List.nil_append, List.mem_cons, List.not_mem_nil, or_false] at hx
    rcases hx with rfl | rfl | rfl | rfl | rfl | rfl | rfl | rfl | rfl | rfl | rfl | rfl | rfl | rfl | rfl | rfl | rfl
    · exact S _ z1 b1
    · exact S _ z2 b2
    · exact S _ z3 b3
    · exact S _ (by decide +kernel) (by decide +kernel)
    · exact S _ (by decide +kernel) (by decide +kernel)
    · exact S _ (by decide +kernel) (by decide +kernel)
    · exact S _ (by decide +kernel) (by decide +kernel)
    · exact N _ ⟨_, .non⟩ rfl
    · exact N _ ⟨_, .int _⟩ rfl
    · exact N _ ⟨_, .bl _⟩ rfl
    · exact N _ ⟨_, .lst e1⟩ rfl
    · exact N _ ⟨_, .tup e2⟩ rfl
    · exact S _ (by omega) (up_bad tl0 lc0 hz)
    · exact S _ (by rw [app_len, one " " (.inr (.inl rfl))]; omega) (nb_mem (c := 32) (by rw [app_tl]; exact List.mem_append_right _ (by decide +kernel)) (by decide +kernel))
    · exact S _ (by rw [app_len, one " " (.inr (.inl rfl))]; omega) (nb_mem (c := 32) (by rw [app_tl]; exact List.mem_append_left _ (by decide +kernel)) (by decide +kernel))
    · exact S _ (by rw [app_len, one "\n" (.inr (.inr rfl))]; omega) (nb_mem (c := 10) (by rw [app_tl]; exact List.mem_append_right _ (by decide +kernel)) (by decide +kernel))
    · exact N _ ⟨_, .dct e3⟩ rfl
  refine ⟨_, rfl, od, rfl, ⟨_, SqL.of eod⟩, fun D2 hD2 => ?_⟩
  have sD2 := same_new (o := .lst []) hD2
  refine lc_list (K := K) (a := od) (xs := _) (fun _ Hx => Same (upd HP D2 (.lst [])) Hx) (Same.refl _) (fun _ Hx _ sx => SqL.of (sx _ _ (sD2 _ _ eod))) ?_ ?_
  · rintro j x Hx hx sx
    obtain ⟨⟨m9, hm9⟩, hlen, hnv⟩ := bad x (List.mem_of_getElem? hx)
    refine ⟨rfl, _, rfl, x, m9, rfl, (hm9.same sD2).same sx, hlen, fun Hx' sx' => ?_⟩
    rw [hnv]
    exact ⟨false, false, rfl, rfl, _, rfl, iteF (sx.trans sx')⟩
  rintro Hx sx
  refine ⟨Nat.zero_le _, fun m9 hm9 => ?_⟩
  have sm9 := same_new (o := .lst []) hm9
  refine ⟨D2, m9, _, _, rfl, rfl, SqL.of (sm9 _ _ (sx _ _ upd_same)), SqL.of upd_same, .inr ⟨[], .nil, _, rfl, iteF ?_⟩⟩
  refine ⟨.str "o", _, rfl, .str _, fun z e => (by cases e; decide +kernel), fun Ha sa => ?_⟩
  rw [show nameV (.str "o") = true from by decide +kernel]
  refine ⟨true, true, rfl, rfl, _, rfl, iteT ?_⟩
  refine ⟨.str "ofx", _, rfl, .str _, fun z e => (by cases e; decide +kernel), fun Hb sb => ?_⟩
  rw [show nameV (.str "ofx") = true from by decide +kernel]
  refine ⟨true, true, rfl, rfl, _, rfl, iteT ?_⟩
  refine ⟨.str "to1", _, rfl, .str _, fun z e => (by cases e; decide +kernel), fun Hc sc => ?_⟩
  rw [show nameV (.str "to1") = true from by decide +kernel]
  refine ⟨true, true, rfl, rfl, _, rfl, iteT ?_⟩
  refine ⟨.str "t", _, rfl, .str _, fun z e => (by cases e; decide +kernel), fun Hd sd => ?_⟩
  rw [show nameV (.str "t") = true from by decide +kernel]
  refine ⟨true, true, rfl, rfl, ?_⟩
  have sF := sP.trans (sD2.trans (sx.trans (sm9.trans (sa.trans (sb.trans (sc.trans sd))))))
  refine q _ ?_ ((hpB.same sF).up (by omega))
  exact (K5.trans (Keep.of_same s7)).trans (k8.trans ((Keep.of_same s9).trans (k9.trans (kA.trans ((Keep.of_same sbl).trans (Keep.of_same sF))))))
end
end TA
namespace TA
open PySem PySem.Spec L2
open PyProof.Rows hiding St
abbrev sLaw : Stmt := top 35
theorem scLaw : FnScope ["script", "pen", "turn"] ["script"] (defScope sLaw) := ⟨rfl, rfl, rfl, by decide +kernel, rfl, by decide +kernel, by decide +kernel⟩
def spLaw (K : PySem.W.Frag) : Sp := fun vs H Q _ => ∃ (a : Addr) (ns : List Int), vs = [.ref a] ∧ SqL K H a (ns.map V.int) ∧ ns.length ≤ 63 ∧ ∀ H', Q (.bl true) H'
section
variable {P : Program} {w : World} {K : PySem.W.Frag} {mg : Str → Option Value} {base : Heap} {f f1 f2 f3 f4 f5 : Addr} {fd d1 d2 d3 d4 d5 : FuncData}
theorem ok_law (F : Fun K "law" "law" sLaw f fd) (T : Bn mg)
    (D__law_pen : Df K mg "_law_pen" sPen f1 d1 ["script"]) (G__law_pen : FnOk P w K mg base CX0 1 f1 d1 ["script"] (spPen K))
    (D__law_value : Df K mg "_law_value" sValue f2 d2 ["pen"]) (G__law_value : FnOk P w K mg base CX0 2 f2 d2 ["pen"] spValue)
    (D__law_errors_right : Df K mg "_law_errors_right" sErrs f3 d3 ["one", "other"]) (G__law_errors_right : FnOk P w K mg base CX0 5 f3 d3 ["one", "other"] spErrs)
    (D__law_integers_right : Df K mg "_law_integers_right" sInts f4 d4 ["pen"]) (G__law_integers_right : FnOk P w K mg base CX0 4 f4 d4 ["pen"] spInts)
    (D__law_names_right : Df K mg "_law_names_right" sNames f5 d5 ["pen"]) (G__law_names_right : FnOk P w K mg base CX0 4 f5 d5 ["pen"] spInts) :
    FnOk P w K mg base CX0 6 f fd ["script"] (spLaw K) := by
  refine F.ok scLaw (fun vs H Q E h => ?_) (fun cdv A outer s H vs Q E hr h => ?_)
  · obtain ⟨a, ns, rfl, _⟩ := h
    rfl
  obtain ⟨a, ns, rfl, hS, hl, q⟩ := h
  refine ⟨_, (pss_cons (ps_set (i := 1) scLaw.nd rfl (.inl rfl) (pe_cd D__law_pen G__law_pen hr (by decide) (pa_cons (pv 0) pa_nil)))
      (pss_cons (ps_for PassesOwn.never rfl (pi_range1 (by rfl) T.b_range (pa_cons pe_int pa_nil)) (pg_name (i := 2) scLaw.nd rfl (.inl rfl))
        (pss_one (ps_if (pt_not (pt_val (pe_cd D__law_errors_right G__law_errors_right hr (by decide) (pa_cons (pe_cd D__law_value G__law_value hr (by decide) (pa_cons (pv 1) pa_nil)) (pa_cons (pe_cd D__law_value G__law_value hr (by decide) (pa_cons (pv 1) pa_nil)) pa_nil))))) (pss_one (ps_ret pe_bl)) pss_nil)))
      (pss_cons (ps_for PassesOwn.never rfl (pi_range1 (by rfl) T.b_range (pa_cons pe_int pa_nil)) (pg_name (i := 2) scLaw.nd rfl (.inl rfl))
        (pss_one (ps_if (PW.pt (pw_or (pt_not (pt_val (pe_cd D__law_integers_right G__law_integers_right hr (by decide) (pa_cons (pv 1) pa_nil)))) (pw_or1 (pt_not (pt_val (pe_cd D__law_names_right G__law_names_right hr (by decide) (pa_cons (pv 1) pa_nil))))))) (pss_one (ps_ret pe_bl)) pss_nil)))
      (pss_one (ps_ret pe_bl))))), ?_⟩
  refine ⟨_, rfl, a, ns, rfl, hS, hl, fun p c H1 _ _ hp => ?_⟩
  refine ⟨2, rfl, by decide, by decide, ?_⟩
  refine for_range (lo := 0) (n := 2) (fun i σ H' => (∃ v, σ = [some (.ref a), some (.ref p), v]) ∧ PenAt (4 * i) H' p c) ⟨⟨_, rfl⟩, hp⟩ ?_ ?_
  · rintro i σ H' hi ⟨⟨v, rfl⟩, hpi⟩
    refine ⟨_, rfl, p, c, _, rfl, hpi, by omega, fun one H2 h2 k2 hp2 => ?_⟩
    refine ⟨_, rfl, p, c, _, rfl, hp2, by omega, fun other H3 h3 k3 hp3 => ?_⟩
    refine ⟨p, one, other, rfl, h2.keep k3, h3, fun H4 s4 => ⟨_, rfl, iteF ?_⟩⟩
    exact ⟨⟨_, rfl⟩, (hp3.same s4).up (by omega)⟩
  rintro σ H2 ⟨⟨v, rfl⟩, hp2⟩
  refine ⟨3, rfl, by decide, by decide, ?_⟩
  refine for_range (lo := 0) (n := 3) (fun i σ H' => (∃ v, σ = [some (.ref a), some (.ref p), v]) ∧ PenAt (8 + 60 * i) H' p c) ⟨⟨_, rfl⟩, hp2⟩ ?_ ?_
  · rintro i σ H' hi ⟨⟨v, rfl⟩, hpi⟩
    refine ⟨_, rfl, p, c, _, rfl, hpi, by omega, fun H3 k3 hp3 => ⟨_, rfl, iteF ?_⟩⟩
    refine ⟨_, rfl, p, c, _, rfl, hp3, by omega, fun H4 k4 hp4 => ⟨_, rfl, iteF ?_⟩⟩
    exact ⟨⟨_, rfl⟩, hp4.up (by omega)⟩
  rintro σ H3 ⟨⟨v, rfl⟩, _⟩
  exact q H3
end
end TA
namespace TA
open PySem PySem.Spec L2
open PyProof.Rows hiding St
section
variable {K : PySem.W.Frag} {x qual : Str} {st : Stmt} {f : Addr} {fd : FuncData} {ps ks : List Str} {n : Nat}
theorem fun_kb {g : List Value → List Value → List Value} {gV : List V → List V → List V} (F : Fun K x qual st f fd)
    (h : ∀ (kV doc pm : Value) (an : Option Addr) (cdv ct : Value) (us ws : List Value), us.length = n → ws.length = ks.length → bindArgs (PySem.W.fnOf x qual (defArgs st) (defBody st) (defScope st) .none kV doc pm an cdv ct) ⟨us, ks.zip ws⟩ = pure (ps.zip (g us ws)))
    (r : ∀ {vs : List V} {us : List Value} {zs : List V} {ws : List Value}, Vals vs us → Vals zs ws → Vals (gV vs zs) (g us ws)) : KBn K fd ps n ks g gV := by
  obtain ⟨oc, od, kV, doc, pm, an, cdv, ct, osl, rfl, lk, hcd⟩ := F.ex
  exact ⟨fun s us ws _ h1 h2 => .of_eq (h kV doc pm an cdv ct us ws h1 h2), r⟩
theorem xcl_mk {C N : Addr} {nm q : Str} {bs bm : List Value} {sn : List Str} {sub : List Value} {ab : Bool} {col : Option Bool} {dd : Option Addr} {k0 k1 k2 k3 k5 : Option Value}
    (xL : K.lookup C = some (excClassObj nm q C N bs bm true sn sub ab col dd k0 k1 k2 k3 k5 "ValueError.__new__")) (hb : PySem.HandSPX.refsVE bm = true) (sa : PySem.W.findIn K (.ref C) "__setattr__" = some (some (.builtin "object.__setattr__")))
    (ex : PySem.W.subIn K (.ref C) (.type "BaseException") = some true) (ty : PySem.W.typeIn K (.ref C) = some (.type "type")) (kC : PySem.W.keepIn K (.ref C) = true) (hg : PySem.W.findIn K (.ref C) "__getattribute__" = some (some (.builtin "BaseException.__getattribute__")))
    (hk : PySem.W.findIn K (.ref C) "__getattr__" = some none) (hd : PySem.W.hasDictIn K C = true) (ha : PySem.W.findIn K (.ref C) "__class__" = some (some (.builtin "object.__class__"))) (hm : PySem.W.mroIn K C (.type "object") = some true)
    (hn : PySem.W.specialIn K (.builtin "object.__class__") "__get__" = some (some (.builtin "getset_descriptor.__get__"))) (ht : PySem.W.takesIn K (.builtin "object.__class__") = some true) : XCl K C :=
  ⟨⟨⟨nm, q, N, bs, bm, sn, sub, ab, col, dd, k0, k1, k2, k3, k5, xL, hb⟩, sa, ex, ty, kC⟩, ⟨hg, hk, ex, hd, ha, hn, ht, hm⟩⟩
/-- isinstance among the classes, as one answer -/
def kitsB (K : PySem.W.Frag) (cs : List Addr) (aB mB : Addr) : Bool :=
  (List.range 10).all (fun i => PySem.W.kitOne K (.ref (cs.getD i 0)) (.ref aB) == some true && PySem.W.kitOne K (.ref (cs.getD i 0)) (.type "ValueError") == some true && PySem.W.kitOne K (.ref (cs.getD i 0)) (.ref mB) == some (i == 5 || i == 6)
    && (List.range 10).all (fun j => PySem.W.kitOne K (.ref (cs.getD i 0)) (.ref (cs.getD j 0)) == some (i == j))
    && PySem.W.kitAny K (.ref (cs.getD i 0)) [.type "LookupError", .type "TypeError", .type "ArithmeticError", .type "AttributeError", .type "RuntimeError"] == some false)
  && PySem.W.kitOne K (.ref mB) (.ref aB) == some true && PySem.W.kitOne K (.ref mB) (.ref (cs.getD 5 0)) == some false && PySem.W.kitOne K (.ref mB) (.ref (cs.getD 6 0)) == some false
theorem kits_i {cs : List Addr} {aB mB : Addr} (h : kitsB K cs aB mB = true) {i : Nat} (hi : i < 10) : (PySem.W.kitOne K (.ref (cs.getD i 0)) (.ref aB) = some true ∧ PySem.W.kitOne K (.ref (cs.getD i 0)) (.type "ValueError") = some true ∧ PySem.W.kitOne K (.ref (cs.getD i 0)) (.ref mB) = some (i == 5 || i == 6))
    ∧ (∀ j, j < 10 → PySem.W.kitOne K (.ref (cs.getD i 0)) (.ref (cs.getD j 0)) = some (i == j)) ∧ PySem.W.kitAny K (.ref (cs.getD i 0)) [.type "LookupError", .type "TypeError", .type "ArithmeticError", .type "AttributeError", .type "RuntimeError"] = some false := by
  unfold kitsB at h
  simp only [Bool.and_eq_true, List.all_eq_true, beq_iff_eq, List.mem_range] at h
  obtain ⟨⟨⟨h, _⟩, _⟩, _⟩ := h
  obtain ⟨⟨⟨⟨h1, h2⟩, h3⟩, h4⟩, h5⟩ := h i hi
  exact ⟨⟨h1, h2, h3⟩, fun j hj => h4 j hj, h5⟩
theorem kits_m {cs : List Addr} {aB mB : Addr} (h : kitsB K cs aB mB = true) : PySem.W.kitOne K (.ref mB) (.ref aB) = some true ∧ PySem.W.kitOne K (.ref mB) (.ref (cs.getD 5 0)) = some false ∧ PySem.W.kitOne K (.ref mB) (.ref (cs.getD 6 0)) = some false := by
  unfold kitsB at h
  simp only [Bool.and_eq_true, List.all_eq_true, beq_iff_eq, List.mem_range] at h
  exact ⟨h.1.1.2, h.1.2, h.2⟩
end
theorem all_mk {l : PySem.W.OpenLaw} {w : World} {K : PySem.W.Frag} {h : Heap} {mg : Str → Option Value} {fa aB aN : Addr} (X : K.In h) (G : h.Ns mainGlobals mg) (hfa : mg "law" = some (.ref fa))
    {f5 : Addr} {d5 : FuncData}
    {f6 : Addr} {d6 : FuncData}
    {f7 : Addr} {d7 : FuncData}
    {f8 : Addr} {d8 : FuncData}
    {f23 : Addr} {d23 : FuncData}
    {f24 : Addr} {d24 : FuncData}
    {f25 : Addr} {d25 : FuncData}
    {f26 : Addr} {d26 : FuncData}
    {f27 : Addr} {d27 : FuncData}
    {f28 : Addr} {d28 : FuncData}
    {f29 : Addr} {d29 : FuncData}
    {f30 : Addr} {d30 : FuncData}
    {f31 : Addr} {d31 : FuncData}
    {f32 : Addr} {d32 : FuncData}
    {f33 : Addr} {d33 : FuncData}
    {f34 : Addr} {d34 : FuncData}
    {f35 : Addr} {d35 : FuncData}
    {C11 f11 : Addr} {d11 : FuncData}
    {C12 f12 : Addr} {d12 : FuncData}
    {C13 f13 : Addr} {d13 : FuncData}
    {C14 f14 : Addr} {d14 : FuncData}
    {C15 f15 : Addr} {d15 : FuncData}
    {C16 f16 : Addr} {d16 : FuncData}
    {C17 f17 : Addr} {d17 : FuncData}
    {C18 f18 : Addr} {d18 : FuncData}
    {C19 f19 : Addr} {d19 : FuncData}
    {C20 f20 : Addr} {d20 : FuncData}
    {C21 f21 : Addr} {d21 : FuncData}
    {tl td tn t1 t2 : Tok} {nn : Nat} {od : Option Addr} {osl : Array (Option Value)}
    (b_len : PySem.W.nsIn K mainGlobals "len" = some none)
    (b_int : PySem.W.nsIn K mainGlobals "int" = some none)
    (b_str : PySem.W.nsIn K mainGlobals "str" = some none)
    (b_bool : PySem.W.nsIn K mainGlobals "bool" = some none)
    (b_list : PySem.W.nsIn K mainGlobals "list" = some none)
    (b_tuple : PySem.W.nsIn K mainGlobals "tuple" = some none)
    (b_abs : PySem.W.nsIn K mainGlobals "abs" = some none)
    (b_all : PySem.W.nsIn K mainGlobals "all" = some none)
    (b_isinstance : PySem.W.nsIn K mainGlobals "isinstance" = some none)
    (b_range : PySem.W.nsIn K mainGlobals "range" = some none)
    (b_enumerate : PySem.W.nsIn K mainGlobals "enumerate" = some none)
    (b_ValueError : PySem.W.nsIn K mainGlobals "ValueError" = some none)
    (b_LookupError : PySem.W.nsIn K mainGlobals "LookupError" = some none)
    (b_TypeError : PySem.W.nsIn K mainGlobals "TypeError" = some none)
    (b_ArithmeticError : PySem.W.nsIn K mainGlobals "ArithmeticError" = some none)
    (b_AttributeError : PySem.W.nsIn K mainGlobals "AttributeError" = some none)
    (b_RuntimeError : PySem.W.nsIn K mainGlobals "RuntimeError" = some none)
    (gA : PySem.W.nsIn K mainGlobals "AgainError" = some (some (.ref aB)))
    (g11 : PySem.W.nsIn K mainGlobals "BadWriting" = some (some (.ref C11)))
    (g12 : PySem.W.nsIn K mainGlobals "BadKind" = some (some (.ref C12)))
    (g13 : PySem.W.nsIn K mainGlobals "BadNumber" = some (some (.ref C13)))
    (g14 : PySem.W.nsIn K mainGlobals "BadTable" = some (some (.ref C14)))
    (g15 : PySem.W.nsIn K mainGlobals "Misfit" = some (some (.ref C15)))
    (g16 : PySem.W.nsIn K mainGlobals "Missing" = some (some (.ref C16)))
    (g17 : PySem.W.nsIn K mainGlobals "NoPlace" = some (some (.ref C17)))
    (g18 : PySem.W.nsIn K mainGlobals "NoName" = some (some (.ref C18)))
    (g19 : PySem.W.nsIn K mainGlobals "Impossible" = some (some (.ref C19)))
    (g20 : PySem.W.nsIn K mainGlobals "TooMany" = some (some (.ref C20)))
    (g21 : PySem.W.nsIn K mainGlobals "BadText" = some (some (.ref C21)))
    (X11 : XCl K C11)
    (i11 : PySem.W.findIn K (.ref C11) "__init__" = some (some (.ref f11)))
    (t11 : PySem.W.typeIn K (.ref f11) = some (.type "function"))
    (F11 : Fun K "__init__" "BadWriting.__init__" iW f11 d11)
    (n11_0 : PySem.W.findIn K (.ref C11) "part" = some none)
    (X12 : XCl K C12)
    (i12 : PySem.W.findIn K (.ref C12) "__init__" = some (some (.ref f12)))
    (t12 : PySem.W.typeIn K (.ref f12) = some (.type "function"))
    (F12 : Fun K "__init__" "BadKind.__init__" iK f12 d12)
    (n12_0 : PySem.W.findIn K (.ref C12) "part" = some none)
    (X13 : XCl K C13)
    (i13 : PySem.W.findIn K (.ref C13) "__init__" = some (some (.ref f13)))
    (t13 : PySem.W.typeIn K (.ref f13) = some (.type "function"))
    (F13 : Fun K "__init__" "BadNumber.__init__" iN f13 d13)
    (n13_0 : PySem.W.findIn K (.ref C13) "part" = some none)
    (X14 : XCl K C14)
    (i14 : PySem.W.findIn K (.ref C14) "__init__" = some (some (.ref f14)))
    (t14 : PySem.W.typeIn K (.ref f14) = some (.type "function"))
    (F14 : Fun K "__init__" "BadTable.__init__" iT f14 d14)
    (n14_0 : PySem.W.findIn K (.ref C14) "part" = some none)
    (X15 : XCl K C15)
    (i15 : PySem.W.findIn K (.ref C15) "__init__" = some (some (.ref f15)))
    (t15 : PySem.W.typeIn K (.ref f15) = some (.type "function"))
    (F15 : Fun K "__init__" "Misfit.__init__" iF f15 d15)
    (n15_0 : PySem.W.findIn K (.ref C15) "part" = some none)
    (X16 : XCl K C16)
    (i16 : PySem.W.findIn K (.ref C16) "__init__" = some (some (.ref f16)))
    (t16 : PySem.W.typeIn K (.ref f16) = some (.type "function"))
    (F16 : Fun K "__init__" "Missing.__init__" iM f16 d16)
    (n16_0 : PySem.W.findIn K (.ref C16) "value" = some none)
    (X17 : XCl K C17)
    (i17 : PySem.W.findIn K (.ref C17) "__init__" = some (some (.ref f17)))
    (t17 : PySem.W.typeIn K (.ref f17) = some (.type "function"))
    (F17 : Fun K "__init__" "NoPlace.__init__" iP f17 d17)
    (n17_0 : PySem.W.findIn K (.ref C17) "value" = some none)
    (X18 : XCl K C18)
    (i18 : PySem.W.findIn K (.ref C18) "__init__" = some (some (.ref f18)))
    (t18 : PySem.W.typeIn K (.ref f18) = some (.type "function"))
    (F18 : Fun K "__init__" "NoName.__init__" iO f18 d18)
    (n18_0 : PySem.W.findIn K (.ref C18) "value" = some none)
    (X19 : XCl K C19)
    (i19 : PySem.W.findIn K (.ref C19) "__init__" = some (some (.ref f19)))
    (t19 : PySem.W.typeIn K (.ref f19) = some (.type "function"))
    (F19 : Fun K "__init__" "Impossible.__init__" iI f19 d19)
    (n19_0 : PySem.W.findIn K (.ref C19) "paper" = some none)
    (X20 : XCl K C20)
    (i20 : PySem.W.findIn K (.ref C20) "__init__" = some (some (.ref f20)))
    (t20 : PySem.W.typeIn K (.ref f20) = some (.type "function"))
    (F20 : Fun K "__init__" "TooMany.__init__" iX f20 d20)
    (n20_0 : PySem.W.findIn K (.ref C20) "what" = some none)
    (n20_1 : PySem.W.findIn K (.ref C20) "most" = some none)
    (X21 : XCl K C21)
    (i21 : PySem.W.findIn K (.ref C21) "__init__" = some (some (.ref f21)))
    (t21 : PySem.W.typeIn K (.ref f21) = some (.type "function"))
    (F21 : Fun K "__init__" "BadText.__init__" iB f21 d21)
    (n21_0 : PySem.W.findIn K (.ref C21) "line" = some none)
    (n21_1 : PySem.W.findIn K (.ref C21) "item" = some none)
    (a5 : PySem.W.nsIn K mainGlobals "is_integer" = some (some (.ref f5)))
    (F5 : Fun K "is_integer" "is_integer" sInt f5 d5)
    (a6 : PySem.W.nsIn K mainGlobals "is_within" = some (some (.ref f6)))
    (F6 : Fun K "is_within" "is_within" sWithin f6 d6)
    (a7 : PySem.W.nsIn K mainGlobals "are_numbers" = some (some (.ref f7)))
    (F7 : Fun K "are_numbers" "are_numbers" sNums f7 d7)
    (a8 : PySem.W.nsIn K mainGlobals "is_name" = some (some (.ref f8)))
    (F8 : Fun K "is_name" "is_name" sName f8 d8)
    (a23 : PySem.W.nsIn K mainGlobals "_law_pen" = some (some (.ref f23)))
    (F23 : Fun K "_law_pen" "_law_pen" sPen f23 d23)
    (a24 : PySem.W.nsIn K mainGlobals "_law_draw" = some (some (.ref f24)))
    (F24 : Fun K "_law_draw" "_law_draw" sDraw f24 d24)
    (a25 : PySem.W.nsIn K mainGlobals "_law_pick" = some (some (.ref f25)))
    (F25 : Fun K "_law_pick" "_law_pick" sPick f25 d25)
    (a26 : PySem.W.nsIn K mainGlobals "_law_value" = some (some (.ref f26)))
    (F26 : Fun K "_law_value" "_law_value" sValue f26 d26)
    (a27 : PySem.W.nsIn K mainGlobals "_law_classes" = some (some (.ref f27)))
    (F27 : Fun K "_law_classes" "_law_classes" sClasses f27 d27)
    (a28 : PySem.W.nsIn K mainGlobals "_law_is_only" = some (some (.ref f28)))
    (F28 : Fun K "_law_is_only" "_law_is_only" sOnly f28 d28)
    (a29 : PySem.W.nsIn K mainGlobals "_law_by_place" = some (some (.ref f29)))
    (F29 : Fun K "_law_by_place" "_law_by_place" sByP f29 d29)
    (a30 : PySem.W.nsIn K mainGlobals "_law_by_name" = some (some (.ref f30)))
    (F30 : Fun K "_law_by_name" "_law_by_name" sByN f30 d30)
    (a31 : PySem.W.nsIn K mainGlobals "_law_field" = some (some (.ref f31)))
    (F31 : Fun K "_law_field" "_law_field" sField f31 d31)
    (a32 : PySem.W.nsIn K mainGlobals "_law_errors_right" = some (some (.ref f32)))
    (F32 : Fun K "_law_errors_right" "_law_errors_right" sErrs f32 d32)
    (a33 : PySem.W.nsIn K mainGlobals "_law_integers_right" = some (some (.ref f33)))
    (F33 : Fun K "_law_integers_right" "_law_integers_right" sInts f33 d33)
    (a34 : PySem.W.nsIn K mainGlobals "_law_names_right" = some (some (.ref f34)))
    (F34 : Fun K "_law_names_right" "_law_names_right" sNames f34 d34)
    (a35 : PySem.W.nsIn K mainGlobals "law" = some (some (.ref f35)))
    (F35 : Fun K "law" "law" sLaw f35 d35)
    (rd : PySem.W.readsIn K C16 (.type "type") = true)
    (rg : PySem.W.specialIn K (.ref C16) "__getattribute__" = some (some (.builtin "type.__getattribute__")))
    (ri : PySem.W.findCls K (.ref C16) (.type "type") "__init__" = some (.val (.ref f16)))
    (vl : PySem.W.nsIn K mainGlobals "LETTERS" = some (some (.str "abcdefghijklmnopqrstuvwxyz" tl)))
    (vd : PySem.W.nsIn K mainGlobals "DIGITS" = some (some (.str "0123456789" td)))
    (vn : PySem.W.nsIn K mainGlobals "LONGEST_NAME" = some (some (.int 12 tn)))
    (vo : PySem.W.nsIn K mainGlobals "NO_NAMES" = some (some (.ref aN)))
    (lo : K.lookup aN = some ⟨.type "tuple", od, .seq #[.str "of" t1, .str "to" t2] nn, osl⟩)
    (kits : kitsB K [C11, C12, C13, C14, C15, C17, C18, C19, C20, C21] aB C16 = true)
    : ∃ fd : FuncData, (∀ (s : Shared) (v : Value), BindsTo s fd ⟨[v], []⟩ [("script", v)]) ∧ ∀ base : Heap, K.In base → base.Ns mainGlobals mg → FnOk l.prog w K mg base CX0 6 fa fd ["script"] (spLaw K) := by
  have e := hfa.symm.trans (PySem.W.mg_of X G a35)
  cases e
  have T : Bn mg := ⟨PySem.W.mg_none_of X G b_len, PySem.W.mg_none_of X G b_int, PySem.W.mg_none_of X G b_str, PySem.W.mg_none_of X G b_bool, PySem.W.mg_none_of X G b_list, PySem.W.mg_none_of X G b_tuple, PySem.W.mg_none_of X G b_abs, PySem.W.mg_none_of X G b_all, PySem.W.mg_none_of X G b_isinstance, PySem.W.mg_none_of X G b_range, PySem.W.mg_none_of X G b_enumerate, PySem.W.mg_none_of X G b_ValueError, PySem.W.mg_none_of X G b_LookupError, PySem.W.mg_none_of X G b_TypeError, PySem.W.mg_none_of X G b_ArithmeticError, PySem.W.mg_none_of X G b_AttributeError, PySem.W.mg_none_of X G b_RuntimeError⟩
  have V : Cn K mg := ⟨⟨_, PySem.W.mg_of X G vl⟩, ⟨_, PySem.W.mg_of X G vd⟩, ⟨_, PySem.W.mg_of X G vn⟩, ⟨_, PySem.W.mg_of X G vo, fun H => .inr ⟨_, _, _, lo, rfl, rfl, by show 2 ≤ sizeLine; decide, .cons ⟨_, rfl⟩ (.cons ⟨_, rfl⟩ .nil)⟩⟩⟩
  have e10 : ∀ {p : Nat → Prop}, p 0 → p 1 → p 2 → p 3 → p 4 → p 5 → p 6 → p 7 → p 8 → p 9 → ∀ i, i < 10 → p i := fun h0 h1 h2 h3 h4 h5 h6 h7 h8 h9 i hi => match i, hi with | 0, _ => h0 | 1, _ => h1 | 2, _ => h2 | 3, _ => h3 | 4, _ => h4 | 5, _ => h5 | 6, _ => h6 | 7, _ => h7 | 8, _ => h8 | 9, _ => h9 | k + 10, hk => absurd hk (by omega)
  have Z : Ecs K mg (fun i => ([C11, C12, C13, C14, C15, C17, C18, C19, C20, C21] : List Addr).getD i 0) aB C16 :=
    { x := e10 X11 X12 X13 X14 X15 X17 X18 X19 X20 X21, xM := X16,
      g0 := PySem.W.mg_of X G g11, g1 := PySem.W.mg_of X G g12, g2 := PySem.W.mg_of X G g13, g3 := PySem.W.mg_of X G g14, g4 := PySem.W.mg_of X G g15, g5 := PySem.W.mg_of X G g17, g6 := PySem.W.mg_of X G g18, g7 := PySem.W.mg_of X G g19, g8 := PySem.W.mg_of X G g20, g9 := PySem.W.mg_of X G g21, gA := PySem.W.mg_of X G gA, gM := PySem.W.mg_of X G g16,
      kA := fun i hi => (kits_i kits hi).1.1, kV := fun i hi => (kits_i kits hi).1.2.1, kM := fun i hi => (kits_i kits hi).1.2.2, kO := fun i j hi hj => (kits_i kits hi).2.1 j hj, kB := fun i hi => (kits_i kits hi).2.2,
      mA := (kits_m kits).1, m5 := (kits_m kits).2.1, m6 := (kits_m kits).2.2 }
  have D5 : Df K mg "is_integer" sInt f5 d5 ["value"] := ⟨F5, PySem.W.mg_of X G a5, F5.binds (ps := ["value"]) fun _ _ _ _ _ _ us hl => match us, hl with | [_], _ => rfl⟩
  have D6 : Df K mg "is_within" sWithin f6 d6 ["value", "least", "most"] := ⟨F6, PySem.W.mg_of X G a6, F6.binds (ps := ["value", "least", "most"]) fun _ _ _ _ _ _ us hl => match us, hl with | [_, _, _], _ => rfl⟩
  have D7 : Df K mg "are_numbers" sNums f7 d7 ["value"] := ⟨F7, PySem.W.mg_of X G a7, F7.binds (ps := ["value"]) fun _ _ _ _ _ _ us hl => match us, hl with | [_], _ => rfl⟩
  have D8 : Df K mg "is_name" sName f8 d8 ["value"] := ⟨F8, PySem.W.mg_of X G a8, F8.binds (ps := ["value"]) fun _ _ _ _ _ _ us hl => match us, hl with | [_], _ => rfl⟩
  have D23 : Df K mg "_law_pen" sPen f23 d23 ["script"] := ⟨F23, PySem.W.mg_of X G a23, F23.binds (ps := ["script"]) fun _ _ _ _ _ _ us hl => match us, hl with | [_], _ => rfl⟩
  have D24 : Df K mg "_law_draw" sDraw f24 d24 ["pen", "many"] := ⟨F24, PySem.W.mg_of X G a24, F24.binds (ps := ["pen", "many"]) fun _ _ _ _ _ _ us hl => match us, hl with | [_, _], _ => rfl⟩
  have D25 : Df K mg "_law_pick" sPick f25 d25 ["pen", "some"] := ⟨F25, PySem.W.mg_of X G a25, F25.binds (ps := ["pen", "some"]) fun _ _ _ _ _ _ us hl => match us, hl with | [_, _], _ => rfl⟩
  have D26 : Df K mg "_law_value" sValue f26 d26 ["pen"] := ⟨F26, PySem.W.mg_of X G a26, F26.binds (ps := ["pen"]) fun _ _ _ _ _ _ us hl => match us, hl with | [_], _ => rfl⟩
  have D27 : Df K mg "_law_classes" sClasses f27 d27 ["error"] := ⟨F27, PySem.W.mg_of X G a27, F27.binds (ps := ["error"]) fun _ _ _ _ _ _ us hl => match us, hl with | [_], _ => rfl⟩
  have D28 : Df K mg "_law_is_only" sOnly f28 d28 ["error", "at"] := ⟨F28, PySem.W.mg_of X G a28, F28.binds (ps := ["error", "at"]) fun _ _ _ _ _ _ us hl => match us, hl with | [_, _], _ => rfl⟩
  have D29 : Df K mg "_law_by_place" sByP f29 d29 ["one"] := ⟨F29, PySem.W.mg_of X G a29, F29.binds (ps := ["one"]) fun _ _ _ _ _ _ us hl => match us, hl with | [_], _ => rfl⟩
  have D30 : Df K mg "_law_by_name" sByN f30 d30 ["one"] := ⟨F30, PySem.W.mg_of X G a30, F30.binds (ps := ["one"]) fun _ _ _ _ _ _ us hl => match us, hl with | [_], _ => rfl⟩
  have D31 : Df K mg "_law_field" sField f31 d31 ["error", "at"] := ⟨F31, PySem.W.mg_of X G a31, F31.binds (ps := ["error", "at"]) fun _ _ _ _ _ _ us hl => match us, hl with | [_, _], _ => rfl⟩
  have D32 : Df K mg "_law_errors_right" sErrs f32 d32 ["one", "other"] := ⟨F32, PySem.W.mg_of X G a32, F32.binds (ps := ["one", "other"]) fun _ _ _ _ _ _ us hl => match us, hl with | [_, _], _ => rfl⟩
  have D33 : Df K mg "_law_integers_right" sInts f33 d33 ["pen"] := ⟨F33, PySem.W.mg_of X G a33, F33.binds (ps := ["pen"]) fun _ _ _ _ _ _ us hl => match us, hl with | [_], _ => rfl⟩
  have D34 : Df K mg "_law_names_right" sNames f34 d34 ["pen"] := ⟨F34, PySem.W.mg_of X G a34, F34.binds (ps := ["pen"]) fun _ _ _ _ _ _ us hl => match us, hl with | [_], _ => rfl⟩
  have BI : KBn K d5 ["value"] 0 ["value"] (fun us ws => us ++ ws) (fun vs zs => vs ++ zs) := fun_kb F5 (fun _ _ _ _ _ _ us ws h1 h2 => match us, h1, ws, h2 with | [], _, [_], _ => rfl) (fun a b => a.append b)
  have BW0 : KBn K d6 ["value", "least", "most"] 0 ["value", "least", "most"] (fun us ws => us ++ ws) (fun vs zs => vs ++ zs) := fun_kb F6 (fun _ _ _ _ _ _ us ws h1 h2 => match us, h1, ws, h2 with | [], _, [_, _, _], _ => rfl) (fun a b => a.append b)
  have BW1 : KBn K d6 ["value", "least", "most"] 1 ["least", "most"] (fun us ws => us ++ ws) (fun vs zs => vs ++ zs) := fun_kb F6 (fun _ _ _ _ _ _ us ws h1 h2 => match us, h1, ws, h2 with | [_], _, [_, _], _ => rfl) (fun a b => a.append b)
  have BNs : KBn K d7 ["value"] 0 ["value"] (fun us ws => us ++ ws) (fun vs zs => vs ++ zs) := fun_kb F7 (fun _ _ _ _ _ _ us ws h1 h2 => match us, h1, ws, h2 with | [], _, [_], _ => rfl) (fun a b => a.append b)
  have BNm : KBn K d8 ["value"] 0 ["value"] (fun us ws => us ++ ws) (fun vs zs => vs ++ zs) := fun_kb F8 (fun _ _ _ _ _ _ us ws h1 h2 => match us, h1, ws, h2 with | [], _, [_], _ => rfl) (fun a b => a.append b)
  have bp11 : KBn K d11 ["self", "part"] 2 [] (fun us _ => us) (fun vs _ => vs) := fun_kb F11 (fun _ _ _ _ _ _ us ws h1 h2 => match us, h1, ws, h2 with | [_, _], _, [], _ => rfl) (fun a _ => a)
  have bk11 : KBn K d11 ["self", "part"] 1 ["part"] (fun us ws => us ++ ws) (fun vs zs => vs ++ zs) := fun_kb F11 (fun _ _ _ _ _ _ us ws h1 h2 => match us, h1, ws, h2 with | [_], _, [_], _ => rfl) (fun a b => a.append b)
  have bp12 : KBn K d12 ["self", "part"] 2 [] (fun us _ => us) (fun vs _ => vs) := fun_kb F12 (fun _ _ _ _ _ _ us ws h1 h2 => match us, h1, ws, h2 with | [_, _], _, [], _ => rfl) (fun a _ => a)
  have bk12 : KBn K d12 ["self", "part"] 1 ["part"] (fun us ws => us ++ ws) (fun vs zs => vs ++ zs) := fun_kb F12 (fun _ _ _ _ _ _ us ws h1 h2 => match us, h1, ws, h2 with | [_], _, [_], _ => rfl) (fun a b => a.append b)
  have bp13 : KBn K d13 ["self", "part"] 2 [] (fun us _ => us) (fun vs _ => vs) := fun_kb F13 (fun _ _ _ _ _ _ us ws h1 h2 => match us, h1, ws, h2 with | [_, _], _, [], _ => rfl) (fun a _ => a)
  have bk13 : KBn K d13 ["self", "part"] 1 ["part"] (fun us ws => us ++ ws) (fun vs zs => vs ++ zs) := fun_kb F13 (fun _ _ _ _ _ _ us ws h1 h2 => match us, h1, ws, h2 with | [_], _, [_], _ => rfl) (fun a b => a.append b)
  have bp14 : KBn K d14 ["self", "part"] 2 [] (fun us _ => us) (fun vs _ => vs) := fun_kb F14 (fun _ _ _ _ _ _ us ws h1 h2 => match us, h1, ws, h2 with | [_, _], _, [], _ => rfl) (fun a _ => a)
  have bk14 : KBn K d14 ["self", "part"] 1 ["part"] (fun us ws => us ++ ws) (fun vs zs => vs ++ zs) := fun_kb F14 (fun _ _ _ _ _ _ us ws h1 h2 => match us, h1, ws, h2 with | [_], _, [_], _ => rfl) (fun a b => a.append b)
  have bp15 : KBn K d15 ["self", "part"] 2 [] (fun us _ => us) (fun vs _ => vs) := fun_kb F15 (fun _ _ _ _ _ _ us ws h1 h2 => match us, h1, ws, h2 with | [_, _], _, [], _ => rfl) (fun a _ => a)
  have bk15 : KBn K d15 ["self", "part"] 1 ["part"] (fun us ws => us ++ ws) (fun vs zs => vs ++ zs) := fun_kb F15 (fun _ _ _ _ _ _ us ws h1 h2 => match us, h1, ws, h2 with | [_], _, [_], _ => rfl) (fun a b => a.append b)
  have bp16 : KBn K d16 ["self", "value"] 2 [] (fun us _ => us) (fun vs _ => vs) := fun_kb F16 (fun _ _ _ _ _ _ us ws h1 h2 => match us, h1, ws, h2 with | [_, _], _, [], _ => rfl) (fun a _ => a)
  have bk16 : KBn K d16 ["self", "value"] 1 ["value"] (fun us ws => us ++ ws) (fun vs zs => vs ++ zs) := fun_kb F16 (fun _ _ _ _ _ _ us ws h1 h2 => match us, h1, ws, h2 with | [_], _, [_], _ => rfl) (fun a b => a.append b)
  have bp17 : KBn K d17 ["self", "value"] 2 [] (fun us _ => us) (fun vs _ => vs) := fun_kb F17 (fun _ _ _ _ _ _ us ws h1 h2 => match us, h1, ws, h2 with | [_, _], _, [], _ => rfl) (fun a _ => a)
  have bk17 : KBn K d17 ["self", "value"] 1 ["value"] (fun us ws => us ++ ws) (fun vs zs => vs ++ zs) := fun_kb F17 (fun _ _ _ _ _ _ us ws h1 h2 => match us, h1, ws, h2 with | [_], _, [_], _ => rfl) (fun a b => a.append b)
  have bp18 : KBn K d18 ["self", "value"] 2 [] (fun us _ => us) (fun vs _ => vs) := fun_kb F18 (fun _ _ _ _ _ _ us ws h1 h2 => match us, h1, ws, h2 with | [_, _], _, [], _ => rfl) (fun a _ => a)
  have bk18 : KBn K d18 ["self", "value"] 1 ["value"] (fun us ws => us ++ ws) (fun vs zs => vs ++ zs) := fun_kb F18 (fun _ _ _ _ _ _ us ws h1 h2 => match us, h1, ws, h2 with | [_], _, [_], _ => rfl) (fun a b => a.append b)
  have bp19 : KBn K d19 ["self", "paper"] 2 [] (fun us _ => us) (fun vs _ => vs) := fun_kb F19 (fun _ _ _ _ _ _ us ws h1 h2 => match us, h1, ws, h2 with | [_, _], _, [], _ => rfl) (fun a _ => a)
  have bk19 : KBn K d19 ["self", "paper"] 1 ["paper"] (fun us ws => us ++ ws) (fun vs zs => vs ++ zs) := fun_kb F19 (fun _ _ _ _ _ _ us ws h1 h2 => match us, h1, ws, h2 with | [_], _, [_], _ => rfl) (fun a b => a.append b)
  have bp20 : KBn K d20 ["self", "what", "most"] 3 [] (fun us _ => us) (fun vs _ => vs) := fun_kb F20 (fun _ _ _ _ _ _ us ws h1 h2 => match us, h1, ws, h2 with | [_, _, _], _, [], _ => rfl) (fun a _ => a)
  have bk20 : KBn K d20 ["self", "what", "most"] 1 ["most", "what"] (fun us ws => us ++ ws.reverse) (fun vs zs => vs ++ zs.reverse) := fun_kb F20 (fun _ _ _ _ _ _ us ws h1 h2 => match us, h1, ws, h2 with | [_], _, [_, _], _ => rfl) (fun a b => a.append b.reverse)
  have bp21 : KBn K d21 ["self", "line", "item"] 3 [] (fun us _ => us) (fun vs _ => vs) := fun_kb F21 (fun _ _ _ _ _ _ us ws h1 h2 => match us, h1, ws, h2 with | [_, _, _], _, [], _ => rfl) (fun a _ => a)
  have bk21 : KBn K d21 ["self", "line", "item"] 1 ["item", "line"] (fun us ws => us ++ ws.reverse) (fun vs zs => vs ++ zs.reverse) := fun_kb F21 (fun _ _ _ _ _ _ us ws h1 h2 => match us, h1, ws, h2 with | [_], _, [_, _], _ => rfl) (fun a b => a.append b.reverse)
  have bM : Binds K d16 ["self", "value"] [] := F16.binds (ps := ["self", "value"]) fun _ _ _ _ _ _ us hl => match us, hl with | [_, _], _ => rfl
  have hb : ∀ (s : Shared) (v : Value), BindsTo s d35 ⟨[v], []⟩ [("script", v)] := by
    obtain ⟨oc, od, kV, doc, pm, an, cdv, ct, osl, rfl, lk, hcd⟩ := F35.ex
    exact fun s v => .of_eq rfl
  refine ⟨d35, hb, fun base _ _ => ?_⟩
  have G5 : FnOk l.prog w K mg base CX0 1 f5 d5 ["value"] (spIsInt K) := ok_isint F5 T
  have G6 : FnOk l.prog w K mg base CX0 2 f6 d6 ["value", "least", "most"] (spWithin K) := ok_within F6 T D5 G5
  have G7 : FnOk l.prog w K mg base CX0 3 f7 d7 ["value"] (spNums K) := ok_nums F7 T D6 G6
  have G8 : FnOk l.prog w K mg base CX0 3 f8 d8 ["value"] (spName K) := ok_name F8 T V D6 G6
  have G23 : FnOk l.prog w K mg base CX0 1 f23 d23 ["script"] (spPen K) := ok_pen F23 T
  have G24 : FnOk l.prog w K mg base CX0 1 f24 d24 ["pen", "many"] spDraw := ok_draw F24 T
  have G25 : FnOk l.prog w K mg base CX0 2 f25 d25 ["pen", "some"] (spPick K) := ok_pick F25 T D24 G24
  have G26 : FnOk l.prog w K mg base CX0 2 f26 d26 ["pen"] spValue := ok_value F26 T D24 G24
  have G27 : FnOk l.prog w K mg base CX0 1 f27 d27 ["error"] (spClasses (fun i => ([C11, C12, C13, C14, C15, C17, C18, C19, C20, C21] : List Addr).getD i 0)) := ok_classes F27 T Z
  have G28 : FnOk l.prog w K mg base CX0 2 f28 d28 ["error", "at"] (spOnly (fun i => ([C11, C12, C13, C14, C15, C17, C18, C19, C20, C21] : List Addr).getD i 0)) := ok_only F28 T Z D27 G27
  have G11 : FnOk l.prog w K mg base CX0 1 f11 d11 ["self", "part"] (spF1 K "part") := ok_iW F11
  have G12 : FnOk l.prog w K mg base CX0 1 f12 d12 ["self", "part"] (spF1 K "part") := ok_iK F12
  have G13 : FnOk l.prog w K mg base CX0 1 f13 d13 ["self", "part"] (spF1 K "part") := ok_iN F13
  have G14 : FnOk l.prog w K mg base CX0 1 f14 d14 ["self", "part"] (spF1 K "part") := ok_iT F14
  have G15 : FnOk l.prog w K mg base CX0 1 f15 d15 ["self", "part"] (spF1 K "part") := ok_iF F15
  have G16 : FnOk l.prog w K mg base CX0 1 f16 d16 ["self", "value"] (spF1 K "value") := ok_iM F16
  have G19 : FnOk l.prog w K mg base CX0 1 f19 d19 ["self", "paper"] (spF1 K "paper") := ok_iI F19
  have G20 : FnOk l.prog w K mg base CX0 1 f20 d20 ["self", "what", "most"] (spF2 K "what" "most") := ok_iX F20
  have G21 : FnOk l.prog w K mg base CX0 1 f21 d21 ["self", "line", "item"] (spF2 K "line" "item") := ok_iB F21
  have G17 : FnOk l.prog w K mg base CX0 2 f17 d17 ["self", "value"] (spF1 K "value") := ok_iP F17 (PySem.W.mg_of X G g16) ⟨⟨rd, rg⟩, ri⟩ G16 F16.kp bM
  have G18 : FnOk l.prog w K mg base CX0 2 f18 d18 ["self", "value"] (spF1 K "value") := ok_iO F18 (PySem.W.mg_of X G g16) ⟨⟨rd, rg⟩, ri⟩ G16 F16.kp bM
  have M11 : Mx l.prog w K mg base "BadWriting" C11 f11 d11 "part" 1 := ⟨X11, i11, t11, G11, n11_0, PySem.W.mg_of X G g11, bp11, bk11⟩
  have M12 : Mx l.prog w K mg base "BadKind" C12 f12 d12 "part" 1 := ⟨X12, i12, t12, G12, n12_0, PySem.W.mg_of X G g12, bp12, bk12⟩
  have M13 : Mx l.prog w K mg base "BadNumber" C13 f13 d13 "part" 1 := ⟨X13, i13, t13, G13, n13_0, PySem.W.mg_of X G g13, bp13, bk13⟩
  have M14 : Mx l.prog w K mg base "BadTable" C14 f14 d14 "part" 1 := ⟨X14, i14, t14, G14, n14_0, PySem.W.mg_of X G g14, bp14, bk14⟩
  have M15 : Mx l.prog w K mg base "Misfit" C15 f15 d15 "part" 1 := ⟨X15, i15, t15, G15, n15_0, PySem.W.mg_of X G g15, bp15, bk15⟩
  have M16 : Mx l.prog w K mg base "Missing" C16 f16 d16 "value" 1 := ⟨X16, i16, t16, G16, n16_0, PySem.W.mg_of X G g16, bp16, bk16⟩
  have M17 : Mx l.prog w K mg base "NoPlace" C17 f17 d17 "value" 2 := ⟨X17, i17, t17, G17, n17_0, PySem.W.mg_of X G g17, bp17, bk17⟩
  have M18 : Mx l.prog w K mg base "NoName" C18 f18 d18 "value" 2 := ⟨X18, i18, t18, G18, n18_0, PySem.W.mg_of X G g18, bp18, bk18⟩
  have M19 : Mx l.prog w K mg base "Impossible" C19 f19 d19 "paper" 1 := ⟨X19, i19, t19, G19, n19_0, PySem.W.mg_of X G g19, bp19, bk19⟩
  have M20 : Mx2 l.prog w K mg base "TooMany" C20 f20 d20 "what" "most" 1 := ⟨X20, i20, t20, G20, n20_0, n20_1, PySem.W.mg_of X G g20, bp20, bk20⟩
  have M21 : Mx2 l.prog w K mg base "BadText" C21 f21 d21 "line" "item" 1 := ⟨X21, i21, t21, G21, n21_0, n21_1, PySem.W.mg_of X G g21, bp21, bk21⟩
  have nf : ∀ i, i < 8 → PySem.W.findIn K (.ref ((fun i => ([C11, C12, C13, C14, C15, C17, C18, C19, C20, C21] : List Addr).getD i 0) i)) (fld i) = some none := fun i hi => match i, hi with | 0, _ => n11_0 | 1, _ => n12_0 | 2, _ => n13_0 | 3, _ => n14_0 | 4, _ => n15_0 | 5, _ => n17_0 | 6, _ => n18_0 | 7, _ => n19_0 | k + 8, hk => absurd hk (by omega)
  have G29 : FnOk l.prog w K mg base CX0 4 f29 d29 ["one"] (spMade (fun i => ([C11, C12, C13, C14, C15, C17, C18, C19, C20, C21] : List Addr).getD i 0)) := ok_byP F29 M11 M12 M13 M14 M15 M17 M18 M19
  have G30 : FnOk l.prog w K mg base CX0 4 f30 d30 ["one"] (spMade (fun i => ([C11, C12, C13, C14, C15, C17, C18, C19, C20, C21] : List Addr).getD i 0)) := ok_byN F30 M11 M12 M13 M14 M15 M17 M18 M19
  have G31 : FnOk l.prog w K mg base CX0 1 f31 d31 ["error", "at"] (spField (fun i => ([C11, C12, C13, C14, C15, C17, C18, C19, C20, C21] : List Addr).getD i 0)) := ok_field F31 Z nf
  have G32 : FnOk l.prog w K mg base CX0 5 f32 d32 ["one", "other"] spErrs := ok_errs F32 T Z D29 G29 D30 G30 D31 G31 D28 G28 M20 M21 M16
  have G33 : FnOk l.prog w K mg base CX0 4 f33 d33 ["pen"] spInts := ok_ints F33 T D24 G24 D25 G25 D5 G5 BI D6 G6 BW0 BW1 D7 G7 BNs
  have G34 : FnOk l.prog w K mg base CX0 4 f34 d34 ["pen"] spInts := ok_names F34 T D24 G24 D25 G25 D8 G8 BNm
  exact ok_law F35 T D23 G23 D26 G26 D32 G32 D33 G33 D34 G34
theorem walk {l : PySem.W.OpenLaw} {q : Program} {loose : List Str} {XP : (Str → Option Value) → Heap → Prop} {YP : World → Heap → Prop} {d : DefRec} {K : Params → PySem.W.Frag} (hn : l.most = some 63) (hdf : d.params.defaults = [])
    (hY : ∀ (w : World) (h : Heap), YP w h → (K w.params).In h)
    (F : ∀ (w : World) (mg : Str → Option Value) (fa : Addr) (h : Heap), (K w.params).In h → h.Ns mainGlobals mg → mg d.name = some (.ref fa) →
      ∃ fd : FuncData, (∀ (s : Shared) (u : Value), BindsTo s fd ⟨[u], []⟩ [("script", u)]) ∧ ∀ base : Heap, (K w.params).In base → base.Ns mainGlobals mg → FnOk l.prog w (K w.params) mg base CX0 6 fa fd ["script"] (spLaw (K w.params))) :
    PySem.W.WalkO q loose XP YP l.row.toRowW d [] (fun f vs => PySem.call f vs) :=
  L2.walk_of (n := 63) (k := 6) (x := "script") (CX := fun _ => CX0) (sp := fun w => spLaw (K w.params)) hn (by decide) hdf ⟨rfl, by decide, by decide⟩ hY F (fun _ _ a ns hl _ hS => ⟨a, ns, rfl, hS, hl, fun _ => rfl⟩) fun _ _ _ _ _ z => z
end TA
open PySem PySem.W PyProof.Rows
set_option maxRecDepth 100000 in
set_option maxHeartbeats 0 in
theorem PySem.Challenge.cw_timesagain_k00_errors_and_checks_holds : PySem.Challenge.rw_timesagain_k00_errors_and_checks.Holds := by
  w_on; o_law; k_head; (case hw => w_witness2)
  k_fill
  refine TA.walk (l := PySem.Challenge.rw_timesagain_k00_errors_and_checks) rfl rfl (fun w h Y => PySem.W.kIn_of Y) ?F
  case F =>
    intro w mg fa h KX G hmg
    refine' TA.all_mk KX G hmg
      ?b_len ?b_int ?b_str ?b_bool ?b_list ?b_tuple ?b_abs ?b_all ?b_isinstance ?b_range ?b_enumerate ?b_ValueError ?b_LookupError ?b_TypeError ?b_ArithmeticError ?b_AttributeError
      ?b_RuntimeError ?gA ?g11 ?g12 ?g13 ?g14 ?g15 ?g16 ?g17 ?g18 ?g19 ?g20 ?g21 (TA.xcl_mk ?xL11 ?hb11 ?sa11 ?ex11 ?ty11 ?kC11 ?hg11 ?hk11 ?hd11 ?ha11 ?hm11 ?hn11 ?ht11) ?i11 ?t11
      (L2.fun_mk ?l11 ?c11 ?k11) ?n11_0 (TA.xcl_mk ?xL12 ?hb12 ?sa12 ?ex12 ?ty12 ?kC12 ?hg12 ?hk12 ?hd12 ?ha12 ?hm12 ?hn12 ?ht12) ?i12 ?t12 (L2.fun_mk ?l12 ?c12 ?k12) ?n12_0
      (TA.xcl_mk ?xL13 ?hb13 ?sa13 ?ex13 ?ty13 ?kC13 ?hg13 ?hk13 ?hd13 ?ha13 ?hm13 ?hn13 ?ht13) ?i13 ?t13 (L2.fun_mk ?l13 ?c13 ?k13) ?n13_0
      (TA.xcl_mk ?xL14 ?hb14 ?sa14 ?ex14 ?ty14 ?kC14 ?hg14 ?hk14 ?hd14 ?ha14 ?hm14 ?hn14 ?ht14) ?i14 ?t14 (L2.fun_mk ?l14 ?c14 ?k14) ?n14_0
      (TA.xcl_mk ?xL15 ?hb15 ?sa15 ?ex15 ?ty15 ?kC15 ?hg15 ?hk15 ?hd15 ?ha15 ?hm15 ?hn15 ?ht15) ?i15 ?t15 (L2.fun_mk ?l15 ?c15 ?k15) ?n15_0
      (TA.xcl_mk ?xL16 ?hb16 ?sa16 ?ex16 ?ty16 ?kC16 ?hg16 ?hk16 ?hd16 ?ha16 ?hm16 ?hn16 ?ht16) ?i16 ?t16 (L2.fun_mk ?l16 ?c16 ?k16) ?n16_0
      (TA.xcl_mk ?xL17 ?hb17 ?sa17 ?ex17 ?ty17 ?kC17 ?hg17 ?hk17 ?hd17 ?ha17 ?hm17 ?hn17 ?ht17) ?i17 ?t17 (L2.fun_mk ?l17 ?c17 ?k17) ?n17_0
      (TA.xcl_mk ?xL18 ?hb18 ?sa18 ?ex18 ?ty18 ?kC18 ?hg18 ?hk18 ?hd18 ?ha18 ?hm18 ?hn18 ?ht18) ?i18 ?t18 (L2.fun_mk ?l18 ?c18 ?k18) ?n18_0
      (TA.xcl_mk ?xL19 ?hb19 ?sa19 ?ex19 ?ty19 ?kC19 ?hg19 ?hk19 ?hd19 ?ha19 ?hm19 ?hn19 ?ht19) ?i19 ?t19 (L2.fun_mk ?l19 ?c19 ?k19) ?n19_0
      (TA.xcl_mk ?xL20 ?hb20 ?sa20 ?ex20 ?ty20 ?kC20 ?hg20 ?hk20 ?hd20 ?ha20 ?hm20 ?hn20 ?ht20) ?i20 ?t20 (L2.fun_mk ?l20 ?c20 ?k20) ?n20_0 ?n20_1
      (TA.xcl_mk ?xL21 ?hb21 ?sa21 ?ex21 ?ty21 ?kC21 ?hg21 ?hk21 ?hd21 ?ha21 ?hm21 ?hn21 ?ht21) ?i21 ?t21 (L2.fun_mk ?l21 ?c21 ?k21) ?n21_0 ?n21_1 ?a5 (L2.fun_mk ?l5 ?c5 ?k5) ?a6
      (L2.fun_mk ?l6 ?c6 ?k6) ?a7 (L2.fun_mk ?l7 ?c7 ?k7) ?a8 (L2.fun_mk ?l8 ?c8 ?k8) ?a23 (L2.fun_mk ?l23 ?c23 ?k23) ?a24 (L2.fun_mk ?l24 ?c24 ?k24) ?a25 (L2.fun_mk ?l25 ?c25 ?k25)
      ?a26 (L2.fun_mk ?l26 ?c26 ?k26) ?a27 (L2.fun_mk ?l27 ?c27 ?k27) ?a28 (L2.fun_mk ?l28 ?c28 ?k28) ?a29 (L2.fun_mk ?l29 ?c29 ?k29) ?a30 (L2.fun_mk ?l30 ?c30 ?k30) ?a31
      (L2.fun_mk ?l31 ?c31 ?k31) ?a32 (L2.fun_mk ?l32 ?c32 ?k32) ?a33 (L2.fun_mk ?l33 ?c33 ?k33) ?a34 (L2.fun_mk ?l34 ?c34 ?k34) ?a35 (L2.fun_mk ?l35 ?c35 ?k35) ?rd ?rg ?ri ?vl ?vd
      ?vn ?vo ?lo ?kits
    (case b_len => k_is)
    (case b_int => k_is)
    (case b_str => k_is)
    (case b_bool => k_is)
    (case b_list => k_is)
    (case b_tuple => k_is)
    (case b_abs => k_is)
    (case b_all => k_is)
    (case b_isinstance => k_is)
    (case b_range => k_is)
    (case b_enumerate => k_is)
    (case b_ValueError => k_is)
    (case b_LookupError => k_is)
    (case b_TypeError => k_is)
    (case b_ArithmeticError => k_is)
    (case b_AttributeError => k_is)
    (case b_RuntimeError => k_is)
    (case gA => k_is)
    (case g11 => k_is)
    (case g12 => k_is)
    (case g13 => k_is)
    (case g14 => k_is)
    (case g15 => k_is)
    (case g16 => k_is)
    (case g17 => k_is)
    (case g18 => k_is)
    (case g19 => k_is)
    (case g20 => k_is)
    (case g21 => k_is)
    (case xL11 => k_is)
    (case hb11 => kernel_rfl)
    (case sa11 => k_is)
    (case ex11 => k_is)
    (case ty11 => k_is)
    (case kC11 => k_is)
    (case hg11 => k_is)
    (case hk11 => k_is)
    (case hd11 => k_is)
    (case ha11 => k_is)
    (case hm11 => k_is)
    (case hn11 => k_is)
    (case ht11 => k_is)
    (case i11 => k_is)
    (case t11 => k_is)
    (case l11 => k_is)
    (case c11 => k_is)
    (case k11 => k_is)
    (case n11_0 => k_is)
    (case xL12 => k_is)
    (case hb12 => kernel_rfl)
    (case sa12 => k_is)
    (case ex12 => k_is)
    (case ty12 => k_is)
    (case kC12 => k_is)
    (case hg12 => k_is)
    (case hk12 => k_is)
    (case hd12 => k_is)
    (case ha12 => k_is)
    (case hm12 => k_is)
    (case hn12 => k_is)
    (case ht12 => k_is)
    (case i12 => k_is)
    (case t12 => k_is)
    (case l12 => k_is)
    (case c12 => k_is)
    (case k12 => k_is)
    (case n12_0 => k_is)
    (case xL13 => k_is)
    (case hb13 => kernel_rfl)
    (case sa13 => k_is)
    (case ex13 => k_is)
    (case ty13 => k_is)
    (case kC13 => k_is)
    (case hg13 => k_is)
    (case hk13 => k_is)
    (case hd13 => k_is)
    (case ha13 => k_is)
    (case hm13 => k_is)
    (case hn13 => k_is)
    (case ht13 => k_is)
    (case i13 => k_is)
    (case t13 => k_is)
    (case l13 => k_is)
    (case c13 => k_is)
    (case k13 => k_is)
    (case n13_0 => k_is)
    (case xL14 => k_is)
    (case hb14 => kernel_rfl)
    (case sa14 => k_is)
    (case ex14 => k_is)
    (case ty14 => k_is)
    (case kC14 => k_is)
    (case hg14 => k_is)
    (case hk14 => k_is)
    (case hd14 => k_is)
    (case ha14 => k_is)
    (case hm14 => k_is)
    (case hn14 => k_is)
    (case ht14 => k_is)
    (case i14 => k_is)
    (case t14 => k_is)
    (case l14 => k_is)
    (case c14 => k_is)
    (case k14 => k_is)
    (case n14_0 => k_is)
    (case xL15 => k_is)
    (case hb15 => kernel_rfl)
    (case sa15 => k_is)
    (case ex15 => k_is)
    (case ty15 => k_is)
    (case kC15 => k_is)
    (case hg15 => k_is)
    (case hk15 => k_is)
    (case hd15 => k_is)
    (case ha15 => k_is)
    (case hm15 => k_is)
    (case hn15 => k_is)
    (case ht15 => k_is)
    (case i15 => k_is)
    (case t15 => k_is)
    (case l15 => k_is)
    (case c15 => k_is)
    (case k15 => k_is)
    (case n15_0 => k_is)
    (case xL16 => k_is)
    (case hb16 => kernel_rfl)
    (case sa16 => k_is)
    (case ex16 => k_is)
    (case ty16 => k_is)
    (case kC16 => k_is)
    (case hg16 => k_is)
    (case hk16 => k_is)
    (case hd16 => k_is)
    (case ha16 => k_is)
    (case hm16 => k_is)
    (case hn16 => k_is)
    (case ht16 => k_is)
    (case i16 => k_is)
    (case t16 => k_is)
    (case l16 => k_is)
    (case c16 => k_is)
    (case k16 => k_is)
    (case n16_0 => k_is)
    (case xL17 => k_is)
    (case hb17 => kernel_rfl)
    (case sa17 => k_is)
    (case ex17 => k_is)
    (case ty17 => k_is)
    (case kC17 => k_is)
    (case hg17 => k_is)
    (case hk17 => k_is)
    (case hd17 => k_is)
    (case ha17 => k_is)
    (case hm17 => k_is)
    (case hn17 => k_is)
    (case ht17 => k_is)
    (case i17 => k_is)
    (case t17 => k_is)
    (case l17 => k_is)
    (case c17 => k_is)
    (case k17 => k_is)
    (case n17_0 => k_is)
    (case xL18 => k_is)
    (case hb18 => kernel_rfl)
    (case sa18 => k_is)
    (case ex18 => k_is)
    (case ty18 => k_is)
    (case kC18 => k_is)
    (case hg18 => k_is)
    (case hk18 => k_is)
    (case hd18 => k_is)
    (case ha18 => k_is)
    (case hm18 => k_is)
    (case hn18 => k_is)
    (case ht18 => k_is)
    (case i18 => k_is)
    (case t18 => k_is)
    (case l18 => k_is)
    (case c18 => k_is)
    (case k18 => k_is)
    (case n18_0 => k_is)
    (case xL19 => k_is)
    (case hb19 => kernel_rfl)
    (case sa19 => k_is)
    (case ex19 => k_is)
    (case ty19 => k_is)
    (case kC19 => k_is)
    (case hg19 => k_is)
    (case hk19 => k_is)
    (case hd19 => k_is)
    (case ha19 => k_is)
    (case hm19 => k_is)
    (case hn19 => k_is)
    (case ht19 => k_is)
    (case i19 => k_is)
    (case t19 => k_is)
    (case l19 => k_is)
    (case c19 => k_is)
    (case k19 => k_is)
    (case n19_0 => k_is)
    (case xL20 => k_is)
    (case hb20 => kernel_rfl)
    (case sa20 => k_is)
    (case ex20 => k_is)
    (case ty20 => k_is)
    (case kC20 => k_is)
    (case hg20 => k_is)
    (case hk20 => k_is)
    (case hd20 => k_is)
    (case ha20 => k_is)
    (case hm20 => k_is)
    (case hn20 => k_is)
    (case ht20 => k_is)
    (case i20 => k_is)
    (case t20 => k_is)
    (case l20 => k_is)
    (case c20 => k_is)
    (case k20 => k_is)
    (case n20_0 => k_is)
    (case n20_1 => k_is)
    (case xL21 => k_is)
    (case hb21 => kernel_rfl)
    (case sa21 => k_is)
    (case ex21 => k_is)
    (case ty21 => k_is)
    (case kC21 => k_is)
    (case hg21 => k_is)
    (case hk21 => k_is)
    (case hd21 => k_is)
    (case ha21 => k_is)
    (case hm21 => k_is)
    (case hn21 => k_is)
    (case ht21 => k_is)
    (case i21 => k_is)
    (case t21 => k_is)
    (case l21 => k_is)
    (case c21 => k_is)
    (case k21 => k_is)
    (case n21_0 => k_is)
    (case n21_1 => k_is)
    (case a5 => k_is)
    (case l5 => k_is)
    (case c5 => k_is)
    (case k5 => k_is)
    (case a6 => k_is)
    (case l6 => k_is)
    (case c6 => k_is)
    (case k6 => k_is)
    (case a7 => k_is)
    (case l7 => k_is)
    (case c7 => k_is)
    (case k7 => k_is)
    (case a8 => k_is)
    (case l8 => k_is)
    (case c8 => k_is)
    (case k8 => k_is)
    (case a23 => k_is)
    (case l23 => k_is)
    (case c23 => k_is)
    (case k23 => k_is)
    (case a24 => k_is)
    (case l24 => k_is)
    (case c24 => k_is)
    (case k24 => k_is)
    (case a25 => k_is)
    (case l25 => k_is)
    (case c25 => k_is)
    (case k25 => k_is)
    (case a26 => k_is)
    (case l26 => k_is)
    (case c26 => k_is)
    (case k26 => k_is)
    (case a27 => k_is)
    (case l27 => k_is)
    (case c27 => k_is)
    (case k27 => k_is)
    (case a28 => k_is)
    (case l28 => k_is)
    (case c28 => k_is)
    (case k28 => k_is)
    (case a29 => k_is)
    (case l29 => k_is)
    (case c29 => k_is)
    (case k29 => k_is)
    (case a30 => k_is)
    (case l30 => k_is)
    (case c30 => k_is)
    (case k30 => k_is)
    (case a31 => k_is)
    (case l31 => k_is)
    (case c31 => k_is)
    (case k31 => k_is)
    (case a32 => k_is)
    (case l32 => k_is)
    (case c32 => k_is)
    (case k32 => k_is)
    (case a33 => k_is)
    (case l33 => k_is)
    (case c33 => k_is)
    (case k33 => k_is)
    (case a34 => k_is)
    (case l34 => k_is)
    (case c34 => k_is)
    (case k34 => k_is)
    (case a35 => k_is)
    (case l35 => k_is)
    (case c35 => k_is)
    (case k35 => k_is)
    (case rd => k_is)
    (case rg => k_is)
    (case ri => k_is)
    (case vl => k_is)
    (case vd => k_is)
    (case vn => k_is)
    (case vo => k_is)
    (case lo => k_is)
    (case kits => kernel_rfl)
