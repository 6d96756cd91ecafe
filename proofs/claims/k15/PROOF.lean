import PyProof.Rows.All
import Wide.All
import OpenK.AllK
import Wide.FinOn
import HandS.ForMost
import HandS.ExcInit
import HandS.IsInst
import HandS.ExcIs
import HandS.ExcValue
import HandS.HotCalls
import HandS.ForExc
import HandS.TryMany
import HandS.Codes
import HandS.Words
import HandS.ReplaceLit
import HandS.ReplaceList
import HandS.AnyAll
import HandS.DictComp
import PyProof.NeKinds
import KE.KDictZip
import KE.KSuper
import HandS.Base
import HandS.Call
import HandS.Nested
import HandS.NestedK
import HandS.More
import HandS.Defaults
import HandS.Dict
import HandS.Walk
import HandS.Zip
import HandS.Style
import HandS.MakeKw
import HandS.FStr
import HandS.Finally
import HandS.MakeKwOnly
import HandS.Ends
import HandS.Head0
import HandS.Head1
import HandS.Head2
import HandS.HeadEnd
import HandS.HeadHook1
import HandS.HeadHook2
import PySem.Challenge.RW_recordyard_k15_clocks_streams_and_files
set_option Elab.async false
set_option linter.all false
set_option maxRecDepth 100000
set_option maxHeartbeats 4000000
namespace My
open PySem PySem.W PySem.Calls PyProof.Rows PySem.HandSPX
section
variable {prog : Program} {w : World} {A : Around} {M : Model} {E : Value → Shared → Prop} {R : Result → Shared → Prop} {h : Heap} {g : Array GenState} {d : Drawn} {t : Nat} {os : OsState}
variable {nm q : Str} {C N : Addr} {bs bm bmB : List Value} {hdct : Bool} {sn : List Str} {sub : List Value} {ab : Bool} {col : Option Bool} {dd : Option Addr} {k0 k1 k2 k3 k5 : Option Value} {B newId initId : String}
theorem chk_new_kw (F : ExcBaseFacts B newId initId bmB) (hT : ∀ X : String, bm.contains (.type X) = bmB.contains (.type X)) {rest : List Value}
    {kw : List (Str × Value)} {Q : Unit → Shared → Prop} (hC : h.get? C = some (excClassObj nm q C N bs bm hdct sn sub ab col dd k0 k1 k2 k3 k5 newId))
    (hq : Q () ⟨h, g, d, t, os⟩) :
    wpAny M A (checkBuiltinCall newId ⟨.ref C :: rest, kw⟩) Q E ⟨h, g, d, t, os⟩ := by
  have hc : (Value.ref C :: bm).contains (.type B) = true := by
    rw [List.contains_cons, hT, F.hasB, Bool.or_true]
  have hstar := F.noStar
  simp only [checkBuiltinCall, F.newKind, F.newSplit, F.newRow]
  repeat (first
    | refine wpAny_loadPart_at hC ?_
    | (refine wpAny_isSubtype_exc hC ?_; rw [hc])
    | refine wpAny_staticBase_exc hC ?_
    | refine wpAny_madeBy_exc hC ?_
    | simp only [bne_self_eq_false, Bool.false_eq_true, if_false]
    | wp_step)
  exact hq
theorem new_kw (F : ExcBaseFacts B newId initId bmB) (hT : ∀ X : String, bm.contains (.type X) = bmB.contains (.type X)) {rest : List Value}
    {kw : List (Str × Value)} (hC : h.get? C = some (excClassObj nm q C N bs bm hdct sn sub ab col dd k0 k1 k2 k3 k5 newId))
    (hq : R (.ok (.ret (.ref (h.objs.size + 1)))) ⟨(h.push (kdv_tup rest)).push (excO C h.objs.size), g, d, t, os⟩)
    (hrest : rest.length ≤ sizeLine) :
    codeAny (model prog w) A (.builtin newId ⟨.ref C :: rest, kw⟩) R ⟨h, g, d, t, os⟩ := by
  have hends := F.ends
  have h1 : (Value.ref C :: bm).contains (.type B) = true := by
    rw [List.contains_cons, hT, F.hasB, Bool.or_true]
  have h2 : (Value.ref C :: bm).contains (.type "AttributeError") = false := by
    rw [List.contains_cons, hT, F.noAttr]; rfl
  have h3 : (Value.ref C :: bm).contains (.type "NameError") = false := by
    rw [List.contains_cons, hT, F.noName]; rfl
  refine PySem.codeAny_builtinAt F.entry ?_
  unfold Builtin.«BaseException.__new__»
  refine PySem.wpAt_bind ?_
  show PySem.wpAt _ _ _ (stack >>= _) _ _ _
  refine PySem.wpAt_bind (PySem.wpAt_stack fun p below => PySem.wpAt_of_wpAny ?_)
  wp_walk
  refine PySem.wpAt_of_wpAny ?_
  rw [F.owner]
  repeat (first
    | with_reducible refine wpAny_madeHere_exc F.canon hC ?_
    | with_reducible refine wpAny_loadPart_at hC ?_
    | (with_reducible refine wpAny_isSubtype_exc hC ?_; first | rw [h1] | rw [h2] | rw [h3])
    | wp_step)
  show R _ _
  rw [Heap.size_push]
  exact hq
theorem tcall_kw (F : ExcBaseFacts B newId initId bmB) (hT : ∀ X : String, bm.contains (.type X) = bmB.contains (.type X)) {rest : List Value}
    {kw : List (Str × Value)} {fI : Addr} {Q : Fin → Shared → Prop} (hC : h.get? C = some (excClassObj nm q C N bs bm hdct sn sub ab col dd k0 k1 k2 k3 k5 newId))
    (hi : W.Looks (model prog w) h (typeLookup (.ref C) "__init__") (some (.ref fI)))
    (hb : ∀ self, W.Looks (model prog w) h (bindSpecial (.ref fI) self) (.ref fI, [self])) (hrest : rest.length ≤ sizeLine)
    (hq : codeAny (model prog w) A (.call (.ref fI) ⟨.ref (h.objs.size + 1) :: rest, kw⟩)
      (fun r s' => match r with
        | .ok (.ret v) => v = .none ∧ Q (.done (.ret (.ref (h.objs.size + 1)))) s'
        | .ok _ => False
        | .error e => E e s')
      ⟨(h.push (kdv_tup rest)).push (excO C h.objs.size), g, d, t, os⟩) :
    wpAny (model prog w) A (Builtin.«type.__call__» ⟨.ref C :: rest, kw⟩) Q E ⟨h, g, d, t, os⟩ := by
  repeat (first
    | with_reducible refine wpAny_loadPart_at hC ?_
    | with_reducible refine wpAny_madeBy_exc hC ?_
    | wp_step)
  refine codeAny_call_builtin_code (Code.quiet_builtin _ F.quiet) (chk_new_kw F hT hC ?_)
  refine new_kw F hT hC ?_ hrest
  show wpAny _ _ _ _ _ _
  have kp : ∀ b o, h.get? b = some o → ((h.push (kdv_tup rest)).push (excO C h.objs.size)).get? b = some o :=
    fun b o e => Heap.get?_push_of_some _ (Heap.get?_push_of_some _ e)
  have hC1 := kp _ _ hC
  have hg : ((h.push (kdv_tup rest)).push (excO C h.objs.size)).get? (h.objs.size + 1) = some (excO C h.objs.size) := by
    heap_get
  have hcC : (Value.ref C :: bm).contains (.ref C) = true := by simp
  have i1 := hi.keeps kp
  have b1 := (hb (.ref (h.objs.size + 1))).keeps kp
  unfold isInstance
  repeat (first
    | with_reducible refine wpAny_loadPart_at hg ?_
    | (with_reducible refine wpAny_isSubtype_exc hC1 ?_; rw [hcC])
    | wp_step)
  show wpAny _ _ (typeLookup (.ref C) _) _ _ _
  refine i1.at ?_
  refine wpAny_holding (wpAny_bind (b1.at ?_))
  refine wpAny_bind (wpAny_call (codeAny_mono hq fun r s' z => ?_))
  rcases r with e | (v | _ | _ | _) <;> first
    | exact z
    | exact z.elim
    | skip
  obtain ⟨rfl, z⟩ := z
  first
    | exact wpAny_pure (wpAny_pure z)
    | (wp_walk; exact z)
theorem call_kw (F : ExcBaseFacts B newId initId bmB) (hT : ∀ X : String, bm.contains (.type X) = bmB.contains (.type X)) {rest : List Value}
    {kw : List (Str × Value)} {fI : Addr} (hC : h.get? C = some (excClassObj nm q C N bs bm hdct sn sub ab col dd k0 k1 k2 k3 k5 newId))
    (hi : W.Looks (model prog w) h (typeLookup (.ref C) "__init__") (some (.ref fI)))
    (hb : ∀ self, W.Looks (model prog w) h (bindSpecial (.ref fI) self) (.ref fI, [self])) (hrest : rest.length ≤ sizeLine)
    (hq : codeAny (model prog w) (A.under (.builtin "type.__call__" ⟨.ref C :: rest, kw⟩)) (.call (.ref fI) ⟨.ref (h.objs.size + 1) :: rest, kw⟩)
      (W.InitBack (h.objs.size + 1) R) ⟨(h.push (kdv_tup rest)).push (excO C h.objs.size), g, d, t, os⟩) :
    codeAny (model prog w) A (.call (.ref C) ⟨rest, kw⟩) R ⟨h, g, d, t, os⟩ := by
  have f1 := tc_lookup
  have f2 := tc_bind (.ref C)
  have hTy : (⟨h, g, d, t, os⟩ : Shared).TypeIs (.ref C) "type" := ⟨_, hC, rfl⟩
  refine codeAny_of_tree ?_
  show wpAny _ _ (callAny (.ref C) _) _ _ _
  repeat (any_goals (first
    | assumption
    | with_reducible refine wpAny_loadPart_at hC ?_
    | wp_step))
  refine ⟨rfl, ?_⟩
  refine codeAny_call_builtin_at (Code.quiet_builtin _ (by decide +kernel)) entry_typeCall
    (wpAny_check_type_call_sub hC (tcall_kw F hT hC hi hb hrest ?_))
  refine codeAny_mono hq fun r s' z => ?_
  rcases r with e | (v | _ | _ | _) <;> exact z
end
end My

namespace My
open PySem PySem.W PySem.Calls PyProof.Rows PySem.HandSPX
/-! ### isinstance of an exception with a dict of its own -/
section
variable {prog : Program} {w : World} {A : Around} {E : Value → Shared → Prop} {s : Shared} {K : Frag} {x D : Addr} {ox : Obj} {od : Option Obj}
theorem kin_cls (T : L2.ExcC K D) (X : K.In s.heap) (I : InstAt s.heap x ox D od) {Q : Option Value → Shared → Prop}
    (h : Q (some (.ref D)) { s with toks := s.toks + 1 }) :
    wpAny (model prog w) A (getAttr? (.ref x) "__class__") Q E s := by
  have hf : findObj K D od "__class__" = some (.bind (.builtin "getset_descriptor.__get__") (.builtin "object.__class__")) := by
    obtain ⟨cd, hc, _⟩ := any_some T.hd
    unfold findObj
    rw [hc, Option.bind_some, T.ha, Option.bind_some]
    simp [T.hn, T.ht]
  obtain ⟨hp, g, d, t, os⟩ := s
  have L0 := I.type (M := model prog w)
  have L1 := looks_findIn (M := model prog w) X T.hg
  have L2 := looks_findIn (M := model prog w) X T.hk
  have L3 := looks_find (M := model prog w) X I hf
  have su : Looks (model prog w) hp (isInstance (.ref x) (.type "BaseException")) true := L0.andThen (looks_subIn X T.hs)
  have n0 : (false && onTheHeap (Value.builtin "BaseException.__getattribute__")) = false := rfl
  have n2 : (Value.builtin "BaseException.__getattribute__" == Value.builtin "object.__getattribute__") = false := by
    decide +kernel
  have n1 : (onTheHeap (Value.ref D) && Value.builtin "BaseException.__getattribute__" == Value.builtin "object.__getattribute__") = false := by
    rw [n2]; rfl
  unfold getAttr? getAttrBy? getAttrBy
  refine wpAny_bind (wpAny_mkText (wpAny_bind (wpAny_attempt (wpAny_holding (wpAny_bind (L0.at (wpAny_bind (L1.at ?_))))))))
  show wpAny _ _ (if (onTheHeap (Value.ref D) && Value.builtin "BaseException.__getattribute__" == Value.builtin "object.__getattribute__") = true
    then _ else _) _ _ _
  rw [n1, if_neg Bool.false_ne_true]
  unfold getAttrByItsOwn hookBefore
  refine wpAny_bind ?_
  rw [if_pos (show onTheHeap (Value.ref D) = true from rfl)]
  refine L2.at ?_
  refine wpAny_bind (wpAny_attempt (wpAny_holding ?_))
  unfold callGetattribute
  rw [n0, if_neg Bool.false_ne_true]
  unfold boundAndCalled
  rw [PySem.F.excAttr_ValueError.ga.bind (.ref x)]
  refine wpAny_bind (wpAny_pure ?_)
  show wpAny _ _ (call (.builtin "BaseException.__getattribute__") [.ref x, .str "__class__" t]) _ _ _
  refine wpAny_call (codeAny_call_builtin PySem.F.excAttr_ValueError.ga.plain PySem.F.entry_bexc_ga ?_)
  refine @check_slot (model prog w) _ _ ⟨hp, g, d, t + 1, os⟩ "BaseException.__getattribute__" "BaseException" "__getattribute__" (.ref x)
    [.str "__class__" t] [] _ (by decide +kernel) (by decide +kernel) su (PySem.F.args_bexc_ga (.ref x) (.str "__class__" t)) ?_
  unfold Builtin.«object.__getattribute__»
  refine wpAny_bind (wpAny_of_eq (a := ((Value.ref x : Value), [Value.str "__class__" t]))
    (by first | rfl | (simp only [slotArgs]; rfl)) ?_)
  refine wpAny_bind (wpAny_pure (wpAny_bind (L0.at (wpAny_bind (L3.at ?_)))))
  show wpAny _ _ (holding [Value.builtin "object.__class__"]
    (call (.builtin "getset_descriptor.__get__") [.builtin "object.__class__", .ref x, .ref D]) >>= ret) _ _ _
  refine wpAny_bind (wpAny_holding (wpAny_call (class_get (s := ⟨hp, g, d, t + 1, os⟩) (ox := ox) (od := od) X I T.hm ?_)))
  refine wpAny_pure ?_
  show wpAny _ _ (handedOut (.ref D)) _ _ _
  rw [handedOut_of (v := .ref D) rfl]
  first
    | exact wpAny_pure (wpAny_pure h)
    | exact wpAny_pure h
    | exact wpAny_pure (wpAny_bind (wpAny_pure (wpAny_pure h)))
theorem kitx_e (T : L2.ExcC K D) : KitX K (.ref x) (.ref D) (fun h => InstAt h x ox D od) where
  ty := fun _ _ _ I => I.type
  it := fun _ _ X _ => by
    obtain ⟨cd, hc, _⟩ := any_some T.hd
    unfold clsIn at hc
    split at hc
    · rename_i ho
      intro A' Q' E' s' k q
      unfold isType loadHead
      exact wpAny_bind (wpAny_loadPart (k _ _ (X _ _ ho)) (wpAny_pure q))
    · exact nomatch hc
  ne := fun h tp dd its n sl X htp => by
    obtain ⟨cd, hc, _⟩ := any_some T.hd
    refine Bool.eq_false_iff.mpr fun q => ?_
    have e : D = tp := Value.ref.inj (beq_iff_eq.mp q)
    subst e
    unfold clsIn at hc
    split at hc
    · rename_i ho
      exact nomatch (X _ _ ho).symm.trans htp
    · exact nomatch hc
  ca := fun X I k => kin_cls T X I k
end
end My

namespace My
open PySem PySem.W PySem.Calls PyProof.Rows PySem.HandSPX
/-! ### an own error class whose __init__ stores its one argument under its own name f -/
def eA (f : Str) (p1 p2 : Pos) : Arguments :=
  { posonlyargs := [], args := [{ arg := "self", annotation := none, pos := p1 }, { arg := f, annotation := none, pos := p2 }], vararg := none,
    kwonlyargs := [], kw_defaults := [], kwarg := none, defaults := [] }
def eB (f : Str) (q1 q2 q3 q4 : Pos) : List Stmt := [.Assign [.Attribute (.Name "self" q1) f q2] (.Name f q3) q4]
def eS (f : Str) : Scope :=
  { kind := .function, names := [(PySem.Str.ofString "self", .local), (f, .local)], isGenerator := false, isCoroutine := false, more := [] }
structure OneF (f : Str) : Prop where
  b1 : ∀ (qual : Str) (p1 p2 q1 q2 q3 q4 : Pos) (doc pm : Value) (an : Option Addr) (cdv ct x v : Value),
    bindArgs (fnOf "__init__" qual (eA f p1 p2) (eB f q1 q2 q3 q4) (eS f) .none .none doc pm an cdv ct) ⟨[x, v], []⟩ = pure [(("self" : Str), x), (f, v)]
  b2 : ∀ (qual : Str) (p1 p2 q1 q2 q3 q4 : Pos) (doc pm : Value) (an : Option Addr) (cdv ct x v : Value),
    bindArgs (fnOf "__init__" qual (eA f p1 p2) (eB f q1 q2 q3 q4) (eS f) .none .none doc pm an cdv ct) ⟨[x], [(f, v)]⟩ = pure [(("self" : Str), x), (f, v)]
  nd : (f == ("__debug__" : Str)) = false
  lk : (eS f).names.lookup f = some .local
  al : ∀ (x v : Value), ([(("self" : Str), x), (f, v)].all fun y =>
      List.lookup y.fst (eS f).names == some NameKind.local || List.lookup y.fst (eS f).names == some NameKind.cell) = true
  vs : ∀ (q : Str) (L a : Addr) (cd x v : Value), bindL (envOfC q (eS f) L a cd).kindOf [(("self" : Str), x), (f, v)] (fun _ => none) "self" = some x
  vf : ∀ (q : Str) (L a : Addr) (cd x v : Value), bindL (envOfC q (eS f) L a cd).kindOf [(("self" : Str), x), (f, v)] (fun _ => none) f = some v
  kf : ∀ (q : Str) (L a : Addr) (cd : Value), (envOfC q (eS f) L a cd).kindOf f = some .local
theorem oneF_level : OneF "level" := ⟨by intros; rfl, by intros; rfl, by decide +kernel, by decide +kernel, by intros; rfl, by intros; rfl, by intros; rfl, by intros; rfl⟩
structure ErrTxt (K : Frag) (mg : Str → Option Value) (cn f : Str) (C fI : Addr) : Prop where
  one : OneF f
  gC : mg cn = some (.ref C)
  cls : ∃ nm q N bs bm sn sub ab col dd k0 k1 k2 k3 k5,
    K.lookup C = some (excClassObj nm q C N bs bm true sn sub ab col dd k0 k1 k2 k3 k5 "ValueError.__new__") ∧ refsVE bm = true
  sa : findIn K (.ref C) "__setattr__" = some (some (.builtin "object.__setattr__"))
  ga : findIn K (.ref C) "__getattribute__" = some (some (.builtin "BaseException.__getattribute__"))
  gg : findIn K (.ref C) "__getattr__" = some none
  noN : findIn K (.ref C) f = some none
  iC : findIn K (.ref C) "__init__" = some (some (.ref fI))
  tC : typeIn K (.ref fI) = some (.type "function")
  kC : keepIn K (.ref C) = true
  exC : subIn K (.ref C) (.type "BaseException") = some true
  tyC : typeIn K (.ref C) = some (.type "type")
  hdC : hasDictIn K C = true
  fn : ∃ (oc : Value) (od : Option Addr) (q : Str) (doc pm : Value) (an : Option Addr) (cdv ct : Value) (osl : Array (Option Value)) (p1 p2 q1 q2 q3 q4 : Pos),
    K.lookup fI = some ⟨oc, od, .func (fnOf "__init__" q (eA f p1 p2) (eB f q1 q2 q3 q4) (eS f) .none .none doc pm an cdv ct), osl⟩ ∧ codeIn K cdv q = true
structure IEnd (h h' : Heap) (x C dx t1 : Addr) (f : Str) (v : Value) : Prop where
  keep : ∀ b o, b ≠ x → h.get? b = some o → h'.get? b = some o
  obj : h'.get? x = some { cls := .ref C, dict := some dx, data := .fields #[.ref t1, .none, .none, .none, .bool false, .none] }
  dbig : h.objs.size ≤ dx
  dne : dx ≠ x
  ns : h'.Ns1 dx (fun y => if y = f then some v else none)
structure EMade (h h' : Heap) (e C d : Addr) (f : Str) (v : Value) : Prop where
  keep : ∀ b o, h.get? b = some o → h'.get? b = some o
  new : h.objs.size ≤ e
  obj : ∃ t1, h'.get? e = some { cls := .ref C, dict := some d, data := .fields #[.ref t1, .none, .none, .none, .bool false, .none] }
  dbig : h.objs.size ≤ d
  dne : d ≠ e
  ns : h'.Ns1 d (fun y => if y = f then some v else none)
theorem size1 (v : Value) : [v].length ≤ sizeLine := by
  rw [sizeLine_eq]
  exact (by decide : 1 ≤ 16777216)
section
variable {prog : Program} {w : World} {A : Around} {E : Value → Shared → Prop} {R : Result → Shared → Prop} {s : Shared} {K : Frag} {mg : Str → Option Value} {cn f : Str} {C fI : Addr}
theorem err_init (T : ErrTxt K mg cn f C fI) {x t0 : Addr} {v : Value} {args : Args} (ha : args = ⟨[.ref x, v], []⟩ ∨ args = ⟨[.ref x], [(f, v)]⟩)
    (X : K.In s.heap) (hlim : s.heap.NoLimit) (hx : s.heap.get? x = some (excO C t0)) (hnx : K.lookup x = none) (hroom : A.depth < recursionLimit)
    (hq : ∀ h' tk dx, IEnd s.heap h' x C dx t0 f v → R (.ok (.ret .none)) { s with heap := h', toks := tk }) :
    codeAny (model prog w) A (.call (.ref fI) args) R s := by
  obtain ⟨oc, od, q0, doc, pm, an, cdv, ct, osl, p1, p2, q1, q2, q3, q4, ho, hcd⟩ := T.fn
  obtain ⟨nm, q, N, bs, bm, sn, sub, ab, col, dd, k0, k1, k2, k3, k5, hC, hbm⟩ := T.cls
  have hcl : clsIn K C = some { name := nm, bases := bs, mro := .ref C :: bm, ns := N, qualname := q, hasDict := true, slotNames := sn, subclasses := sub, abstract := ab, collection := col, hasDel := false } := by
    unfold clsIn
    rw [hC] <;> rfl
  have O := T.one
  have hb : BindsTo s (fnOf "__init__" q0 (eA f p1 p2) (eB f q1 q2 q3 q4) (eS f) .none .none doc pm an cdv ct) args [(("self" : Str), .ref x), (f, v)] := by
    rcases ha with rfl | rfl
    · exact BindsTo.of_eq (O.b1 ..)
    · exact BindsTo.of_eq (O.b2 ..)
  refine Att.call_fn (binds := [(("self" : Str), .ref x), (f, v)]) X hlim ho hcd hroom hb ?_ (fun s₁ IC => ?_) rfl rfl rfl
  · exact O.al _ _
  obtain ⟨h₁, tk₁, rfl⟩ := IC.toInCall.same
  have kp : ∀ b o, s.heap.get? b = some o → h₁.get? b = some o := IC.toInCall.keep
  have hn := IC.toInCall.ns
  have X1 : K.In h₁ := X.keeps kp
  have hx1 := kp _ _ hx
  show wpAny _ _ (execs _ _) _ _ _
  refine wpAny_execs_cons (plainObj_wpAny_Assign_Attribute ?_)
  refine wpAny_Name (wpAny_loadName_local rfl (O.kf ..) hn (O.vf ..) ?_) O.nd
  refine wpAny_Name (wpAny_loadName_local rfl rfl hn (O.vs ..) ?_)
  refine set_plain X1 (ox := excO C t0) (od := none) ⟨hx1, rfl, rfl, trivial⟩ T.sa ?_
  refine exc_osa X1 hx1 hcl (show refsVE (.ref C :: bm) = true from hbm) rfl T.noN (fun h3 tk3 dx k3 dn dne hx3 hn3 => ?_)
  show wpAny _ _ (execs _ _) _ _ _
  have z : s.heap.objs.size < h₁.objs.size := hn.lt
  exact wpAny_execs_nil (hq h3 tk3 dx ⟨fun b o hb e => k3 b o hb (kp b o e), hx3, Nat.le_of_lt (Nat.lt_of_lt_of_le z dn), dne, hn3⟩)
theorem err_made (T : ErrTxt K mg cn f C fI) {v : Value} {args : Args} (ha : args = ⟨[v], []⟩ ∨ args = ⟨[], [(f, v)]⟩) (X : K.In s.heap)
    (hlim : s.heap.NoLimit) (hroom : A.depth + 1 < recursionLimit)
    (hq : ∀ h' tk e d, EMade s.heap h' e C d f v → R (.ok (.ret (.ref e))) { s with heap := h', toks := tk }) :
    codeAny (model prog w) A (.call (.ref C) args) R s := by
  obtain ⟨nm, q, N, bs, bm, sn, sub, ab, col, dd, k0, k1, k2, k3, k5, hC, hbm⟩ := T.cls
  obtain ⟨hp, g, dr, tk, os⟩ := s
  obtain ⟨rest, kw, rfl, hr, ha'⟩ : ∃ rest kw, args = ⟨rest, kw⟩ ∧ rest.length ≤ sizeLine ∧ ∀ x : Value, (⟨x :: rest, kw⟩ : Args) = ⟨[x, v], []⟩ ∨ (⟨x :: rest, kw⟩ : Args) = ⟨[x], [(f, v)]⟩ := by
    rcases ha with rfl | rfl
    · exact ⟨_, _, rfl, size1 v, fun x => .inl rfl⟩
    · exact ⟨_, _, rfl, Nat.zero_le _, fun x => .inr rfl⟩
  have kp : ∀ b o, hp.get? b = some o → ((hp.push (kdv_tup rest)).push (excO C hp.objs.size)).get? b = some o :=
    fun b o e => Heap.get?_push_of_some _ (Heap.get?_push_of_some _ e)
  have hget : ((hp.push (kdv_tup rest)).push (excO C hp.objs.size)).get? (hp.objs.size + 1) = some (excO C hp.objs.size) := by heap_get
  have hnx : K.lookup (hp.objs.size + 1) = none := by
    cases e : K.lookup (hp.objs.size + 1) with
    | none => rfl
    | some o =>
      have z : hp.get? (hp.objs.size + 1) = some o := X _ _ e
      exact absurd (Nat.lt_of_succ_lt (Heap.lt_size z)) (Nat.lt_irrefl _)
  refine call_kw F.excBase_ValueError (fun X => refsVE_contains X bm hbm) (X _ _ hC) (looks_findIn X T.iC) (fun self => bind_fn X self T.tC) hr ?_
  refine err_init (s := ⟨(hp.push (kdv_tup rest)).push (excO C hp.objs.size), g, dr, tk, os⟩) T (ha' _) (X.keeps kp) (hlim.keeps kp) hget hnx ?_ fun h' tk' dx ⟨k', hx, dn, dne, hns⟩ => ?_
  · show A.depth + 1 < recursionLimit
    exact hroom
  · have old : ∀ b o, hp.get? b = some o → h'.get? b = some o :=
      fun b o e => k' b o (Nat.ne_of_lt (Nat.lt_succ_of_lt (Heap.lt_size e))) (kp b o e)
    have z : hp.objs.size + 1 + 1 ≤ dx := by
      first
        | (simpa only [Heap.size_push] using dn)
        | exact dn
    exact ⟨rfl, hq h' tk' (hp.objs.size + 1) dx ⟨old, Nat.le_succ _, ⟨_, hx⟩, Nat.le_trans (Nat.le_trans (Nat.le_succ _) (Nat.le_succ _)) z, dne, hns⟩⟩
end
end My

namespace My
open PySem PySem.Spec PyProof.Rows L2
/-- an error of the class C that is a value; its dict -/
def ExD (C : Addr) (d : Option Addr) (a : Addr) : HO :=
  .ext fun h => ∃ t1, h.get? a = some { cls := .ref C, dict := d, data := .fields #[.ref t1, .none, .none, .none, .bool false, .none] }
theorem exD_ok {P : Program} {w : World} {H : Hp} {h : Heap} {a C t1 : Addr} {d : Option Addr}
    (e : h.get? a = some { cls := .ref C, dict := d, data := .fields #[.ref t1, .none, .none, .none, .bool false, .none] }) : ObjOk P w H h a (ExD C d a) :=
  ⟨⟨t1, e⟩, ⟨_, e⟩, fun _ _ ⟨t, q⟩ k => ⟨t, k _ q⟩⟩
theorem relO_f {v : V} {v' : Value} {f : Str} (r : RelV v v') (g : Str) : RelO (List.lookup g [((f : Str), v)]) (if g = f then some v' else none) := by
  by_cases h : g = f
  · subst h
    rw [if_pos rfl]
    have q : List.lookup g [((g : Str), v)] = some v := by simp [List.lookup]
    rw [q]
    exact r
  · rw [if_neg h]
    have q1 : (g == f) = false := by simpa using h
    have q2 : List.lookup g [((f : Str), v)] = none := by simp [List.lookup, q1]
    rw [q2]
    trivial
section
variable {X : Cx} {C fI : Addr} {cn f : Str}
/-- C(e), C(f = e): a new error as a value -/
def tErr (C : Addr) (f : Str) (t : TA) : TE := fun σ H Q => t σ H fun vs H1 => ∃ v, vs = [v] ∧
  ∀ a d, H1 a = none → H1 d = none → a ≠ d → Q (.ref a) (upd (upd H1 d (.xd [(f, v)])) a (ExD C (some d) a))
theorem err_run (T : ErrTxt X.K X.mg cn f C fI) {k : Nat} (hr : Room k X.A) {pins : List (Addr × Obj)} {σ : L2.St} {H : Hp} {s : Shared} {Q : VK} {v : V} {u : Value} {us : List Value} {ks : List (Str × Value)}
    (hu : (us = [u] ∧ ks = []) ∨ (us = [] ∧ ks = [(f, u)])) (I : Inv X pins σ H s) (rv : RelV v u)
    (h : ∀ a d, H a = none → H d = none → a ≠ d → Q (.ref a) (upd (upd H d (.xd [(f, v)])) a (ExD C (some d) a))) :
    wpAny (model X.prog X.w) X.A (call (.ref C) us ks) (EP X pins σ Q) X.xe s := by
  have ha : (⟨us, ks⟩ : Args) = ⟨[u], []⟩ ∨ (⟨us, ks⟩ : Args) = ⟨[], [(f, u)]⟩ := by
    rcases hu with ⟨rfl, rfl⟩ | ⟨rfl, rfl⟩
    · exact .inl rfl
    · exact .inr rfl
  have hlim := I.nolimit
  obtain ⟨hp, g, dr, tk, os⟩ := s
  refine wpAny_call (err_made T ha I.kIn hlim (by have := hr.dp; omega) fun h' tk' e d M => ?_)
  obtain ⟨t1, ho⟩ := M.obj
  obtain ⟨G', g1, g2⟩ := restrict h' fun b => decide (b ≠ e)
  have gk : ∀ b, b ≠ e → G'.get? b = h'.get? b := fun b hb => g1 b (decide_eq_true hb)
  have ge : G'.get? e = none := g2 e (by simp)
  have old : ∀ b o, hp.get? b = some o → G'.get? b = some o := fun b o q =>
    (gk b (Nat.ne_of_lt (Nat.lt_of_lt_of_le (Heap.lt_size q) M.new))).trans (M.keep b o q)
  have ob : ObjOk X.prog X.w (upd H d (.xd [(f, v)])) G' d (.xd [(f, v)]) :=
    ⟨_, M.ns.at (fun o q => (gk d M.dne).trans q), fun y => relO_f rv y⟩
  have J : Inv X pins σ (upd H d (.xd [(f, v)])) ⟨G', g, dr, tk', os⟩ := I.laid (t' := tk') old M.dbig ob
  have he0 : H e = none := I.hok.fresh M.new
  have hd0 : H d = none := I.hok.fresh M.dbig
  have sub : ∀ b o, G'.get? b = some o → h'.get? b = some o := fun b o q => by
    by_cases hb : b = e
    · rw [hb, ge] at q; cases q
    · exact (gk b hb).symm.trans q
  have J2 := J.laidN (t' := tk') (a := e) (o := ExD C (some d) e) sub ge (by rw [upd_ne (Ne.symm M.dne)]; exact he0) (exD_ok ho)
  exact ⟨.ref e, _, J2, rfl, h e d he0 hd0 (Ne.symm M.dne)⟩
theorem pe_err {a : Expr} {ta : TA} {p pos : Pos} {k : Nat} (T : ErrTxt X.K X.mg cn f C fI) (hr : Room k X.A) (ha : PA X [a] ta) (hg : Gl X cn)
    (hdb : (cn == ("__debug__" : Str)) = false := by decide)
    (he : starEach (a :: []) X.env = (false, eval a X.env) :: starEach [] X.env := by rfl) (hpl : (backTo pos (starEach [] X.env)).any (·.1) = false := by rfl) :
    PE X (.Call (.Name cn p) [a] [] pos) (tErr C f ta) := by
  refine ⟨fun pins s σ H Q I h => ?_⟩
  refine wpAny_Call_Name_kw (ld_glob I hg T.gC ?_ hdb)
  refine PySem.W.callWith_K (h₀ := X.base) I.ok.mod.kin T.kC (thn (ha.run pos pins s σ H _ I h) fun us s1 hh => ?_) he hpl
  obtain ⟨vs, H1, I1, r1, v, ev, q1⟩ := hh
  subst ev
  refine ⟨I1.kIn, ?_⟩
  cases r1 with
  | cons rv rn =>
    cases rn
    exact err_run T hr (.inl ⟨rfl, rfl⟩) I1 rv q1
theorem pe_errK {kws : List Keyword} {tk : TA} {p pos : Pos} {k : Nat} (T : ErrTxt X.K X.mg cn f C fI) (hr : Room k X.A) (ha : PK X kws tk) (hg : Gl X cn)
    (hall : (backToKw pos (keywordEach kws X.env)).all (·.1.isSome) = true := by rfl)
    (hks : (backToKw pos (keywordEach kws X.env)).filterMap (·.1) = [f] := by rfl)
    (hdb : (cn == ("__debug__" : Str)) = false := by decide)
    (hpl : ((backTo pos (starEach [] X.env)).any (·.1) || (backToKw pos (keywordEach kws X.env)).any (·.1.isNone)) = false := by rfl) :
    PE X (.Call (.Name cn p) [] kws pos) (tErr C f tk) := by
  refine ⟨fun pins s σ H Q I h => ?_⟩
  refine wpAny_Call_Name_kw (ld_glob I hg T.gC ?_ hdb)
  refine PySem.W.callWith_KW0 (h₀ := X.base) I.ok.mod.kin T.kC hall (thn (ha.run pos pins s σ H _ I h) fun us s1 hh => ?_) hpl
  obtain ⟨vs, H1, I1, r1, v, ev, q1⟩ := hh
  subst ev
  refine ⟨I1.kIn, ?_⟩
  rw [hks]
  cases r1 with
  | cons rv rn =>
    cases rn
    exact err_run T hr (.inr ⟨rfl, rfl⟩) I1 rv q1
/-- e.f of such an error -/
def tErrF (C : Addr) (f : Str) (te : TE) : TE := fun σ H Q => te σ H fun x H1 => ∃ (a d : Addr) (v : V), x = .ref a ∧ H1 a = some (ExD C (some d) a) ∧ H1 d = some (.xd [(f, v)]) ∧ Q v H1
theorem pe_errF {e : Expr} {te : TE} {pos : Pos} (T : ErrTxt X.K X.mg cn f C fI) (he : PE X e te)
    (hb : attributeBase e f X.env (eval e X.env) = eval e X.env := by rfl) : PE X (.Attribute e f pos) (tErrF C f te) := by
  refine ⟨fun pins s σ H Q I h => ?_⟩
  refine attr_of hb (thn (he.run pins s σ H _ I h) fun u s1 hh => ?_)
  obtain ⟨x, H1, I1, rx, a, d, v, rfl, ea, ed, q⟩ := hh
  obtain rfl : u = Value.ref a := rx
  obtain ⟨⟨t1, ho⟩, _⟩ := (show ObjOk X.prog X.w H1 s1.heap a (ExD C (some d) a) from I1.hok a _ ea)
  obtain ⟨mA, hns, hr⟩ := (show ObjOk X.prog X.w H1 s1.heap d (.xd [(f, v)]) from I1.hok d _ ed)
  obtain ⟨od, hod, hl⟩ := lookIn_ns hns
  have l : List.lookup f [((f : Str), v)] = some v := by simp [List.lookup]
  obtain ⟨u, hu, ru⟩ := RelO.some_of (v := v) (o := mA f) (by rw [← l]; exact hr f)
  have J : PySem.W.InstAt s1.heap a _ C (some od) := ⟨ho, rfl, rfl, hod⟩
  exact HandSPX.exc_get I1.kIn J T.ga T.gg T.exC (PySem.W.findObj_own T.hdC T.noN rfl (by rw [hl, hu])) (handed_of ru) ⟨v, H1, I1.tok _, ru, q⟩
/-- isinstance(e, c) of such an error -/
def rIsD (K : PySem.W.Frag) : List V → Hp → VK → Prop := fun xs H Q => ∃ (a C : Addr) (d : Option Addr) (c : V) (u : Value) (b : Bool), xs = [.ref a, c] ∧ ClsV c u ∧ H a = some (ExD C d a) ∧
  (∀ dd, d = some dd → ∃ fs, H dd = some (.xd fs)) ∧ ExcC K C ∧ PySem.W.kitOne K (.ref C) u = some b ∧ Q (.bl b) H
theorem call_isD : CallR X (.builtin "isinstance") (rIsD X.K) := by
  intro pins s σ H xs us Q I r h
  obtain ⟨a, C, d, c, u, b, rfl, k, ea, ed, T, e, q⟩ := h
  obtain ⟨u1, u2, rfl, r1, r2⟩ := vals2 r
  have e2 := k.eq r2
  subst e2
  obtain rfl : u1 = Value.ref a := r1
  obtain ⟨⟨t1, ho⟩, _⟩ := (show ObjOk X.prog X.w H s.heap a (ExD C d a) from I.hok a _ ea)
  obtain ⟨od, J⟩ : ∃ od, PySem.W.InstAt s.heap a { cls := .ref C, dict := d, data := .fields #[.ref t1, .none, .none, .none, .bool false, .none] } C od := by
    cases d with
    | none => exact ⟨none, ho, rfl, rfl, trivial⟩
    | some dd =>
      obtain ⟨fs, hd⟩ := ed dd rfl
      obtain ⟨mA, hns, _⟩ := (show ObjOk X.prog X.w H s.heap dd (.xd fs) from I.hok dd _ hd)
      obtain ⟨od, hod, _⟩ := lookIn_ns hns
      exact ⟨some od, ho, rfl, rfl, hod⟩
  exact PySem.W.kia_one (kitx_e T) I.kIn J e (fun z => nomatch z) fun tk => ⟨.bl b, H, I.tok tk, rfl, q⟩
end
end My

namespace My
open PySem PySem.W PySem.Calls PyProof.Rows PySem.HandSPX
/-! ### an own error class whose __init__ does nothing -/
def cA (p1 : Pos) : Arguments :=
  { posonlyargs := [], args := [{ arg := "self", annotation := none, pos := p1 }], vararg := none,
    kwonlyargs := [], kw_defaults := [], kwarg := none, defaults := [] }
def cB (q1 : Pos) : List Stmt := [.Pass q1]
def cS : Scope :=
  { kind := .function, names := [(PySem.Str.ofString "self", .local)], isGenerator := false, isCoroutine := false, more := [] }
structure NilTxt (K : Frag) (mg : Str → Option Value) (cn : Str) (C fI : Addr) : Prop where
  gC : mg cn = some (.ref C)
  cls : ∃ nm q N bs bm sn sub ab col dd k0 k1 k2 k3 k5,
    K.lookup C = some (excClassObj nm q C N bs bm true sn sub ab col dd k0 k1 k2 k3 k5 "ValueError.__new__") ∧ refsVE bm = true
  iC : findIn K (.ref C) "__init__" = some (some (.ref fI))
  tC : typeIn K (.ref fI) = some (.type "function")
  kC : keepIn K (.ref C) = true
  exC : subIn K (.ref C) (.type "BaseException") = some true
  tyC : typeIn K (.ref C) = some (.type "type")
  fn : ∃ (oc : Value) (od : Option Addr) (q : Str) (doc pm : Value) (an : Option Addr) (cdv ct : Value) (osl : Array (Option Value)) (p1 q1 : Pos),
    K.lookup fI = some ⟨oc, od, .func (fnOf "__init__" q (cA p1) (cB q1) cS .none .none doc pm an cdv ct), osl⟩ ∧ codeIn K cdv q = true
structure NMade (h h' : Heap) (e C : Addr) : Prop where
  keep : ∀ b o, h.get? b = some o → h'.get? b = some o
  new : h.objs.size ≤ e
  obj : ∃ t1, h'.get? e = some { cls := .ref C, dict := none, data := .fields #[.ref t1, .none, .none, .none, .bool false, .none] }
section
variable {prog : Program} {w : World} {A : Around} {E : Value → Shared → Prop} {R : Result → Shared → Prop} {s : Shared} {K : Frag} {mg : Str → Option Value} {cn f : Str} {C fI : Addr}
theorem nil_made (T : NilTxt K mg cn C fI) (X : K.In s.heap) (hlim : s.heap.NoLimit) (hroom : A.depth + 1 < recursionLimit)
    (hq : ∀ h' tk e, NMade s.heap h' e C → R (.ok (.ret (.ref e))) { s with heap := h', toks := tk }) :
    codeAny (model prog w) A (.call (.ref C) ⟨[], []⟩) R s := by
  obtain ⟨nm, q, N, bs, bm, sn, sub, ab, col, dd, k0, k1, k2, k3, k5, hC, hbm⟩ := T.cls
  obtain ⟨oc, od, q0, doc, pm, an, cdv, ct, osl, p1, q1, ho, hcd⟩ := T.fn
  obtain ⟨hp, g, dr, tk, os⟩ := s
  have kp : ∀ b o, hp.get? b = some o → ((hp.push (kdv_tup [])).push (excO C hp.objs.size)).get? b = some o :=
    fun b o e => Heap.get?_push_of_some _ (Heap.get?_push_of_some _ e)
  have hget : ((hp.push (kdv_tup [])).push (excO C hp.objs.size)).get? (hp.objs.size + 1) = some (excO C hp.objs.size) := by heap_get
  refine call_kw F.excBase_ValueError (fun X => refsVE_contains X bm hbm) (X _ _ hC) (looks_findIn X T.iC) (fun self => bind_fn X self T.tC) (Nat.zero_le _) ?_
  refine Att.call_fn (binds := [(("self" : Str), .ref (hp.objs.size + 1))]) (s := ⟨(hp.push (kdv_tup [])).push (excO C hp.objs.size), g, dr, tk, os⟩) (X.keeps kp) (hlim.keeps kp) ho hcd
    (by show A.depth + 1 < recursionLimit; exact hroom) (BindsTo.of_eq (by first | rfl | with_unfolding_all rfl)) (by first | rfl | decide) (fun s₁ IC => ?_) rfl rfl rfl
  obtain ⟨h₁, tk₁, rfl⟩ := IC.toInCall.same
  have k1 := IC.toInCall.keep
  show wpAny _ _ (execs _ _) _ _ _
  refine wpAny_execs_cons (wpAny_Pass ?_)
  show wpAny _ _ (execs _ _) _ _ _
  refine wpAny_execs_nil ?_
  exact ⟨rfl, hq h₁ tk₁ (hp.objs.size + 1) ⟨fun b o e => k1 b o (kp b o e), Nat.le_succ _, ⟨_, k1 _ _ hget⟩⟩⟩
end
end My
namespace My
open PySem PySem.Spec PyProof.Rows L2
section
variable {X : Cx} {C fI : Addr} {cn f : Str}
def tErr0 (C : Addr) : TE := fun _ H Q => ∀ a, H a = none → Q (.ref a) (upd H a (ExD C none a))
theorem pe_err0 {p pos : Pos} {k : Nat} (T : NilTxt X.K X.mg cn C fI) (hr : Room k X.A) (hg : Gl X cn)
    (hdb : (cn == ("__debug__" : Str)) = false := by decide)
    (hall : (backToKw pos (keywordEach [] X.env)).all (·.1.isSome) = true := by rfl)
    (hpl : ((backTo pos (starEach [] X.env)).any (·.1) || (backToKw pos (keywordEach [] X.env)).any (·.1.isNone)) = false := by rfl) :
    PE X (.Call (.Name cn p) [] [] pos) (tErr0 C) := by
  refine ⟨fun pins s σ H Q I h => ?_⟩
  refine wpAny_Call_Name_kw (ld_glob I hg T.gC ?_ hdb)
  refine PySem.W.callWith_KW0 (h₀ := X.base) I.ok.mod.kin T.kC hall ?_ hpl
  show wpAny _ _ (evalAll []) _ _ _
  refine wpAny_pure ⟨I.kIn, ?_⟩
  show wpAny _ _ (call (.ref C) [] []) _ _ _
  have hlim := I.nolimit
  obtain ⟨hp, g, dr, tk, os⟩ := s
  refine wpAny_call (nil_made T I.kIn hlim (by have := hr.dp; omega) fun h' tk' e M => ?_)
  obtain ⟨t1, ho⟩ := M.obj
  have J := I.laid (t' := tk') (a := e) (o := ExD C none e) M.keep M.new (exD_ok ho)
  exact ⟨.ref e, _, J, rfl, h e (I.hok.fresh M.new)⟩
/-! ### raising them -/
def tMkE (C : Addr) (f : Str) (ta : TA) : L2.St → Hp → XK → Prop := fun σ H Q => ta σ H fun vs H1 => ∃ v, vs = [v] ∧ ∀ d, H1 d = none → Q (.ref C) (some d) (upd H1 d (.xd [(f, v)]))
theorem pmk_err {a : Expr} {ta : TA} {p pos : Pos} {k : Nat} (T : ErrTxt X.K X.mg cn f C fI) (hr : Room k X.A) (ha : PA X [a] ta) (hg : Gl X cn)
    (hdb : (cn == ("__debug__" : Str)) = false := by decide)
    (he : starEach (a :: []) X.env = (false, eval a X.env) :: starEach [] X.env := by rfl) (hpl : (backTo pos (starEach [] X.env)).any (·.1) = false := by rfl) :
    L2.PMk X (.Call (.Name cn p) [a] [] pos) (tMkE C f ta) := by
  intro pins s σ H Q I h
  refine wpAny_Call_Name_kw (ld_glob I hg T.gC ?_ hdb)
  refine PySem.W.callWith_K (h₀ := X.base) I.ok.mod.kin T.kC (thn (ha.run pos pins s σ H _ I h) fun us s1 hh => ?_) he hpl
  obtain ⟨vs, H1, I1, r1, v, ev, q1⟩ := hh
  subst ev
  refine ⟨I1.kIn, ?_⟩
  cases r1 with
  | cons rv rn =>
    cases rn
    rename_i u
    have hlim := I1.nolimit
    obtain ⟨hp, g, dr, tk, os⟩ := s1
    refine wpAny_call (err_made T (.inl rfl) I1.kIn hlim (by have := hr.dp; omega) fun h' tk' e d M => ?_)
    obtain ⟨t1, ho⟩ := M.obj
    obtain ⟨G', g1, g2⟩ := restrict h' fun b => decide (b ≠ e)
    have gk : ∀ b, b ≠ e → G'.get? b = h'.get? b := fun b hb => g1 b (decide_eq_true hb)
    have ge : G'.get? e = none := g2 e (by simp)
    have old : ∀ b o, hp.get? b = some o → G'.get? b = some o := fun b o q =>
      (gk b (Nat.ne_of_lt (Nat.lt_of_lt_of_le (Heap.lt_size q) M.new))).trans (M.keep b o q)
    have ob : ObjOk X.prog X.w (upd H1 d (.xd [(f, v)])) G' d (.xd [(f, v)]) :=
      ⟨_, M.ns.at (fun o q => (gk d M.dne).trans q), fun y => relO_f rv y⟩
    have J : Inv X pins σ (upd H1 d (.xd [(f, v)])) ⟨G', g, dr, tk', os⟩ := I1.laid (t' := tk') old M.dbig ob
    have sub : ∀ b o, G'.get? b = some o → h'.get? b = some o := fun b o q => by
      by_cases hb : b = e
      · rw [hb, ge] at q; cases q
      · exact (gk b hb).symm.trans q
    refine ⟨e, _, _, ⟨G', g, dr, tk', os⟩, _, .ref C, some d, rfl, J, sub, ge, ho, ⟨rfl, rfl⟩, rfl, rfl, ?_, rfl, I1.bare, raises_own T.exC T.tyC, q1 d (I1.hok.fresh M.dbig)⟩
    rw [upd_ne (Ne.symm M.dne)]
    exact I1.hok.fresh M.new
theorem pmk_nil {p pos : Pos} {k : Nat} (T : NilTxt X.K X.mg cn C fI) (hr : Room k X.A) (hg : Gl X cn)
    (hdb : (cn == ("__debug__" : Str)) = false := by decide)
    (hall : (backToKw pos (keywordEach [] X.env)).all (·.1.isSome) = true := by rfl)
    (hpl : ((backTo pos (starEach [] X.env)).any (·.1) || (backToKw pos (keywordEach [] X.env)).any (·.1.isNone)) = false := by rfl) :
    L2.PMk X (.Call (.Name cn p) [] [] pos) (fun _ H Q => Q (.ref C) none H) := by
  intro pins s σ H Q I h
  refine wpAny_Call_Name_kw (ld_glob I hg T.gC ?_ hdb)
  refine PySem.W.callWith_KW0 (h₀ := X.base) I.ok.mod.kin T.kC hall ?_ hpl
  show wpAny _ _ (evalAll []) _ _ _
  refine wpAny_pure ⟨I.kIn, ?_⟩
  show wpAny _ _ (call (.ref C) [] []) _ _ _
  have hlim := I.nolimit
  obtain ⟨hp, g, dr, tk, os⟩ := s
  refine wpAny_call (nil_made T I.kIn hlim (by have := hr.dp; omega) fun h' tk' e M => ?_)
  obtain ⟨t1, ho⟩ := M.obj
  have ne : hp.get? e = none := by
    cases q : hp.get? e with
    | none => rfl
    | some o => exact absurd (Heap.lt_size q) (Nat.not_lt.mpr M.new)
  exact ⟨e, _, _, ⟨hp, g, dr, tk', os⟩, H, .ref C, none, rfl, I.tok tk', M.keep, ne, ho, ⟨rfl, rfl⟩, rfl, rfl, I.hok.fresh M.new, rfl, I.bare, raises_own T.exC T.tyC, h⟩
end
end My

namespace My
open PySem PySem.Spec PyProof.Rows L2
open L2H (RoomH PinOk cxH inv_startH)
/-! ### a def that is called within an except suite with the exception that is handled -/
structure FnZ (P : Program) (w : World) (K : PySem.W.Frag) (mg : Str → Option Value) (base : Heap) (k : Nat) (f : Addr) (fd : FuncData) (ps : List Str)
    (cls : Value) (d : Option Addr) (sp : Addr → Sp) : Prop where
  len : ∀ a vs H Q E, sp a vs H Q E → vs.length = ps.length
  run : ∀ (A : Around) (outer : List Env) (s : Shared) (H : Hp) (args : Args) (us : List Value) (vs : List V) (Q : VK) (p : Addr × Obj), RoomH k A → Zc cls d p.2 → (∃ fv, p.2.data = .fields fv) →
    PinOk outer H s p → Env0 P w K mg base A outer s H → BindsTo s fd args (ps.zip us) → Vals vs us → sp p.1 vs H Q E0 →
    codeAny (model P w) A (.call (.ref f) args) (CR CX0 outer P w H s Q E0) s
theorem Fun.okZ {P : Program} {w : World} {K : PySem.W.Frag} {mg : Str → Option Value} {base : Heap} {x qual : Str} {st : Stmt} {f : Addr} {fd : FuncData} {N ps : List Str} {k : Nat}
    {cls : Value} {d : Option Addr} {sp : Addr → Sp} (F : Fun K x qual st f fd) (S : FnScope N ps (defScope st)) (len : ∀ a vs H Q E, sp a vs H Q E → vs.length = ps.length)
    (hbody : ∀ (cdv : Value) (A : Around) (outer : List Env) (s : Shared) (H : Hp) (vs : List V) (Q : VK) (p : Addr × Obj), Zc cls d p.2 → (∃ fv, p.2.data = .fields fv) →
      RoomH k (A.deeper (envOfC qual (defScope st) s.heap.objs.size f cdv)) → sp p.1 vs H Q E0 →
      ∃ t, PSs (cxH CX0 P w K mg base N qual (defScope st) f cdv A outer s H E0 p) (defBody st) t ∧ t { nx := fun _ H' => Q .non H', rt := Q } (L2.start N vs) H) :
    FnZ P w K mg base (k + 1) f fd ps cls d sp := by
  obtain ⟨oc, od, kV, doc, pm, an, cdv, ct, osl, rfl, lk, hcd⟩ := F.ex
  refine ⟨len, fun A outer s H args us vs Q p hr hz hf hpin e0 hb r hsp => ?_⟩
  have hl := len _ _ _ _ _ hsp
  have KX : K.In s.heap := e0.mod.kin.keeps fun b o e => (e0.bs b o e).1
  have lim : s.heap.NoLimit := e0.mod.nolimit.keeps fun b o e => (e0.bs b o e).1
  have hkind : ∀ y ∈ ps.zip us, (defScope st).names.lookup y.1 = some .local ∨
      ((defScope st).names.lookup y.1 = some .cell ∧ ((cellsFrom (s.heap.objs.size + 1) (defScope st).names []).lookup y.1).isSome = true) := by
    rintro ⟨n, v⟩ hy
    rcases S.par n (List.of_mem_zip hy).1 with q | q
    · exact .inl q
    · exact .inr ⟨q, PySem.W.cellsFrom_some _ _ _ (.inl q)⟩
  refine codeAny_call_function hr.depth (KX _ _ lk) rfl S.co S.gen rfl (PySem.W.codeRec_of KX hcd) (hb _ _ _ _ ?_)
  refine wpAny_newFunctionEnv_cells S.kind hkind fun env he s1 x => ?_
  subst he
  refine ⟨lim.keeps x.toInCall.keep, codeAny_func ?_⟩
  obtain ⟨t, ht, hq⟩ := hbody cdv A outer s H vs Q p hz hf (hr.deeper _) hsp
  have I := inv_startH (CX := CX0) (E := E0) S hpin e0 hl r x
  refine wpAny_mono (ht.run [] s1 (L2.start N vs) H _ I hq) (fun fl s' hs => ?_) fun e s' hs => hs
  cases fl with
  | ret u =>
    obtain ⟨v, σ', H', J, rv, q⟩ := hs
    exact ⟨v, H', J.os, J.bare, J.base, J.hok, rv, q⟩
  | next =>
    obtain ⟨σ', H', J, q⟩ := hs
    exact ⟨V.non, H', J.os, J.bare, J.base, J.hok, rfl, q⟩
  | brk =>
    obtain ⟨_, _, _, q⟩ := hs
    exact q.elim
  | cont =>
    obtain ⟨_, _, _, q⟩ := hs
    exact q.elim
section
variable {X : Cx} {k : Nat} {f a : Addr} {oe : Obj} {pn : List (Addr × Obj)} {fd : FuncData} {ps : List Str} {sp : Addr → Sp} {cls : Value} {d : Option Addr} {x : Str} {q pos : Pos} {e : Expr} {es : List Expr} {t : TA}
def tCallZ (sp : Sp) (t : TA) : TE := fun σ H Q => t σ H fun vs H1 => sp vs H1 Q E0
theorem pe_callZ (F : FnZ X.prog X.w X.K X.mg X.base k f fd ps cls d sp) (hz : Zc cls d oe) (hf : ∃ fv, oe.data = .fields fv) (hr : RoomH k (X.suite a ((a, oe) :: pn)).A) (hg : Gl X x) (hm : X.mg x = some (.ref f))
    (hk : PySem.W.keepIn X.K (.ref f) = true) (hb : Binds X.K fd ps []) (ha : PA (X.suite a ((a, oe) :: pn)) (e :: es) t) (hdb : (x == ("__debug__" : Str)) = false := by decide)
    (he : starEach (e :: es) X.env = (false, eval e X.env) :: starEach es X.env := by rfl) (hpl : (backTo pos (starEach es X.env)).any (·.1) = false := by rfl) :
    PE (X.suite a ((a, oe) :: pn)) (.Call (.Name x q) (e :: es) [] pos) (tCallZ (sp a) t) := by
  refine ⟨fun pins s σ H Q I h => ?_⟩
  refine wpAny_Call_Name_kw (ld_glob I hg hm ?_ hdb)
  refine PySem.W.callWith_K (h₀ := X.base) I.ok.mod.kin hk (thn (ha.run pos pins s σ H _ I h) fun us s1 ⟨vs, H1, I1, r, hq⟩ => ⟨I1.kIn, ?_⟩) he hpl
  have hl : us.length = ps.length := by rw [← r.length]; exact F.len _ _ _ _ _ hq
  have b := hb s1 us I1.kIn (by rw [List.append_nil]; exact hl)
  rw [List.append_nil] at b
  have P1 := I1.pin (a, oe) (List.mem_append_left _ List.mem_cons_self)
  have hpin : PinOk X.stack H1 s1 (a, oe) :=
    ⟨P1.1, P1.2.1, fun hm => (List.mem_cons.mp (I1.stkSub a hm)).elim P1.2.2.1 P1.2.2.2.1, P1.2.2.2.2⟩
  refine wpAny_call (codeAny_mono (F.run _ X.stack s1 H1 ⟨us, []⟩ us vs Q (a, oe) hr hz hf hpin I1.env0 b r hq) fun r s' hq => ?_)
  cases r with
  | error e =>
    exact (pass0 (X := X.suite a ((a, oe) :: pn)) pins σ _ _ e s' I1 hq)
  | ok fl =>
    cases fl with
    | ret u => exact I1.after hq
    | next => exact hq.elim
    | brk => exact hq.elim
    | cont => exact hq.elim
/-- isinstance of a pinned exception -/
def rIsP (K : PySem.W.Frag) (D a : Addr) (d : Option Addr) : List V → Hp → VK → Prop := fun xs H Q => ∃ (c : V) (u : Value) (b : Bool), xs = [.ref a, c] ∧ ClsV c u ∧
  (∀ dd, d = some dd → ∃ fs, H dd = some (.xd fs)) ∧ ExcC K D ∧ PySem.W.kitOne K (.ref D) u = some b ∧ Q (.bl b) H
theorem call_isP {D : Addr} (hp : (a, oe) ∈ X.pn) (hz : Zc (.ref D) d oe) (hf : ∃ fv, oe.data = .fields fv) : CallR X (.builtin "isinstance") (rIsP X.K D a d) := by
  intro pins s σ H xs us Q I r h
  obtain ⟨c, u, b, rfl, k, ed, T, e, q⟩ := h
  obtain ⟨u1, u2, rfl, r1, r2⟩ := vals2 r
  have e2 := k.eq r2
  subst e2
  obtain rfl : u1 = Value.ref a := r1
  have ho := (I.pin (a, oe) (List.mem_append_left _ hp)).1
  obtain ⟨od, J⟩ : ∃ od, PySem.W.InstAt s.heap a oe D od := by
    obtain ⟨fv, hv⟩ := hf
    obtain ⟨h1, h2⟩ := hz
    have hn : PySem.W.notCls oe = true := by unfold PySem.W.notCls; rw [hv] <;> rfl
    cases d with
    | none => exact ⟨none, ho, h1, hn, by rw [h2]; trivial⟩
    | some dd =>
      obtain ⟨fs, hd⟩ := ed dd rfl
      obtain ⟨mA, hns, _⟩ := (show ObjOk X.prog X.w H s.heap dd (.xd fs) from I.hok dd _ hd)
      obtain ⟨od, hod, _⟩ := lookIn_ns hns
      exact ⟨some od, ho, h1, hn, by rw [h2]; exact hod⟩
  exact PySem.W.kia_one (kitx_e T) I.kIn J e (fun z => nomatch z) fun tk => ⟨.bl b, H, I.tok tk, rfl, q⟩
end
end My

namespace My
open PySem PySem.Spec PyProof.Rows L2
/-! ### try with several clauses 'except X as n', of which the first always is the one -/
def wFst (K : PySem.W.Frag) (c : Value) (i : Nat) (ts : Addr → Value → Option Addr → TS) (D : Ends) : WX := fun cl dd st hp =>
  PySem.W.exmOne K cl c = some true ∧ ∀ a, hp a = none → ts a cl dd { nx := fun x y => D.nx (x.set i none) y, rt := D.rt, bk := fun x y => D.bk (x.set i none) y, ct := fun x y => D.ct (x.set i none) y } (st.set i (some (.ref a))) hp
section
variable {X : Cx} {x n : Str} {c : Value} {i : Nat} {body su : List Stmt} {b1 : Stmt} {np ps ps' : Pos} {more : List ExceptHandler} {tb : WX → TS} {ts : Addr → Value → Option Addr → TS}
theorem ps_try_fst (e1 : X.stack = X.env :: X.outer) (e2 : X.env.frame = some X.env.locals) (nd : X.N.Nodup) (ei : X.N[i]? = some n) (el : X.env.kindOf n = some .local) (nc : Names X x c)
    (run : ∀ (W : WX) (pl : List (Addr × Obj)) (xe : Value → Shared → Prop), Takes (X.tr pl xe) W → PassesOwn (model X.prog X.w) X.A X.env xe → PSs (X.tr pl xe) body (tb W))
    (suite : ∀ (a : Addr) (oe : Obj) (cl : Value) (dd : Option Addr) (pl : List (Addr × Obj)), Zc cl dd oe → (∃ vs, oe.data = .fields vs) → PSs (X.suite a ((a, oe) :: pl)) (b1 :: su) (ts a cl dd)) :
    PS X (.Try body (.ExceptHandler (some (.Name x np)) (some n) (b1 :: su) ps' :: more) [] [] ps) (fun D st hp => tb (wFst X.K c i ts D) D st hp) := by
  refine ⟨fun pl s st hp D inv yes => ?_⟩
  have good := inv.ok
  have fr : X.A.frames = some (X.env :: X.outer) := by rw [good.frames, e1]
  have lc : Loc X.env.scope n := .inl el
  refine wpAny_Try_except (wpAny_mono ((run (wFst X.K c i ts D) (X.pn ++ pl) (fun ex z1 => wpAny (model X.prog X.w) X.A (noteFrame ex X.env) (fun _ z2 => wpAny (model X.prog X.w) X.A (setFlight ex none) (fun _ z3 =>
    wpAny (model X.prog X.w) X.A (handleBy ex X.env (.ExceptHandler (some (.Name x np)) (some n) (b1 :: su) ps' :: more)) (SP X pl D) X.xe z3) X.xe z2) X.xe z1) (fun u z' got => ?_) PassesOwn.looking).run [] s st hp D (inv.toTry _) yes) (fun fl z1 end1 => ?_) (fun ex z1 w => w))
  · obtain ⟨a, gr, si, pl', st1, hp1, cl, dd, rfl, j0, nb, up, sky, na, os, ag, hit, wish⟩ := got
    have j1 : Inv X pl st1 hp1 si := j0.ofTry good
    have sk : Sky gr (X.env :: X.outer) a (Zc cl dd) X.env.locals z'.heap := by rw [← e1]; exact sky
    show wpAny _ X.A (noteFrame (.ref a) X.env) _ _ _
    refine Sky.land Zc.steady fr e2 sk fun k3 f3 u3 => ?_
    have j3 : Inv X pl st1 hp1 { z' with heap := k3 } := j1.landed nb f3.1 (up.trans u3) os ag
    obtain ⟨o3, w3, r3, t3, q3⟩ := f3.there
    have off : a ∉ frs (X.env :: X.outer) := fun m => by
      obtain ⟨_, o4, r4, none4⟩ := f3.2.2.1.mem m
      rw [r3] at r4; cases r4
      exact none4 _ q3
    have l3 : a ≠ X.env.locals := fun z => off (List.mem_filterMap.mpr ⟨X.env, List.mem_cons_self, by rw [e2, z]⟩)
    have f4 : a ∉ X.fs := fun m => by
      obtain ⟨v, hv, hq⟩ := List.mem_filterMap.mp m
      exact off (List.mem_filterMap.mpr ⟨v, List.mem_cons_of_mem _ hv, hq⟩)
    have s3 := j3.suite r3 q3 na l3 f4
    refine wpAny_handleBy_cons (codeAny_handlers_test ?_) (by intro q; cases q)
    have kind : PySem.W.Looks (model X.prog X.w) k3 (typeOf (.ref a)) cl := fun _ _ _ _ k q => wpAny_typeOf_ref (k _ _ r3) (by rw [t3.1]; exact q)
    have fits := PySem.W.exm_one (M := model X.prog X.w) (j3.kIn) kind hit
    have name : ∀ {Q E : Value → Shared → Prop}, Q c { z' with heap := k3 } → wpAny (model X.prog X.w) (X.A.mark (some (.ref a))) (eval (.Name x np) X.env) Q E { z' with heap := k3 } := fun q => by
      obtain ⟨g1, g2, g3 | ⟨g3, g4, g5⟩⟩ := nc
      · exact ld_glob (X := X.suite a ((a, o3) :: (X.pn ++ pl))) s3 g1 g3 q g2
      · exact ld_blt (X := X.suite a ((a, o3) :: (X.pn ++ pl))) s3 g1 g3 g4 q g5 g2
    refine name (fits.here (codeAny_handlers_suite_as (HandSPX.lands_againZ f3 fun k4 f5 u4 => ?_)))
    have j4 : Inv X pl st1 hp1 { z' with heap := k4 } := j1.landed nb f5.1 ((up.trans u3).trans u4) os ag
    obtain ⟨o5, w5, r5, t5, q5⟩ := f5.there
    have s4 := j4.suite r5 q5 na l3 f4
    refine store_ok (X := X.suite a ((a, o5) :: (X.pn ++ pl))) (v := .ref a) s4 nd ei lc rfl (fun z5 s5 => ?_) (.inr el)
    refine wpAny_mono ((suite a o5 cl dd (X.pn ++ pl) t5 ⟨_, q5⟩).run [] z5 _ hp1 _ s5 (wish a na)) (fun fl z6 end6 => ?_) (fun _ _ z => False.elim z)
    have out : ∀ {st6 : L2.St} {hp6 : Hp} {Q : Shared → Prop}, Inv (X.suite a ((a, o5) :: (X.pn ++ pl))) [] st6 hp6 z6 → (∀ z7, Inv X pl (st6.set i none) hp6 z7 → Q z7) →
        wpAny (model X.prog X.w) X.A (do bindName X.env n .none; unbindBehindTheSuite X.env n ps') (fun _ z7 => Q z7) X.xe z6 := fun s6 q => gone_ok (s6.unsuite good) nd ei el q
    cases fl with
    | next => obtain ⟨_, _, s6, q6⟩ := end6; exact out s6 fun _ j7 => ⟨_, _, j7, q6⟩
    | brk => obtain ⟨_, _, s6, q6⟩ := end6; exact out s6 fun _ j7 => ⟨_, _, j7, q6⟩
    | cont => obtain ⟨_, _, s6, q6⟩ := end6; exact out s6 fun _ j7 => ⟨_, _, j7, q6⟩
    | ret u => obtain ⟨_, _, _, s6, r6, q6⟩ := end6; exact out s6 fun _ j7 => ⟨_, _, _, j7, r6, q6⟩
  · cases fl with
    | next => obtain ⟨_, _, j, q⟩ := end1; exact wpAny_execs_nil ⟨_, _, j.ofTry good, q⟩
    | brk => obtain ⟨_, _, j, q⟩ := end1; exact ⟨_, _, j.ofTry good, q⟩
    | cont => obtain ⟨_, _, j, q⟩ := end1; exact ⟨_, _, j.ofTry good, q⟩
    | ret u => obtain ⟨_, _, _, j, r, q⟩ := end1; exact ⟨_, _, _, j.ofTry good, r, q⟩
end
/-! ### a new instance whose __init__ may raise, in a try -/
def tMkS (C : Addr) (sp : Sp) (dvs : List V) (E : L2.St → XK) (t : TA) : TE := fun st hp Q => t st hp fun vs h1 => ∀ x dx, h1 x = none → h1 dx = none → dx ≠ x →
  sp (.ref x :: (vs ++ dvs)) (upd (upd h1 dx (.own x)) x (.ins C dx [])) (fun v h2 => v = .non ∧ Q (.ref x) h2) (E st)
section
variable {X : Cx} {CX : CXT} {k : Nat} {f C : Addr} {fd : FuncData} {ps : List Str} {sp : Sp} {dvs : List V} {ds : List Value} {E : L2.St → XK} {x : Str} {p pos : Pos} {e : Expr} {es : List Expr} {t : TA}
theorem pe_mkS (M : Mk X.K C f) (F : FnOk X.prog X.w X.K X.mg X.base CX k f fd ps sp) (room : Room (k + 1) X.A) (gl : Gl X x) (gm : X.mg x = some (.ref C)) (bi : Binds X.K fd ps ds) (dv : Vals dvs ds) (let_ : ∀ st, PassesAt CX X st (E st))
    (arg : PA X (e :: es) t) (nb : (x == ("__debug__" : Str)) = false := by decide) (st1 : starEach (e :: es) X.env = (false, eval e X.env) :: starEach es X.env := by rfl) (st2 : (backTo pos (starEach es X.env)).any (·.1) = false := by rfl) :
    PE X (.Call (.Name x p) (e :: es) [] pos) (tMkS C sp dvs E t) := by
  refine ⟨fun pl z st hp Q inv yes => wpAny_Call_Name_kw (ld_glob inv gl gm ?_ nb)⟩
  refine PySem.W.callWith_K (h₀ := X.base) inv.ok.mod.kin M.kp (thn (arg.run pos pl z st hp _ inv yes) fun us z1 ⟨vs, h1, j1, r, q⟩ => ⟨j1.kIn, ?_⟩) st1 st2
  have go := q (z1.heap.objs.size + 1) z1.heap.objs.size (j1.hok.fresh (Nat.le_succ _)) (j1.hok.fresh (Nat.le_refl _)) (Nat.ne_of_lt (Nat.lt_succ_self _))
  have j2 := Inv.made (C := C) j1
  have rr : Vals (V.ref (z1.heap.objs.size + 1) :: (vs ++ dvs)) (Value.ref (z1.heap.objs.size + 1) :: (us ++ ds)) := .cons rfl (r.append dv)
  have ll : (Value.ref (z1.heap.objs.size + 1) :: us ++ ds).length = ps.length := by
    have w := rr.length
    rw [F.len _ _ _ _ go] at w
    exact w.symm
  refine wpAny_call (make_map (f := f) j1.kIn M.makes M.init (beq_iff_eq.mp M.fn) (codeAny_mono (F.run _ X.stack _ _ ⟨Value.ref (z1.heap.objs.size + 1) :: us, []⟩ (Value.ref (z1.heap.objs.size + 1) :: (us ++ ds)) _ _ (E st) (room.make C us [])
    (j2.env0.make C us []) (bi _ (Value.ref (z1.heap.objs.size + 1) :: us) j2.kIn ll) rr go) fun res z2 got => ?_))
  cases res with
  | error ex => exact let_ st pl _ _ ex z2 j2 got
  | ok fl =>
    cases fl with
    | ret u =>
      obtain ⟨v, h3, j3, rv, ev, q3⟩ := j2.after got
      subst ev
      exact ⟨rv, ⟨V.ref (z1.heap.objs.size + 1), h3, j3, rfl, q3⟩⟩
    | next => exact False.elim got
    | brk => exact False.elim got
    | cont => exact False.elim got
end
/-! ### e.f in the suite, e the exception that it handles -/
def tErrS (C : Addr) (f : Str) (a : Addr) (cl : Value) (dd : Option Addr) (te : TE) : TE := fun st hp Q => te st hp fun x h1 => x = .ref a ∧ cl = .ref C ∧ ∃ (d : Addr) (v : V), dd = some d ∧ h1 d = some (.xd [(f, v)]) ∧ Q v h1
theorem pe_errS {X : Cx} {C fI : Addr} {cn f : Str} {a : Addr} {oe : Obj} {cl : Value} {dd : Option Addr} {pl : List (Addr × Obj)} {e : Expr} {te : TE} {pos : Pos} (T : ErrTxt X.K X.mg cn f C fI) (zc : Zc cl dd oe) (fl : ∃ vs, oe.data = .fields vs)
    (hz : PE (X.suite a ((a, oe) :: pl)) e te) (ab : attributeBase e f X.env (eval e X.env) = eval e X.env := by rfl) : PE (X.suite a ((a, oe) :: pl)) (.Attribute e f pos) (tErrS C f a cl dd te) := by
  refine ⟨fun pl2 z st hp Q inv yes => attr_of ab (thn (hz.run pl2 z st hp _ inv yes) fun u z1 got => ?_)⟩
  obtain ⟨x, h1, j1, rx, rfl, rfl, d, v, rfl, ed, q⟩ := got
  obtain rfl : u = Value.ref a := rx
  obtain ⟨at_, _⟩ := j1.pin (a, oe) (List.mem_append_left _ List.mem_cons_self)
  obtain ⟨mA, hns, hr⟩ := (show ObjOk X.prog X.w h1 z1.heap d (.xd [(f, v)]) from j1.hok d _ ed)
  obtain ⟨od, hod, hl⟩ := lookIn_ns hns
  have l : List.lookup f [((f : Str), v)] = some v := by simp [List.lookup]
  obtain ⟨u, hu, ru⟩ := RelO.some_of (v := v) (o := mA f) (by rw [← l]; exact hr f)
  have J : PySem.W.InstAt z1.heap a oe C (some od) := ⟨at_, zc.1, (by obtain ⟨w, hw⟩ := fl; show PySem.W.notCls oe = true; unfold PySem.W.notCls; rw [hw]), (by rw [zc.2]; exact hod)⟩
  exact HandSPX.exc_get j1.kIn J T.ga T.gg T.exC (PySem.W.findObj_own T.hdC T.noN rfl (by rw [hl, hu])) (handed_of ru) ⟨v, h1, j1.tok _, ru, q⟩
end My

namespace SL
open PySem PySem.Spec PyProof.Rows L2 SX
/-! ### texts by their code points: rules -/
variable {X : Cx}
theorem pe_strL {x : Str} {j pos} (l : List Nat) (h : x = S l) : PE X (.Constant (.str x) j pos) (tC (.str (S l))) := by
  subst h
  exact pe_str
theorem V_str_S {a b : List Nat} : decide (V.str (S a) = V.str (S b)) = decide (a = b) := by
  rw [decide_eq_decide]
  exact ⟨fun h => S_inj (V.str.inj h), fun h => by rw [h]⟩
def rEqL : R2 := fun x y H Q => ∃ a b, x = .str (S a) ∧ y = .str (S b) ∧ Q (.bl (decide (a = b))) H
def rNeL : R2 := fun x y H Q => ∃ a b, x = .str (S a) ∧ y = .str (S b) ∧ Q (.bl (!decide (a = b))) H
theorem op_eqL : OpR X (compareOp .Eq) rEqL := by
  intro pins s σ H x y v u Q I rx ry h
  obtain ⟨a, b, rfl, rfl, q⟩ := h
  exact op_eq pins s σ H _ _ v u Q I rx ry ⟨rfl, by rw [V_str_S]; exact q⟩
theorem op_neL : OpR X (compareOp .NotEq) rNeL := by
  intro pins s σ H x y v u Q I rx ry h
  obtain ⟨a, b, rfl, rfl, q⟩ := h
  exact op_ne pins s σ H _ _ v u Q I rx ry ⟨rfl, by rw [V_str_S]; exact q⟩
theorem sz {n : Nat} (h : n ≤ 100000) : n ≤ sizeLine := Nat.le_trans h (by decide)
def rAddL : R2 := fun x y H Q => ∃ a b, x = .str (S a) ∧ y = .str (S b) ∧ a.length + b.length ≤ 100000 ∧ Q (.str (S (a ++ b))) H
theorem op_addL : OpR X (binaryOp .Add) rAddL := by
  intro pins s σ H x y v u Q I rx ry h
  obtain ⟨a, b, rfl, rfl, hz, q⟩ := h
  exact op_add_str pins s σ H _ _ v u Q I rx ry ⟨S a, S b, rfl, rfl, by rw [S_len, S_len]; exact sz hz, by rw [S_cat]; exact q⟩
theorem iop_addL : OpR X (inplaceOp .Add) rAddL := by
  intro pins s σ H x y v u Q I rx ry h
  obtain ⟨a, b, rfl, rfl, hz, q⟩ := h
  exact iop_add_str pins s σ H _ _ v u Q I rx ry ⟨S a, S b, rfl, rfl, by rw [S_len, S_len]; exact sz hz, by rw [S_cat]; exact q⟩
theorem occ_nil (a : List Nat) : (!(Builtin.Str.occurrences (S a) (S []) 0 (S a).length 1).isEmpty) = true :=
  (StrLaws.found_iff (S a) (S [])).mpr ⟨0, Nat.zero_le _, by rw [StrLaws.subAt_eq]; rfl⟩
/-- is b, a sign or nothing, in a -/
def inL (b a : List Nat) : Bool := match b with
  | [] => true
  | c :: _ => decide (c ∈ a)
theorem occ_in {b a : List Nat} (h : b.length ≤ 1) : (!(Builtin.Str.occurrences (S a) (S b) 0 (S a).length 1).isEmpty) = inL b a := by
  match b, h with
  | [], _ => exact occ_nil a
  | [c], _ => exact in_one a c
  | _ :: _ :: _, h => simp at h
def rInL : R2 := fun x y H Q => ∃ b a, x = .str (S b) ∧ y = .str (S a) ∧ b.length ≤ 1 ∧ Q (.bl (inL b a)) H
def rNotInL : R2 := fun x y H Q => ∃ b a, x = .str (S b) ∧ y = .str (S a) ∧ b.length ≤ 1 ∧ Q (.bl (!inL b a)) H
theorem op_inL : OpR X (compareOp .In) rInL := by
  intro pins s σ H x y v u Q I rx ry h
  obtain ⟨b, a, rfl, rfl, hz, q⟩ := h
  exact op_in_str pins s σ H _ _ v u Q I rx ry ⟨S b, S a, rfl, rfl, by rw [occ_in hz]; exact q⟩
theorem op_notInL : OpR X (compareOp .NotIn) rNotInL := by
  intro pins s σ H x y v u Q I rx ry h
  obtain ⟨b, a, rfl, rfl, hz, q⟩ := h
  exact op_notin_str pins s σ H _ _ v u Q I rx ry ⟨S b, S a, rfl, rfl, by rw [occ_in hz]; exact q⟩
/-- an item, from the left -/
def rIxSL : R2 := fun x y H Q => ∃ a i, x = .str (S a) ∧ y = .int i ∧ a.length ≤ 100000 ∧ 0 ≤ i ∧ i < a.length ∧ ∀ c, a[i.toNat]? = some c → Q (.str (S [c])) H
theorem ix_strL : IxR X rIxSL := by
  have hh : ∀ {x y : V} {H : Hp} {Q : VK}, rIxSL x y H Q → rIxS x y H Q := by
    intro x y H Q h
    obtain ⟨a, i, rfl, rfl, hz, h0, h1, q⟩ := h
    obtain ⟨n, rfl⟩ := Int.eq_ofNat_of_zero_le h0
    have hn : n < a.length := by omega
    have e : a[n]? = some a[n] := List.getElem?_eq_getElem hn
    exact ⟨S a, (n : Int), a[n], rfl, rfl, by rw [S_len]; exact sz hz, atI_nat e, q _ e⟩
  intro value slice pins s σ H x y v u Q I rx ry h hsub
  exact ix_str value slice pins s σ H x y v u Q I rx ry (hh h) hsub
/-- slices with bounds from the left -/
def cutL (a : List Nat) (lo hi : Option Int) : List Nat := match hi with
  | none => a.drop (lo.getD 0).toNat
  | some h => (a.take h.toNat).drop (lo.getD 0).toNat
theorem sIx_pos {n d : Nat} {i : Int} (h : 0 ≤ i) : HT.sIx n d (some i) = min i.toNat n := by
  unfold HT.sIx
  first
    | (rw [if_neg (by omega)]; omega)
    | (simp only; split <;> omega)
theorem cutS_L {a : List Nat} {lo hi : Option Int} (h1 : 0 ≤ lo.getD 0) (h2 : 0 ≤ hi.getD 0) : cutS (S a) lo hi = S (cutL a lo hi) := by
  have hl : (S a).length = a.length := S_len a
  have e0 : HT.sIx (S a).length 0 lo = min (lo.getD 0).toNat a.length := by
    rw [hl]
    cases lo with
    | none => show (0 : Nat) = _; simp
    | some i => exact sIx_pos h1
  unfold cutS
  rw [e0]
  refine congrArg S ?_
  show (a.drop _).take _ = _
  cases hi with
  | none =>
    have e1 : HT.sIx (S a).length (S a).length none = a.length := by rw [hl]; rfl
    rw [e1]
    show _ = a.drop (lo.getD 0).toNat
    rw [List.take_of_length_le (by rw [List.length_drop]; omega)]
    by_cases z : (lo.getD 0).toNat ≤ a.length
    · rw [Nat.min_eq_left z]
    · rw [Nat.min_eq_right (by omega), List.drop_eq_nil_of_le (Nat.le_refl _), List.drop_eq_nil_of_le (by omega)]
  | some h =>
    have e1 : HT.sIx (S a).length (S a).length (some h) = min h.toNat a.length := by rw [hl]; exact sIx_pos h2
    rw [e1]
    show _ = (a.take h.toNat).drop (lo.getD 0).toNat
    generalize (lo.getD 0).toNat = p
    generalize h.toNat = q
    rw [← List.drop_take]
    have ht : a.take (min q a.length) = a.take q := by
      by_cases z : q ≤ a.length
      · rw [Nat.min_eq_left z]
      · rw [Nat.min_eq_right (by omega), List.take_of_length_le (Nat.le_refl _), List.take_of_length_le (by omega)]
    rw [ht]
    by_cases z : p ≤ a.length
    · rw [Nat.min_eq_left z]
    · rw [Nat.min_eq_right (by omega), List.drop_eq_nil_of_le (by rw [List.length_take]; omega), List.drop_eq_nil_of_le (by rw [List.length_take]; omega)]
def rSlL : V → Option Int → Option Int → Hp → VK → Prop := fun x lo hi H Q => ∃ a, x = .str (S a) ∧ (a.length ≤ 100000 ∧ 0 ≤ lo.getD 0 ∧ 0 ≤ hi.getD 0) ∧ Q (.str (S (cutL a lo hi))) H
theorem sl_L : SlR X rSlL := by
  intro pins s σ H x v vl vu lo hi sl Q I rx hs pl pu h
  obtain ⟨a, rfl, ⟨hz, h1, h2⟩, q⟩ := h
  exact sl_str pins s σ H _ v vl vu lo hi sl Q I rx hs pl pu ⟨S a, rfl, by rw [S_len]; exact sz hz, by rw [cutS_L h1 h2]; exact q⟩
theorem call_lenL : CallR X (.builtin "len") (fun xs H Q => ∃ a, xs = [.str (S a)] ∧ a.length ≤ 100000 ∧ Q (.int a.length) H) := by
  intro pins s σ H xs us Q I r h
  obtain ⟨a, rfl, hz, q⟩ := h
  exact call_len_str pins s σ H _ us Q I r ⟨S a, rfl, by rw [S_len]; exact sz hz, by rw [S_len]; exact q⟩
end SL

namespace My
open PySem PySem.Spec PyProof.Rows L2
/-! ### a token is out behind a written text; a walk whose body wants one -/
section
variable {X : Cx}
theorem tup_tok {x : Str} {j : Nat} {c0 pos : Pos} {k : Nat} {es : List Expr} {t : TA} (rest : PA X es t) {pl : List (Addr × Obj)} {z : Shared} {st : L2.St} {hp : Hp} {Q : VK} (inv : Inv X pl st hp z) (yes : tTup (tCons (tC (.str x)) t) st hp Q)
    (sp : starEach (.Constant (.str x) j c0 :: es) X.env = (false, eval (.Constant (.str x) j c0) X.env) :: starEach es X.env := by rfl) :
    wpAny (model X.prog X.w) X.A (eval (.Tuple (.Constant (.str x) j c0 :: es) k pos) X.env) (fun v z1 => 1 ≤ z1.toks ∧ EP X pl st Q v z1) X.xe z := by
  refine Tuple_ ?_
  rw [sp]
  show wpAny _ _ (spliced ((false, eval (.Constant (.str x) j c0) X.env) :: backTo pos (starEach es X.env))) _ _ z
  refine Calls.spliced_cons (Calls.Constant_str ?_)
  have go := wpAny_toks_of (n := 1) (show 1 ≤ z.toks + 1 by omega) (rest.run pos pl { z with toks := z.toks + 1 } st hp _ (inv.tok _) yes)
  refine wpAny_mono go (fun us z1 got => ?_) fun _ _ w => w.2
  obtain ⟨k1, xs, h1, j1, r1, lz, q⟩ := got
  have rr : Vals (V.str x :: xs) (Value.str x z.toks :: us) := .cons ⟨_, rfl⟩ r1
  refine wpAny_mono (wpAny_toks_of (n := 1) k1 (Q := EP X pl st Q) (E := X.xe) (wpAny_newObj_type ?_ (by show (Value.str x z.toks :: us).toArray.size ≤ sizeLine; rw [List.size_toArray, ← rr.length]; exact lz))) (fun _ _ w => w) fun _ _ w => w.2
  have free : h1 z1.heap.objs.size = none := j1.hok.fresh (Nat.le_refl _)
  refine ⟨.ref z1.heap.objs.size, upd h1 z1.heap.objs.size (.tup (V.str x :: xs)), j1.laid (t' := z1.toks) (fun b u e => Heap.get?_push_of_some _ e) (Nat.le_refl _) ?_, rfl, q _ free⟩
  exact ⟨lz, _, rr, ⟨_, Heap.get?_push_size _ rfl, rfl, _, rfl⟩⟩
/-- tg = ('..', ..): then what wants a token -/
theorem pss_tupT {x : Str} {j : Nat} {c0 p1 pos : Pos} {k : Nat} {tg : Expr} {es : List Expr} {more : List Stmt} {t : TA} {g : TG} {u : TS} (rest : PA X es t) (hg : PG X tg g) (h2 : PSsT X more u)
    (hs : swapsWithSole [tg] (.Tuple (.Constant (.str x) j c0 :: es) k p1) pos.line X.env = pure false := by rfl) (hw : swappedStores [tg] (.Tuple (.Constant (.str x) j c0 :: es) k p1) X.env = pure none := by rfl)
    (h1 : (assignEach [tg] X.env).map (·.2) = [assign tg X.env] := by rfl) (sp : starEach (.Constant (.str x) j c0 :: es) X.env = (false, eval (.Constant (.str x) j c0) X.env) :: starEach es X.env := by rfl) :
    PSs X (.Assign [tg] (.Tuple (.Constant (.str x) j c0 :: es) k p1) pos :: more) (tSeq (tAsg (tTup (tCons (tC (.str x)) t)) g) u) := by
  refine ⟨fun pl z st hp D inv yes => wpAny_execs_cons (wpAny_Assign_stores (wpAny_mono (tup_tok rest inv (show tTup (tCons (tC (V.str x)) t) st hp (fun y h1 => g y st h1 (u D)) from yes) sp) (fun v z1 got => ?_) fun _ _ w => w) hs hw)⟩
  obtain ⟨k1, xv, h3, j1, r1, q⟩ := got
  rw [h1]
  refine wpAny_mono (wpAny_toks_of (n := 1) k1 (hg.run pl z1 st h3 xv v _ j1 r1 q)) (fun _ z2 w => ?_) fun _ _ w => w.2
  obtain ⟨k2, st2, h4, j2, q2⟩ := w
  exact h2 pl z2 st2 h4 D k2 j2 q2
theorem pst_forT {tg iter : Expr} {body : List Stmt} {wi : TI} {g : TG} {tb : TS} {pos : Pos} (po : PassesOwn (model X.prog X.w) X.A X.env X.xe) (ca : X.calm = true) (wk : PI X tg iter wi) (hg : PG X tg g) (hb : PSsT X body tb)
    (nf : ∀ x, foldedSetIterable iter X.env x = pure x := by intro _; rfl) : PST X (.For tg iter body [] pos) (tFor wi g tb) := by
  intro pl z st hp D k0 inv yes
  refine wpAny_For (wpAny_mono (wpAny_toks_of (n := 1) k0 (wk.run pl z st hp _ inv yes)) (fun v z1 got => wpAny_mono (wpAny_toks_of (n := 1) got.1 got.2) (fun itv z2 got2 => ?_) fun _ _ w => w.2) fun _ _ w => w.2) nf
  obtain ⟨k2, it, fp, tn, J, h2, rfl, j2, tu, s2, f2, W, ⟨m0, w0⟩, turn⟩ := got2
  have own : ∀ {h' : Hp}, (∀ b ∈ fp, h' b = none) → ∀ b ∈ fp, FpOk X pl h' b := fun hn b hb => ⟨hn b hb, (f2 b hb).2⟩
  refine codeAny_forLoop_any (fun n z' => ∃ i st' h', 1 ≤ z'.toks ∧ Inv X pl st' h' z' ∧ tn i z'.heap ∧ (∀ b ∈ fp, h' b = none) ∧ W i n st' h') ?_ m0 ⟨0, st, h2, k2, j2, s2, fun b hb => (f2 b hb).1, w0⟩
  rintro n z3 ⟨i, st3, h3, k3, j3, s3, f3, w3⟩
  rcases turn i n st3 h3 w3 with ⟨stop, qn⟩ | ⟨go, N, hN, step⟩
  · refine wpAny_passesOwn po (thn (tu.done X rfl rfl rfl ca i pl z3 st3 h3 X.xe j3 (own f3) s3 stop) fun r z4 ⟨hr, j4⟩ => ?_)
    subst hr
    exact wpAny_execs_nil ⟨st3, h3, j4, qn⟩
  · refine wpAny_passesOwn po (wpAny_mono (wpAny_toks_of (n := 1) k3 (tu.item X rfl rfl rfl ca i pl z3 st3 h3 X.xe j3 (own f3) s3 go)) (fun r z4 ⟨k4, u, hr, h4⟩ => ?_) fun _ _ w => w.2)
    subst hr
    refine wpAny_passesOwn po (wpAny_mono (wpAny_toks_of (n := 1) k4 h4) (fun _ z5 ⟨k5, x, h5, j5, r5, y5, s5, f5⟩ => ?_) fun _ _ w => w.2)
    have j5' := j5.pinned (own f5) (tu.obj _ _ s5)
    refine wpAny_passesOwn po (wpAny_mono (wpAny_toks_of (n := 1) k5 (hg.run _ z5 st3 h5 x u _ j5' r5 (step x h5 y5))) (fun _ z6 ⟨k6, st6, h6, j6, q6⟩ => ?_) fun _ _ w => w.2)
    refine wpAny_passesOwn po (wpAny_mono (wpAny_toks_of (n := 1) k6 (hb _ z6 st6 h6 _ k6 j6 q6)) (fun f z7 ⟨k7, q7⟩ => ?_) fun _ _ w => w.2)
    have next : ∀ {st7 : L2.St} {h7 : Hp}, Inv X (pl ++ pinsAt fp z5.heap) st7 h7 z7 → N st7 h7 → ∃ m, m < n ∧ ∃ i st' h', 1 ≤ z7.toks ∧ Inv X pl st' h' z7 ∧ tn i z7.heap ∧ (∀ b ∈ fp, h' b = none) ∧ W i m st' h' := fun {st7 h7} j7 n7 => by
      obtain ⟨m', hm, w7⟩ := hN st7 h7 n7
      have pinned : ∀ b ∈ fp, ∀ o, z5.heap.get? b = some o → (b, o) ∈ X.pn ++ (pl ++ pinsAt fp z5.heap) := fun b hb o e => List.mem_append_right _ (List.mem_append_right _ (mem_pinsAt hb e))
      refine ⟨m', hm, i + 1, st7, h7, k7, j7.unpinned, tu.keep _ _ _ s5 fun b hb o e => (j7.pin (b, o) (pinned b hb o e)).1, fun b hb => ?_, w7⟩
      obtain ⟨o, e, _⟩ := tu.obj _ _ s5 b hb
      exact (j7.pin (b, o) (pinned b hb o e)).2.1
    cases f with
    | next => obtain ⟨_, _, j7, n7⟩ := q7; exact next j7 n7
    | cont => obtain ⟨_, _, j7, n7⟩ := q7; exact next j7 n7
    | brk => obtain ⟨_, _, j7, q8⟩ := q7; exact ⟨_, _, j7.unpinned, q8⟩
    | ret v => obtain ⟨_, _, _, j7, r7, q8⟩ := q7; exact ⟨_, _, _, j7.unpinned, r7, q8⟩
theorem pst_setT {i : Nat} {x : Str} {e : Expr} {te : TE} {p1 pos : Pos} (nd : X.N.Nodup) (ei : X.N[i]? = some x) (lc : Loc X.env.scope x) (he : PET X e te) (hs : swapsWith e (some (.Name x p1)) pos.line X.env = pure false := by rfl)
    (hf : X.fn x = true ∨ X.env.scope.names.lookup x = some .local := by first | exact .inl rfl | exact .inr rfl | assumption) : PST X (.Assign [.Name x p1] e pos) (tAsg te (gName i)) := by
  intro pl z st hp D k0 inv yes
  refine wpAny_Assign_Name (thn (he pl z st hp _ k0 inv yes) fun v z1 ⟨y, h1, j1, r1, q⟩ => ?_) hs
  exact store_ok j1 nd ei lc r1 (fun z2 j2 => ⟨_, h1, j2, q⟩) hf
end
end My

namespace My
open PySem PySem.Spec PyProof.Rows L2
/-! ### two clauses 'except X as n', 'except Y as n' -/
def inSuite (i : Nat) (a : Addr) (D : Ends) : Ends := { nx := fun x y => D.nx (x.set i none) y, rt := D.rt, bk := fun x y => D.bk (x.set i none) y, ct := fun x y => D.ct (x.set i none) y }
def wTwo (K : PySem.W.Frag) (c c' : Value) (i : Nat) (ts ts' : Addr → Value → Option Addr → TS) (D : Ends) : WX := fun cl dd st hp =>
  (PySem.W.exmOne K cl c = some true ∧ ∀ a, hp a = none → ts a cl dd (inSuite i a D) (st.set i (some (.ref a))) hp) ∨
  (PySem.W.exmOne K cl c = some false ∧ PySem.W.exmOne K cl c' = some true ∧ ∀ a, hp a = none → ts' a cl dd (inSuite i a D) (st.set i (some (.ref a))) hp)
section
variable {X : Cx} {x x' n : Str} {c c' : Value} {i : Nat} {body su su' : List Stmt} {b1 b1' : Stmt} {np ps np' ps' pos : Pos} {more : List ExceptHandler} {tb : WX → TS} {ts ts' : Addr → Value → Option Addr → TS}
theorem ps_try_two (e1 : X.stack = X.env :: X.outer) (e2 : X.env.frame = some X.env.locals) (nd : X.N.Nodup) (ei : X.N[i]? = some n) (el : X.env.kindOf n = some .local) (nc : Names X x c) (nc' : Names X x' c')
    (run : ∀ (W : WX) (pl : List (Addr × Obj)) (xe : Value → Shared → Prop), Takes (X.tr pl xe) W → PassesOwn (model X.prog X.w) X.A X.env xe → PSs (X.tr pl xe) body (tb W))
    (suite : ∀ (a : Addr) (oe : Obj) (cl : Value) (dd : Option Addr) (pl : List (Addr × Obj)), Zc cl dd oe → (∃ vs, oe.data = .fields vs) → PSs (X.suite a ((a, oe) :: pl)) (b1 :: su) (ts a cl dd))
    (suite' : ∀ (a : Addr) (oe : Obj) (cl : Value) (dd : Option Addr) (pl : List (Addr × Obj)), Zc cl dd oe → (∃ vs, oe.data = .fields vs) → PSs (X.suite a ((a, oe) :: pl)) (b1' :: su') (ts' a cl dd)) :
    PS X (.Try body (.ExceptHandler (some (.Name x np)) (some n) (b1 :: su) ps :: .ExceptHandler (some (.Name x' np')) (some n) (b1' :: su') ps' :: more) [] [] pos)
      (fun D st hp => tb (wTwo X.K c c' i ts ts' D) D st hp) := by
  refine ⟨fun pl s st hp D inv yes => ?_⟩
  have good := inv.ok
  have fr : X.A.frames = some (X.env :: X.outer) := by rw [good.frames, e1]
  have lc : Loc X.env.scope n := .inl el
  refine wpAny_Try_except (wpAny_mono ((run (wTwo X.K c c' i ts ts' D) (X.pn ++ pl) (fun ex z1 => wpAny (model X.prog X.w) X.A (noteFrame ex X.env) (fun _ z2 => wpAny (model X.prog X.w) X.A (setFlight ex none) (fun _ z3 =>
    wpAny (model X.prog X.w) X.A (handleBy ex X.env (.ExceptHandler (some (.Name x np)) (some n) (b1 :: su) ps :: .ExceptHandler (some (.Name x' np')) (some n) (b1' :: su') ps' :: more)) (SP X pl D) X.xe z3) X.xe z2) X.xe z1) (fun u z' got => ?_) PassesOwn.looking).run [] s st hp D (inv.toTry _) yes) (fun fl z1 end1 => ?_) (fun ex z1 w => w))
  · obtain ⟨a, gr, si, pl', st1, hp1, cl, dd, rfl, j0, nb, up, sky, na, os, ag, wish⟩ := got
    have j1 : Inv X pl st1 hp1 si := j0.ofTry good
    have sk : Sky gr (X.env :: X.outer) a (Zc cl dd) X.env.locals z'.heap := by rw [← e1]; exact sky
    show wpAny _ X.A (noteFrame (.ref a) X.env) _ _ _
    refine Sky.land Zc.steady fr e2 sk fun k3 f3 u3 => ?_
    have j3 : Inv X pl st1 hp1 { z' with heap := k3 } := j1.landed nb f3.1 (up.trans u3) os ag
    obtain ⟨o3, w3, r3, t3, q3⟩ := f3.there
    have off : a ∉ frs (X.env :: X.outer) := fun m => by
      obtain ⟨_, o4, r4, none4⟩ := f3.2.2.1.mem m
      rw [r3] at r4; cases r4
      exact none4 _ q3
    have l3 : a ≠ X.env.locals := fun z => off (List.mem_filterMap.mpr ⟨X.env, List.mem_cons_self, by rw [e2, z]⟩)
    have f4 : a ∉ X.fs := fun m => by
      obtain ⟨v, hv, hq⟩ := List.mem_filterMap.mp m
      exact off (List.mem_filterMap.mpr ⟨v, List.mem_cons_of_mem _ hv, hq⟩)
    have s3 := j3.suite r3 q3 na l3 f4
    have kind : PySem.W.Looks (model X.prog X.w) k3 (typeOf (.ref a)) cl := fun _ _ _ _ k q => wpAny_typeOf_ref (k _ _ r3) (by rw [t3.1]; exact q)
    have name : ∀ {y : Str} {d : Value} {npp : Pos}, Names X y d → ∀ {Q E : Value → Shared → Prop}, Q d { z' with heap := k3 } → wpAny (model X.prog X.w) (X.A.mark (some (.ref a))) (eval (.Name y npp) X.env) Q E { z' with heap := k3 } := fun {y d npp} nn {Q E} q => by
      obtain ⟨g1, g2, g3 | ⟨g3, g4, g5⟩⟩ := nn
      · exact ld_glob (X := X.suite a ((a, o3) :: (X.pn ++ pl))) s3 g1 g3 q g2
      · exact ld_blt (X := X.suite a ((a, o3) :: (X.pn ++ pl))) s3 g1 g3 g4 q g5 g2
    have land : ∀ {bb : Stmt} {ss : List Stmt} {tt : Addr → Value → Option Addr → TS} {hs : List ExceptHandler} {np0 ps0 : Pos} {y : Str},
        (∀ (a : Addr) (oe : Obj) (cl : Value) (dd : Option Addr) (pl : List (Addr × Obj)), Zc cl dd oe → (∃ vs, oe.data = .fields vs) → PSs (X.suite a ((a, oe) :: pl)) (bb :: ss) (tt a cl dd)) →
        (∀ a, hp1 a = none → tt a cl dd (inSuite i a D) (st1.set i (some (.ref a))) hp1) → ∀ {d : Value}, Names X y d → PySem.W.exmOne X.K cl d = some true →
        wpAny (model X.prog X.w) X.A (handleBy (.ref a) X.env (.ExceptHandler (some (.Name y np0)) (some n) (bb :: ss) ps0 :: hs)) (SP X pl D) X.xe { z' with heap := k3 } := fun {bb ss tt hs np0 ps0 y} sut wsh {d} nn hit => by
      refine wpAny_handleBy_cons (codeAny_handlers_test ?_) (by intro q; cases q)
      have fits := PySem.W.exm_one (M := model X.prog X.w) (j3.kIn) kind hit
      refine name nn (fits.here (codeAny_handlers_suite_as (HandSPX.lands_againZ f3 fun k4 f5 u4 => ?_)))
      have j4 : Inv X pl st1 hp1 { z' with heap := k4 } := j1.landed nb f5.1 ((up.trans u3).trans u4) os ag
      obtain ⟨o5, w5, r5, t5, q5⟩ := f5.there
      have s4 := j4.suite r5 q5 na l3 f4
      refine store_ok (X := X.suite a ((a, o5) :: (X.pn ++ pl))) (v := .ref a) s4 nd ei lc rfl (fun z5 s5 => ?_) (.inr el)
      refine wpAny_mono ((sut a o5 cl dd (X.pn ++ pl) t5 ⟨_, q5⟩).run [] z5 _ hp1 _ s5 (wsh a na)) (fun fl z6 end6 => ?_) (fun _ _ z => False.elim z)
      have out : ∀ {st6 : L2.St} {hp6 : Hp} {Q : Shared → Prop}, Inv (X.suite a ((a, o5) :: (X.pn ++ pl))) [] st6 hp6 z6 → (∀ z7, Inv X pl (st6.set i none) hp6 z7 → Q z7) →
          wpAny (model X.prog X.w) X.A (do bindName X.env n .none; unbindBehindTheSuite X.env n ps0) (fun _ z7 => Q z7) X.xe z6 := fun s6 q => gone_ok (s6.unsuite good) nd ei el q
      cases fl with
      | next => obtain ⟨_, _, s6, q6⟩ := end6; exact out s6 fun _ j7 => ⟨_, _, j7, q6⟩
      | brk => obtain ⟨_, _, s6, q6⟩ := end6; exact out s6 fun _ j7 => ⟨_, _, j7, q6⟩
      | cont => obtain ⟨_, _, s6, q6⟩ := end6; exact out s6 fun _ j7 => ⟨_, _, j7, q6⟩
      | ret u => obtain ⟨_, _, _, s6, r6, q6⟩ := end6; exact out s6 fun _ j7 => ⟨_, _, _, j7, r6, q6⟩
    rcases wish with ⟨hit, wsh⟩ | ⟨miss, hit, wsh⟩
    · exact land suite wsh nc hit
    · refine wpAny_handleBy_cons (codeAny_handlers_test ?_) (by intro q; cases q)
      have not_ := PySem.W.exm_one (M := model X.prog X.w) (j3.kIn) kind miss
      refine name nc (not_.here ?_)
      show wpAny _ X.A (handleBy (.ref a) X.env _) _ _ _
      exact land suite' wsh nc' hit
  · cases fl with
    | next => obtain ⟨_, _, j, q⟩ := end1; exact wpAny_execs_nil ⟨_, _, j.ofTry good, q⟩
    | brk => obtain ⟨_, _, j, q⟩ := end1; exact ⟨_, _, j.ofTry good, q⟩
    | cont => obtain ⟨_, _, j, q⟩ := end1; exact ⟨_, _, j.ofTry good, q⟩
    | ret u => obtain ⟨_, _, _, j, r, q⟩ := end1; exact ⟨_, _, _, j.ofTry good, r, q⟩
end
end My

namespace GY
open PySem PySem.Spec PyProof.Rows L2 GxR
/-! ### all(.. for x in a text) where the element reads the module's names -/
def EltG (P : Program) (w : World) (mg : Str → Option Value) (sc : Scope) (x : Str) (e : Expr) (ok : Nat → Bool) : Prop :=
  ∀ (v : Env) (A : Around) (Ex : Value → Shared → Prop) (c : Nat) (u : Tok) (z : Shared) (m : Str → Option Value),
    v.scope = sc → v.globals = mainGlobals → z.heap.Ns mainGlobals mg → z.heap.Ns v.locals m → m x = some (.str ⟨#[c]⟩ u) →
    wpAny (model P w) A (eval e v) (fun y z' => y = .bool (ok c) ∧ Keeps z z') Ex z
theorem elt_inG {P : Program} {w : World} {mg : Str → Option Value} {sc : Scope} {x g : Str} {l : List Nat} {p1 p2 p3 : Pos} (hk : sc.kind = .function) (hl : sc.names.lookup x = some .local)
    (hg : sc.names.lookup g = some .globalImplicit) (hm : ∃ u, mg g = some u ∧ RelV (.str (SX.S l)) u)
    (d1 : (x == ("__debug__" : Str)) = false := by decide) (d2 : (g == ("__debug__" : Str)) = false := by decide) :
    EltG P w mg sc x (.Compare (.Name x p1) [.In] [.Name g p2] p3) (fun c => decide (c ∈ l)) := by
  intro v A Ex c u z m hs hG hN hL hx
  obtain ⟨gv, e1, t, e2⟩ := hm
  subst e2
  refine wpAny_Compare1 ?_
  refine wpAny_Name (wpAny_loadName_local (by rw [hs]; exact hk) (show v.scope.names.lookup x = some .local by rw [hs]; exact hl) hL hx ?_) d1
  refine Calls.Name_function_global (by rw [hs]; exact hk) (show v.scope.names.lookup g = some .globalImplicit by rw [hs]; exact hg) (Calls.loadGlobal_global (by rw [hG]; exact hN) e1 ?_) d2
  refine PySem.P.in_str ⟨?_, keeps_tok _ _⟩
  have e3 : (⟨#[c]⟩ : Str) = SX.S [c] := rfl
  rw [e3, SX.in_one]
theorem genS_by {v : Env} {sc : Scope} {x : Str} (h1 : sc.kind = .function) (h2 : sc.isCoroutine = false) (h3 : sc.names.lookup (".0" : Str) = some NameKind.local) (h4 : sc.names.lookup x = some .local)
    (h5 : (sc.names.all fun y => decide (y.2 ≠ .cell) && decide (y.2 ≠ .free)) = true) : GenS v sc x := by
  have q : ∀ y ∈ sc.names, y.2 ≠ .cell ∧ y.2 ≠ .free := fun y hy => by
    have := List.all_eq_true.mp h5 y hy
    rw [Bool.and_eq_true, decide_eq_true_eq, decide_eq_true_eq] at this
    exact this
  exact ⟨h1, h2, fun y hy => (q y hy).1, h3, h4, fun y hy e => absurd e (q y hy).2⟩
section
variable {X : Cx} {pl : List (Addr × Obj)} {st : L2.St} {hp : Hp} {z : Shared}
theorem gen_strG {c P : Addr} {e it : Expr} {x : Str} {p1 gp : Pos} {sc : Scope} {ok : Nat → Bool} {te : TE} {k : Nat} {Q' : Value → Shared → Prop} {R : Str → Hp → Prop}
    (room : Room k X.A) (tb : TabB X.base X.mg c P) (cd : X.env.code = .ref c) (gs : GenS X.env sc x) (hi : PE X it te) (el : EltG X.prog X.w X.mg sc x e ok)
    (fold : ∀ v, genFold it X.env v = pure v) (inv : Inv X pl st hp z) (h : te st hp fun v h1 => ∃ a : Str, v = .str a ∧ TabG h1 P ∧ R a h1)
    (hq : ∀ a h1 g z5, R a h1 → Ready X pl st h1 P a ok g z5 → Q' (.ref g) z5) :
    wpAny (model X.prog X.w) X.A (eval (.GeneratorExp e [⟨.Name x p1, it, [], 0⟩] sc gp) X.env) Q' X.xe z := by
  have glob : X.env.globals = mainGlobals := inv.ok.glob
  refine wpAny_GeneratorExp_walksQ room.hd gs.co (closure_ok gs.free) gs.cell gs.dot gs.loc gs.kind (by have := room.dp; omega) ?_ fold
  refine thn (hi.run pl z st hp _ inv h) fun y z1 ⟨v, h1, j1, r1, q1⟩ => ?_
  obtain ⟨a, rfl, ⟨tab, hT, tri⟩, q1⟩ := q1
  obtain ⟨tk, rfl⟩ := _root_.id r1
  refine wpAny_pyIter_str fun obj Stt walk start => ?_
  have tabAt : z1.heap.get? P = some { cls := .none, data := .fields tab } := j1.hok P _ hT
  have tabLt : P < z1.heap.objs.size := Heap.lt_size tabAt
  have tabAt2 : (z1.heap.push obj).get? P = some { cls := .none, data := .fields tab } := Heap.get?_push_of_some _ tabAt
  have code2 : PySem.W.CodeHd (z1.heap.push obj) c P := tb.code.keeps fun b u q => Heap.get?_push_of_some _ (j1.bk b u q)
  have free2 : (z1.heap.push obj).NoLimit := j1.nolimit.push obj
  have nsG : z1.heap.Ns mainGlobals X.mg := j1.mod.glob.keeps j1.bk
  have rest : ∀ (cv : Value) (h3 : Heap) (t3 : Nat) (tab' : Array Value), Heap.ExtBut P (z1.heap.push obj) h3 → (z1.heap.push obj).objs.size ≤ h3.objs.size → h3.get? P = some { cls := .none, data := .fields tab' } →
      (∃ more, tab' = tab ++ more) → TriplesOk tab'.toList →
      wpAny (model X.prog X.w) X.A (builtinsFor X.env.globals X.env.builtins) (fun bi z4 =>
        ∃ Ia fp wr n0 Pf St0 pz F, Value.ref z1.heap.objs.size = .ref Ia ∧ (∀ A2 : Around, A2.handled = none → Walks X.prog X.w A2 Ia fp wr n0 Pf St0) ∧ St0 0 z4.heap ∧
          (∀ b ∈ fp, b < z4.heap.objs.size) ∧ z4.heap.NoLimit ∧ cStatics ∉ wr ∧
          (∀ hr : Heap, (∀ b o, z4.heap.get? b = some o → hr.get? b = some o) →
            QuietGen X.prog X.w (genEnv sc (cloFrom X.env.cells sc.names []) z4.heap.objs.size cv bi X.env) x [] e (List.range z4.heap.objs.size) wr Pf pz F hr) ∧
          (∀ g h5 t5 gst, gst.bare = true → z4.heap.objs.size < g → h5.objs.size = g + 1 → (∀ b o, z4.heap.get? b = some o → h5.get? b = some o) →
            WalksS X.prog X.w X.A.in4 g (g :: z4.heap.objs.size :: List.range z4.heap.objs.size) (z4.heap.objs.size :: wr) (GenOnlyQ z4.gens.size) (passing pz n0 0).length
              (fun j y => ∃ i, (passing pz n0 0)[j]? = some i ∧ F i y) (GenAt X.prog X.w X.A.in4 g z4.gens.size z4.heap.objs.size (List.range z4.heap.objs.size) wr pz n0 F) →
            GenAt X.prog X.w X.A.in4 g z4.gens.size z4.heap.objs.size (List.range z4.heap.objs.size) wr pz n0 F 0 { z4 with gens := z4.gens.push gst, toks := t5, heap := h5 } →
            Q' (.ref g) { z4 with gens := z4.gens.push gst, toks := t5, heap := h5 })) X.xe { z1 with heap := h3, toks := t3 } := by
    intro cv h3 t3 tab' ext big tabAt3 grow tri3
    obtain ⟨bm, ob, b1, b2, b3, b4, b5, b6, b7, b8⟩ := tb.bm
    have sP : cStatics ≠ P := fun q => by
      obtain ⟨_, ns, _⟩ := j1.nolimit
      obtain ⟨o2, es, ep, e5, e6, _⟩ := ns
      rw [q, tabAt] at e5
      cases e5
      cases e6
    have sLt : cStatics < z1.heap.objs.size := let ⟨_, ns, _⟩ := j1.nolimit; ns.lt
    have size2 : (z1.heap.push obj).objs.size = z1.heap.objs.size + 1 := Heap.size_push ..
    have stay : ∀ b u, b ≠ P → z1.heap.get? b = some u → h3.get? b = some u := fun b u hb q => ext b u hb (Heap.get?_push_of_some _ q)
    have nsG3 : h3.Ns mainGlobals X.mg := (nsG.push obj).extBut ext tb.gP
    refine wpAny_builtinsFor (m := X.mg) (by rw [glob]; exact nsG3) b1 b2 (stay _ _ b4 (j1.bk _ _ b5)) b6 b7 b8 ?_
    refine ⟨z1.heap.objs.size, [z1.heap.objs.size], [z1.heap.objs.size], a.cps.size, SignAt a, Stt, (fun _ => true), (fun i y => ∃ cc, a.cps[i]? = some cc ∧ y = .bool (ok cc)), rfl, walk, ?_, ?_, free2.extBut ext sP, ?_, ?_, ?_⟩
    · refine (walk X.A room.hd).frame _ _ _ start fun b hb u q => ext b u (fun n => ?_) q
      rcases List.mem_cons.mp hb with n2 | n2
      · exact Nat.ne_of_lt tabLt (n.symm.trans n2)
      · cases n2
    · intro b hb
      rcases List.mem_cons.mp hb with n | n
      · rw [n]
        show z1.heap.objs.size < h3.objs.size
        omega
      · cases n
    · intro n
      rcases List.mem_cons.mp n with n | n
      · exact Nat.ne_of_lt sLt n
      · cases n
    · intro hr keep
      refine ⟨fun A2 E2 i v z2 m2 _ _ _ _ _ => ?_, fun A2 E2 i v z2 m2 _ pv _ ns mx kept => ?_⟩
      · simp only [List.forIn_nil]
        exact wpAny_pure ⟨rfl, keeps_refl _⟩
      · obtain ⟨cc, u, at_, rfl⟩ := pv
        have gk : z2.heap.Ns mainGlobals X.mg := by
          obtain ⟨og, es, ep, g1, g2, g3⟩ := nsG3
          have gz1 : mainGlobals < z1.heap.objs.size := let ⟨_, _, _, q, _⟩ := nsG; Heap.lt_size q
          refine ⟨og, es, ep, kept mainGlobals (List.mem_range.mpr (Heap.lt_size g1)) (fun n => ?_) _ (keep _ _ g1), g2, g3⟩
          rcases List.mem_cons.mp n with n | n
          · exact Nat.ne_of_lt gz1 n
          · cases n
        exact wpAny_mono (el _ A2 E2 cc u z2 m2 rfl glob gk ns mx) (fun y z3 r => ⟨⟨cc, at_, r.1⟩, r.2⟩) fun _ _ q => q
    · intro g h5 t5 gst bare big5 size5 keep5 walk5 gat
      simp only [GxR.passing_true, List.length_range] at walk5
      refine hq a h1 g _ q1 ⟨_, _, _, _, _, walk5.in4_1, gat, ?_, fun z' mv => ?_⟩
      · intro j y zj Qj Ej hy hQ
        obtain ⟨i, hi2, cc, hcc, rfl⟩ := hy
        obtain ⟨jl, ej⟩ := List.getElem?_eq_some_iff.mp hi2
        rw [List.getElem_range] at ej
        subst ej
        have at2 : a.cps.toList[j]? = some cc := by rw [Array.getElem?_toList]; exact hcc
        have hQ2 : Qj (trF ok a.cps.toList j) zj := hQ
        rw [trF_some at2] at hQ2
        exact wpAny_truthy_bool hQ2
      · obtain ⟨more, em⟩ := grow
        have low : ∀ b u, z1.heap.get? b = some u → b ∉ h3.objs.size :: [z1.heap.objs.size] := fun b u q hb => by
          have l0 := Heap.lt_size q
          rcases List.mem_cons.mp hb with n | n
          · rw [n] at l0
            have l9 : (h3.objs.size : Nat) < z1.heap.objs.size := l0
            omega
          · rcases List.mem_cons.mp n with n | n
            · rw [n] at l0
              exact Nat.lt_irrefl _ l0
            · cases n
        have J := inv_tab (more := more) (h' := z'.heap) (g' := z'.gens) (d' := z'.drawn) (t' := z'.toks) j1 hT
          (fun b u hb q => mv.heap b u (low b u q) (keep5 b u (stay b u hb q)))
          (by rw [← em]; exact mv.heap P _ (low P _ tabAt) (keep5 P _ tabAt3)) (AllBare.movedS (j1.bare.push bare) mv)
        rw [sh_eta z1 z' mv.os] at J
        refine ⟨upd h1 P (.tbl (tab ++ more)), ⟨⟨tab ++ more, upd_same, by rw [← em]; exact tri3⟩, fun b hb => upd_ne hb⟩, J⟩
  refine ⟨free2, ?_⟩
  cases among : codeAmong gp tab.toList with
  | none =>
    refine wpAny_genexprCodeX cd (code2.code tabAt2 tri) (code2.tab tabAt2) among fun c2 h2 t2 ext ge lt isC _ tabE _ => ?_
    obtain ⟨o1, vs, f1, tf, fl, tg, inF, tx, tt, op, _, _, _, _, _, _, _, _, _, tr2, _⟩ := isC
    exact rest _ h2 t2 _ ext (Nat.le_trans ge (Nat.le_of_lt lt)) tabE.2 ⟨_, rfl⟩ tr2
  | some cv =>
    refine wpAny_genexprCode_hit cd (code2.code tabAt2 tri) among ?_
    exact rest cv (z1.heap.push obj) z1.toks tab (Heap.ExtBut.refl _ _) (Nat.le_refl _) tabAt2 ⟨#[], by simp⟩ tri
theorem pe_allG {c P : Addr} {e it : Expr} {x : Str} {p1 p pos gp : Pos} {sc : Scope} {ok : Nat → Bool} {te : TE} {k : Nat}
    (room : Room k X.A) (hg : Gl X "all") (hm : X.mg "all" = none) (hb : bootBuiltins "all" = some (.builtin "all")) (tb : TabB X.base X.mg c P) (cd : X.env.code = .ref c) (gs : GenS X.env sc x) (hi : PE X it te) (el : EltG X.prog X.w X.mg sc x e ok)
    (fold : ∀ v, genFold it X.env v = pure v)
    (se : starEach [.GeneratorExp e [⟨.Name x p1, it, [], 0⟩] sc gp] X.env = (false, eval (.GeneratorExp e [⟨.Name x p1, it, [], 0⟩] sc gp) X.env) :: starEach [] X.env := by rfl) :
    PE X (.Call (.Name "all" p) [.GeneratorExp e [⟨.Name x p1, it, [], 0⟩] sc gp] [] pos) (tAllS P ok te) := by
  refine ⟨fun pl z st hp Q inv yes => ?_⟩
  refine wpAny_Call_Name_kw (ld_blt inv hg hm hb ?_)
  refine PyProof.Rows.callWith_builtin1 ?_ se (by rfl)
  rw [se]
  show wpAny _ _ (spliced ((false, eval (.GeneratorExp e [⟨.Name x p1, it, [], 0⟩] sc gp) X.env) :: backTo pos (starEach [] X.env))) _ _ z
  refine Calls.spliced_cons (gen_strG (R := fun a h1 => ∀ h2, Tabbed P h1 h2 → Q (.bl (a.cps.toList.all ok)) h2) room tb cd gs hi el fold inv yes fun a h1 g z5 hR ready => ?_)
  obtain ⟨fp, wr, G, F, Stt, W, start, truth, back⟩ := ready
  refine Calls.spliced_nil ?_
  refine call_all_walkS (W.self 0 _ _ _ start ⟨g, fp, wr, G, _, F, Stt, _, rfl, W, start, truth, fun z' mv => ?_⟩)
  obtain ⟨h2, tabbed, J⟩ := back z' mv
  refine ⟨.bl _, h2, J, rfl, ?_⟩
  rw [all_signs a ok]
  exact hR h2 tabbed
end
end GY

namespace NX
open PySem PySem.Spec PyProof.Rows L2
/-! ### an object of any kind beside a text -/
section
variable {M : Model} {A : Around} {E : Value → Shared → Prop} {s : Shared}
theorem dict_ne_text (l : Addr) (es : Array DictEntry) (n : Nat) (dd : Option Addr) (sl : Array (Option Value)) (b : Str) (u : Tok) :
    Meets (Builtin.«dict.__ne__» ⟨[.ref l, .str b u], []⟩) (fun _ R z => z.heap.get? l = some { cls := .type "dict", dict := dd, data := .dict es n, slots := sl } ∧ R (.ok (.ret .notImplemented)) z) :=
  .of_wp fun prog w A R z h => by
    obtain ⟨hp, g, d, tk, os⟩ := z
    obtain ⟨hl, h⟩ := h
    have f1 := F.sub_str_dict
    wp_walk using wpAny_loadPart' hl
    exact ⟨_, rfl, h⟩
theorem text_ne_dict (b : Str) (u : Tok) (l : Addr) (c : Value) (es : Array DictEntry) (n : Nat) (dd : Option Addr) (sl : Array (Option Value)) :
    Meets (Builtin.«str.__ne__» ⟨[.str b u, .ref l], []⟩) (fun _ R z => z.heap.get? l = some { cls := c, dict := dd, data := .dict es n, slots := sl } ∧ R (.ok (.ret .notImplemented)) z) :=
  .of_wp fun prog w A R z h => by
    obtain ⟨hp, g, d, tk, os⟩ := z
    obtain ⟨hl, h⟩ := h
    wp_walk using wpAny_loadPart' hl, wpAny_load hl
    exact ⟨_, rfl, h⟩
end
theorem dict_text {P : Program} {w : World} {A : Around} {E : Value → Shared → Prop} {s : Shared} {l : Addr} {o : Obj} {es : Array DictEntry} {n : Nat} {b : Str} {u : Tok} {Q : Value → Shared → Prop} (ho : s.heap.get? l = some o) (hc : o.cls = .type "dict") (hd : o.data = .dict es n)
    (hu : A.units < cLine) (h : Q (.bool true) s) : wpAny (model P w) A (compareOp .NotEq (.ref l) (.str b u)) Q E s := by
  obtain ⟨cls, dd, data, sl⟩ := o
  simp only at hc hd
  subst hc hd
  show wpAny _ A (richCompare .NotEq _ _) Q E s
  exact PySem.SeqAt.rc_ne_decline_or (k := false) ⟨_, ho, rfl⟩ (typeIs_str s b u) (by decide) F.sub_str_dict F.slot_dict_ne F.slot_str_ne_refl
    (fun _ hq => call_meets F.slot_dict_ne ⟨_, ho, rfl⟩ F.entry_dict_ne (F.args_dict_ne_2 _ _) (dict_ne_text l es n dd sl b u) ⟨ho, hq⟩)
    (fun _ hq => call_meets F.slot_str_ne_refl (typeIs_str s b u) F.entry_str_ne (F.args_str_ne_2 _ _) (text_ne_dict b u l (.type "dict") es n dd sl) ⟨ho, hq⟩)
    (fun _ hq => wpAny_of_eq (rfl : isSame (.ref l) (.str b u) = pure false) hq) (.inr hu) h
def rNeX : R2 := fun x y H Q => rNe x y H Q ∨ ∃ a z, x = .ref a ∧ y = .str z ∧ ((∃ xs, H a = some (.lst xs)) ∨ (∃ xs, H a = some (.tup xs)) ∨ ∃ kvs, H a = some (.dK kvs)) ∧ Q (.bl true) H
theorem op_neX {X : Cx} (hu : X.A.units < cLine) : OpR X (compareOp .NotEq) rNeX := by
  intro pins s σ H x y v u Q I rx ry h
  rcases h with h | ⟨a, z, rfl, rfl, h, q⟩
  · exact op_ne pins s σ H x y v u Q I rx ry h
  · obtain rfl : v = Value.ref a := rx
    obtain ⟨t, rfl⟩ := ry
    rcases h with ⟨xs, h⟩ | ⟨xs, h⟩ | ⟨kvs, h⟩
    · obtain ⟨its, rv, hl, hz⟩ := I.list (SqL.of h)
      exact SeqAt.RcNeAt.list_str z t hl.isList hu _ _ _ _ ⟨.bl true, H, I, rfl, q⟩
    · obtain ⟨its, rv, hl, hz⟩ := I.tuple (SqT.of h)
      exact SeqAt.RcNeAt.tuple_str z t hl hu _ _ _ _ ⟨.bl true, H, I, rfl, q⟩
    · obtain ⟨mm, ya, va, ra, da⟩ := (show ObjOk X.prog X.w H s.heap a (.dK kvs) from I.hok a _ h)
      obtain ⟨od, es, ep, ho, hc, hd⟩ := da
      exact dict_text ho hc.1 hd.1 hu ⟨.bl true, H, I, rfl, q⟩
end NX

namespace My
open PySem PySem.Spec PyProof.Rows L2
/-- dict(zip(ks, xs)): two lists, the first one of texts -/
def tDZ (K : PySem.W.Frag) (t : TA) : TE := fun σ H Q => t σ H fun vs H1 => ∃ (a b : Addr) (ks : List Str) (xs : List V), vs = [.ref a, .ref b] ∧ SqL K H1 a (ks.map V.str) ∧ SqL K H1 b xs ∧
  ∀ p, H1 p = none → Q (.ref p) (upd H1 p (.dK (mergeK [] ((ks.zip xs).map fun kv => (Sum.inr kv.1, kv.2)))))
theorem kv_zip : ∀ {ks : List Str} {xs : List V} {us ws : List Value}, Vals (ks.map V.str) us → Vals xs ws →
    ∃ prs : List (Key × Value), KV ((ks.zip xs).map fun kv => ((Sum.inr kv.1 : Key), kv.2)) prs ∧ prs.length = min us.length ws.length ∧
      ∀ (i : Nat) (key v : Value), us[i]? = some key → ws[i]? = some v → ∃ k, prs[i]? = some (k, v) ∧ keyIs k key = true
  | [], xs, us, ws, h1, _ => by
    cases h1
    exact ⟨[], .nil, by simp, fun i key v h => by simp at h⟩
  | k :: ks, [], us, ws, h1, h2 => by
    cases h2
    exact ⟨[], .nil, by simp, fun i key v _ h => by simp at h⟩
  | k :: ks, x :: xs, us, ws, h1, h2 => by
    cases h1 with
    | cons r t =>
      cases h2 with
      | cons r2 t2 =>
        obtain ⟨prs, q1, q2, q3⟩ := kv_zip t t2
        obtain ⟨tk, rfl⟩ := (show ∃ t, _ = Value.str k t from r)
        rename_i u _
        refine ⟨(Sum.inr k, u) :: prs, .cons ⟨rfl, r2⟩ q1, ?_, ?_⟩
        · simp only [List.length_cons, q2]; omega
        · intro i key v e1 e2
          cases i with
          | zero =>
            simp at e1 e2
            subst e1 e2
            exact ⟨_, rfl, by simp [keyIs, Value.isStrOf]⟩
          | succ i =>
            simp at e1 e2
            obtain ⟨k', e3, e4⟩ := q3 i key v e1 e2
            exact ⟨k', by simpa using e3, e4⟩
section
variable {X : Cx}
theorem pe_dictZip {e1 e2 : Expr} {ta : TA} {p pos p2 pos2 : Pos} (hc : X.calm = true) (hg : Gl X "dict") (hm : X.mg "dict" = none) (hg2 : Gl X "zip") (hm2 : X.mg "zip" = none) (ha : PA X [e1, e2] ta)
    (hs : starEach [e1, e2] X.env = (false, eval e1 X.env) :: starEach [e2] X.env := by rfl) (hpl : (backTo pos2 (starEach [e2] X.env)).any (·.1) = false := by rfl)
    (hs2 : starEach [(.Call (.Name "zip" p2) [e1, e2] [] pos2)] X.env = (false, eval (.Call (.Name "zip" p2) [e1, e2] [] pos2) X.env) :: starEach [] X.env := by rfl) :
    PE X (.Call (.Name "dict" p) [.Call (.Name "zip" p2) [e1, e2] [] pos2] [] pos) (tDZ X.K ta) := by
  refine ⟨fun pins s σ H Q I h => ?_⟩
  refine wpAny_Call_Name_kw (ld_blt I hg hm PyProof.Rows.boot_dict ?_)
  refine PyProof.Rows.callWith_type1 ?_ hs2 (by rfl)
  rw [hs2]
  show wpAny _ _ (spliced ((false, eval _ X.env) :: backTo pos (starEach [] X.env))) _ _ s
  refine Calls.spliced_cons ?_
  refine wpAny_Call_Name_kw (ld_blt I hg2 hm2 PyProof.Rows.boot_zip ?_)
  refine PyProof.Rows.callWith_type1 (thn (ha.run pos2 pins s σ H _ I h) fun us s1 hh => ?_) hs hpl
  obtain ⟨vs, H1, I1, r1, a, b, ks, xs, rfl, hqx, hqy, q⟩ := hh
  cases r1 with
  | cons r rr =>
    cases rr with
    | cons r' rr =>
      cases rr
      cases r
      cases r'
      obtain ⟨its, rv, p1, _⟩ := I1.list hqx
      obtain ⟨its2, rv2, p2, hz2⟩ := I1.list hqy
      have la : a < s1.heap.objs.size := p1.lt
      have lb : b < s1.heap.objs.size := p2.lt
      refine call_zip_2 p1.isList p2.isList fun h' hz hTI hTO hi1 hi2 hsz hk => ?_
      refine Calls.spliced_nil ?_
      obtain ⟨prs, rel, hl, hpr⟩ := kv_zip rv rv2
      have P := PairArg.zip (prog := X.prog) (w := X.w) _ _ _ _ _ _ _ (PySem.W.ktu_apart s1.heap.objs.size a b la lb) its.toArray its2.toArray
      have hlen : prs.length = min its.toArray.size its2.toArray.size := by simpa using hl
      refine PySem.call_dict_pairs (knd := mixKind X.prog X.w) (kvs := prs) (s := { s1 with heap := h' }) P (I.ok.hd hc) ⟨hz, hTI, ⟨_, _, hTO⟩, hi1, hi2, p1.isList.at fun o e => hk _ o e, p2.isList.at fun o e => hk _ o e⟩ ⟨hlen, ?_⟩ ?_ ?_
      · rintro i key v ⟨e3, e4⟩
        exact hpr i key v (by simpa using e3) (by simpa using e4)
      · have e5 : xs.length = its2.length := rv2.length
        have e6 : its2.toArray.size = its2.length := by simp
        rw [e6]
        exact Nat.le_trans (Nat.min_le_right _ _) (e5 ▸ hz2)
      · intro h'' tk hd hkk
        have old : ∀ c o, s1.heap.get? c = some o → h''.get? c = some o := fun c o e => by
          have lt := Heap.lt_size e
          refine hkk c o ?_ (hk c o e)
          intro hmem
          have e' : c = s1.heap.objs.size + 4 ∨ c = s1.heap.objs.size + 3 ∨ c = s1.heap.objs.size ∨ c = s1.heap.objs.size + 1 := by simpa using hmem
          have hle : s1.heap.objs.size ≤ c := by
            rcases e' with z | z | z | z
            · rw [z]; exact Nat.le_add_right _ _
            · rw [z]; exact Nat.le_add_right _ _
            · rw [z]; exact Nat.le_refl _
            · rw [z]; exact Nat.le_add_right _ _
          exact absurd lt (Nat.not_lt.mpr hle)
        have big : s1.heap.objs.size ≤ h'.objs.size := by omega
        have hm' : (h'.objs.size == sysModules) = false := by
          exact beq_eq_false_iff_ne.mpr (Nat.ne_of_gt (Nat.lt_of_lt_of_le I1.big big))
        have hlen2 : (mergeK [] ((ks.zip xs).map fun kv => ((Sum.inr kv.1 : Key), kv.2))).length ≤ sizeLine := by
          refine Nat.le_trans (length_mergeK _ []) ?_
          simp only [List.length_nil, List.length_map, List.length_zip]
          omega
        exact ⟨.ref h'.objs.size, _, I1.laid (t' := tk) old big (show ObjOk X.prog X.w _ _ _ (.dK (mergeK [] ((ks.zip xs).map fun kv => (Sum.inr kv.1, kv.2)))) from ⟨hlen2, hm', merged [] prs, KV.merge rel .nil, hd⟩), rfl, q _ (I1.hok.fresh big)⟩
end
end My

namespace My
open PySem PySem.Spec PyProof.Rows L2
/-! ### rules that leave the heap a letter: what stood stands, what is new is told -/
theorem sameNew {H : Hp} {x : Addr} {o : HO} (hx : H x = none) : Same H (upd H x o) := fun b u e => by
  rw [upd_ne (ne_of_none e hx)]
  exact e
section
variable {X : Cx}
/-- [a, b] -/
def tLstG (t : TA) : TE := fun σ H Q => t σ H fun xs H1 => xs.length ≤ sizeLine ∧ ∀ (p : Addr) (H' : Hp), H1 p = none → H' p = some (.lst xs) → Same H1 H' → Q (.ref p) H'
theorem pe_lstG {es : List Expr} {t : TA} {pos : Pos} (h : PA X es t) : PE X (.List es pos) (tLstG t) := by
  refine ⟨fun pins s σ H Q I hq => ?_⟩
  refine wpAny_List_spliced (thn (h.run pos pins s σ H _ I hq) fun us s1 hh => ?_)
  obtain ⟨xs, H1, I1, r, z, q⟩ := hh
  have hf : H1 s1.heap.objs.size = none := I1.hok.fresh (Nat.le_refl _)
  exact ⟨by rw [← r.length]; exact z, .ref s1.heap.objs.size, upd H1 s1.heap.objs.size (.lst xs),
    I1.laid (t' := s1.toks) (fun b u e => Heap.get?_push_of_some _ e) (Nat.le_refl _) (show ObjOk X.prog X.w _ _ _ (.lst xs) from ⟨z, us, 0, r, Heap.get?_push_size _ rfl⟩), rfl, q _ _ hf upd_same (sameNew hf)⟩
/-- xs + ys, two lists -/
def rCatG : R2 := fun x y H Q => ∃ l b xs zs, x = .ref l ∧ y = .ref b ∧ H l = some (.lst xs) ∧ H b = some (.lst zs) ∧ xs.length + zs.length ≤ sizeLine ∧
  ∀ (p : Addr) (H' : Hp), H p = none → H' p = some (.lst (xs ++ zs)) → Same H H' → Q (.ref p) H'
theorem op_catG : OpR X (binaryOp .Add) rCatG := fun pins s σ H x y v u Q I rx ry h => op_cat pins s σ H x y v u Q I rx ry (by
  obtain ⟨l, b, xs, zs, e1, e2, h1, h2, hz, q⟩ := h
  exact ⟨l, b, xs, zs, e1, e2, h1, h2, hz, fun p hp => q p _ hp upd_same (sameNew hp)⟩)
/-- a new error as a value -/
def tErrG (C : Addr) (f : Str) (t : TA) : TE := fun σ H Q => t σ H fun vs H1 => ∃ v, vs = [v] ∧
  ∀ (a d : Addr) (H' : Hp), H1 a = none → H' a = some (ExD C (some d) a) → H' d = some (.xd [(f, v)]) → Same H1 H' → Q (.ref a) H'
variable {C fI : Addr} {cn f : Str}
theorem pe_errG {a : Expr} {ta : TA} {p pos : Pos} {k : Nat} (T : ErrTxt X.K X.mg cn f C fI) (hr : Room k X.A) (ha : PA X [a] ta) (hg : Gl X cn)
    (hdb : (cn == ("__debug__" : Str)) = false := by decide)
    (he : starEach (a :: []) X.env = (false, eval a X.env) :: starEach [] X.env := by rfl) (hpl : (backTo pos (starEach [] X.env)).any (·.1) = false := by rfl) :
    PE X (.Call (.Name cn p) [a] [] pos) (tErrG C f ta) := by
  refine ⟨fun pins s σ H Q I h => ?_⟩
  refine wpAny_Call_Name_kw (ld_glob I hg T.gC ?_ hdb)
  refine PySem.W.callWith_K (h₀ := X.base) I.ok.mod.kin T.kC (thn (ha.run pos pins s σ H _ I h) fun us s1 hh => ?_) he hpl
  obtain ⟨vs, H1, I1, r1, v, ev, q1⟩ := hh
  subst ev
  refine ⟨I1.kIn, ?_⟩
  cases r1 with
  | cons rv rn =>
    cases rn
    exact err_run T hr (.inl ⟨rfl, rfl⟩) I1 rv fun a d h1 h2 h3 => q1 a d _ h1 upd_same (by rw [upd_ne h3.symm]; exact upd_same) (fun b o e => by
      rw [upd_ne (ne_of_none e h1), upd_ne (ne_of_none e h2)]; exact e)
theorem pe_errGK {kws : List Keyword} {tk : TA} {p pos : Pos} {k : Nat} (T : ErrTxt X.K X.mg cn f C fI) (hr : Room k X.A) (ha : PK X kws tk) (hg : Gl X cn)
    (hall : (backToKw pos (keywordEach kws X.env)).all (·.1.isSome) = true := by rfl)
    (hks : (backToKw pos (keywordEach kws X.env)).filterMap (·.1) = [f] := by rfl)
    (hdb : (cn == ("__debug__" : Str)) = false := by decide)
    (hpl : ((backTo pos (starEach [] X.env)).any (·.1) || (backToKw pos (keywordEach kws X.env)).any (·.1.isNone)) = false := by rfl) :
    PE X (.Call (.Name cn p) [] kws pos) (tErrG C f tk) := by
  refine ⟨fun pins s σ H Q I h => ?_⟩
  refine wpAny_Call_Name_kw (ld_glob I hg T.gC ?_ hdb)
  refine PySem.W.callWith_KW0 (h₀ := X.base) I.ok.mod.kin T.kC hall (thn (ha.run pos pins s σ H _ I h) fun us s1 hh => ?_) hpl
  obtain ⟨vs, H1, I1, r1, v, ev, q1⟩ := hh
  subst ev
  refine ⟨I1.kIn, ?_⟩
  rw [hks]
  cases r1 with
  | cons rv rn =>
    cases rn
    exact err_run T hr (.inr ⟨rfl, rfl⟩) I1 rv fun a d h1 h2 h3 => q1 a d _ h1 upd_same (by rw [upd_ne h3.symm]; exact upd_same) (fun b o e => by
      rw [upd_ne (ne_of_none e h1), upd_ne (ne_of_none e h2)]; exact e)
end
end My

/-! super().m(..) in a method of a plain class: a def whose one free name is __class__ -/
namespace SuX
open PySem PySem.Spec PySem.Calls PyProof.Rows L2 LamX NdefX PySem.W
section
variable {X : Cx} {body : List Stmt} {st : Stmt} {rest : List Stmt} {t u : TS} {e : Expr} {te : TE} {pos : Pos}
/-- an expression, a statement, a block, run by the def's own code -/
structure PEA (X : Cx) (body : List Stmt) (e : Expr) (t : TE) : Prop where
  run : ∀ (pins : List (Addr × Obj)) (s : Shared) (σ : L2.St) (H : Hp) (Q : VK), Inv X pins σ H s → t σ H Q → _root_.PySem.wpAt (model X.prog X.w) X.A (.func body X.env) (eval e X.env) (EP X pins σ Q) X.xe s
structure PSA (X : Cx) (body : List Stmt) (st : Stmt) (t : TS) : Prop where
  run : ∀ (pins : List (Addr × Obj)) (s : Shared) (σ : L2.St) (H : Hp) (D : Ends), Inv X pins σ H s → t D σ H → _root_.PySem.wpAt (model X.prog X.w) X.A (.func body X.env) (exec st X.env) (SP X pins D) X.xe s
structure PSsA (X : Cx) (body : List Stmt) (l : List Stmt) (t : TS) : Prop where
  run : ∀ (pins : List (Addr × Obj)) (s : Shared) (σ : L2.St) (H : Hp) (D : Ends), Inv X pins σ H s → t D σ H → _root_.PySem.wpAt (model X.prog X.w) X.A (.func body X.env) (execs l X.env) (SP X pins D) X.xe s
theorem PSA.of (h : PS X st t) : PSA X body st t := ⟨fun pins s σ H D I q => wpAt_of_wpAny (h.run pins s σ H D I q)⟩
theorem PSsA.of (h : PSs X rest t) : PSsA X body rest t := ⟨fun pins s σ H D I q => wpAt_of_wpAny (h.run pins s σ H D I q)⟩
theorem pssA_cons (h1 : PSA X body st t) (h2 : PSsA X body rest u) : PSsA X body (st :: rest) (tSeq t u) := by
  refine ⟨fun pins s σ H D I h => ?_⟩
  refine ks_wpAt_execs_cons (ks_wpAt_mono (h1.run pins s σ H { D with nx := u D } I h) (fun f s1 q => ?_) fun _ _ x => x)
  cases f with
  | next =>
    obtain ⟨σ', H', I', q⟩ := q
    exact h2.run pins s1 σ' H' D I' q
  | ret v => exact q
  | brk => exact q
  | cont => exact q
theorem pssA_one (h1 : PSA X body st t) : PSsA X body [st] t := by
  refine ⟨fun pins s σ H D I h => ?_⟩
  refine ks_wpAt_execs_cons (ks_wpAt_mono (h1.run pins s σ H D I h) (fun f s1 q => ?_) fun _ _ x => x)
  cases f with
  | next => exact wpAt_of_wpAny (wpAny_execs_nil q)
  | ret v => exact q
  | brk => exact q
  | cont => exact q
theorem psA_expr (he : PEA X body e te) (hs : swapsWith e none pos.line X.env = pure false := by rfl) : PSA X body (.Expr e pos) (tDrop te) := by
  refine ⟨fun pins s σ H D I h => ?_⟩
  exact ks_wpAt_Expr_any (ks_wpAt_mono (he.run pins s σ H _ I h) (fun v s1 ⟨x, H1, I1, r1, q1⟩ => ⟨σ, H1, I1, q1⟩) fun _ _ x => x) I.quiet hs
theorem psA_ret (he : PEA X body e te) : PSA X body (.Return (some e) pos) (tRet te) := by
  refine ⟨fun pins s σ H D I h => ?_⟩
  exact ks_wpAt_Return_some (ks_wpAt_mono (he.run pins s σ H _ I h) (fun v s1 ⟨x, H1, I1, r1, q1⟩ => ⟨x, σ, H1, I1, r1, q1⟩) fun _ _ x => x)
end

/-- what the running def is: its object, its code, the cell that holds its class D -/
structure SupD (X : Cx) (D : Addr) (sf : Str) : Prop where
  fn : ∃ (f : Addr) (oc : Value) (od : Option Addr) (fd : FuncData) (osl : Array (Option Value)) (ar : Arg), X.env.func = some f ∧ X.K.lookup f = some ⟨oc, od, .func fd, osl⟩ ∧ (fd.params.posonlyargs ++ fd.params.args).head? = some ar ∧ ar.arg = sf
  code : ∃ (cda : Addr) (ccl : Value) (cdd : Option Addr) (vs : Array Value) (ccs : Array (Option Value)) (file : Str) (tf : Tok), X.env.code = .ref cda ∧ X.K.lookup cda = some ⟨ccl, cdd, .fields vs, ccs⟩ ∧ vs[2]? = some (.str file tf) ∧ ((X.prog.main.file : Str) == file) = true
  cell : ∃ (cc : Addr) (cl : Value) (cld : Option Addr) (csl : Array (Option Value)), X.env.cells.lookup ("__class__" : Str) = some cc ∧ X.K.lookup cc = some ⟨cl, cld, .cell (some (.ref D)), csl⟩
  cls : (clsIn X.K D).isSome = true
  sup : X.mg "super" = none
  top : (X.prog.main.scope.names.lookup ("super" : Str)).isSome = false
  ks : X.env.kindOf "super" = some .globalImplicit
  kc : X.env.kindOf "__class__" = some .free
  kf : X.env.kindOf sf = some .local
/-- the method m that is found behind D for an instance of the class at C -/
structure SupM (K : Frag) (D C : Addr) (m : Str) (f2 : Addr) : Prop where
  cls : (clsIn K C).isSome = true
  sub : mroIn K C (.ref D) = some true
  opq : nsIn K cStatics "thirdparty.any" = some none
  meth : ks_superIn K C D m = some (some (.ref f2))
  ty : typeIn K (.ref f2) = some (.type "function")
  fn : fnIn K f2 = true
/-- super().m(..): self stands in the slot i, an instance of the class at C -/
def tSup (C : Addr) (i : Nat) (sp : Sp) (dvs : List V) (E : XK) (t : TA) : TE := fun σ H Q => ∃ a dx fs, σ[i]? = some (some (.ref a)) ∧ H a = some (.ins C dx fs) ∧ t σ H fun vs H2 => sp (.ref a :: (vs ++ dvs)) H2 Q E

section
variable {X : Cx} {CX : CXT} {k i : Nat} {D C f2 : Addr} {fd2 : FuncData} {ps : List Str} {sp : Sp} {dvs : List V} {ds : List Value} {E : XK} {m sf : Str} {p0 p1 pos apos : Pos} {e : Expr} {es : List Expr} {t : TA} {body : List Stmt}
theorem data_of {K : Frag} {h : Heap} {D : Addr} {cd : ClassData} (Y : K.In h) (hD : clsIn K D = some cd) : ∃ oD, h.get? D = some oD ∧ oD.data = .cls cd := by
  unfold clsIn at hD
  split at hD
  · rename_i c d cd' sl ho
    cases hD
    exact ⟨_, Y _ _ ho, rfl⟩
  · cases hD
/-- behind super(): the bound method stands at q -/
theorem sup_meth {pl : Sem Bool} {pins : List (Addr × Obj)} {σ : L2.St} {H : Hp} {s : Shared} {a dx : Addr} {fs : List (Str × V)} {Q : Value × List Value → Shared → Prop} {so : Addr} {E' : Value → Shared → Prop} {A' : Around}
    (M : SupM X.K D C m f2) (I : Inv X pins σ H s) (ha : H a = some (.ins C dx fs)) (hso : s.heap.get? so = some (ks_superObj D a C)) (hn : (m == ("__class__" : Str)) = false)
    (h : ∀ q s', Inv X ((q, methodObj (.ref f2) (.ref a)) :: pins) σ H s' → Q (.ref q, []) s') : wpAny (model X.prog X.w) A' (getMethod (.ref so) m pl) Q E' s := by
  have Y := I.kIn
  obtain ⟨hh, g, d, tk, os⟩ := s
  obtain ⟨cd, hc⟩ := Option.isSome_iff_exists.mp M.cls
  have hm := M.meth
  unfold ks_superIn at hm
  rw [hc] at hm
  obtain ⟨of, hof, hofc⟩ : ∃ of, hh.get? f2 = some of ∧ of.cls = .type "function" := by
    have ht' : (X.K.lookup f2).map (·.cls) = some (.type "function") := M.ty
    cases z : X.K.lookup f2 with
    | none => rw [z] at ht'; cases ht'
    | some of => rw [z] at ht'; exact ⟨of, Y _ _ z, Option.some.inj ht'⟩
  obtain ⟨mA, O, r, _, _, _⟩ := ins_get I.hok ha
  have hbC : a ≠ C := by
    rintro rfl
    obtain ⟨oC, hoC, hdC⟩ := data_of Y hc
    have hob := O.obj
    rw [hoC] at hob
    cases hob
    cases hdC
  refine ks_wpAny_getMethod_super hso (looks_opaque Y M.opq) (l₀ := cd.mro) (fun A Q E s k q => wpAny_bind ((looks_clsIn Y hc) A _ E s k (wpAny_pure q))) rfl Y hm hof hofc hbC hn ?_
  refine h _ _ ?_
  have I1 : Inv X pins σ H ⟨hh.push { cls := .type "method", data := .fields #[.ref f2, .ref a] }, g, d, tk + 1, os⟩ := I.kept (t' := tk + 1) fun b u z => Heap.get?_push_of_some _ z
  refine I1.pins_of fun p hp => ?_
  rcases List.mem_cons.mp hp with rfl | hp
  · refine ⟨Heap.get?_push_at rfl rfl, I.hok.fresh (Nat.le_refl _), fun z => ?_, I.nofs (Nat.le_refl _), fun v z => by cases z⟩
    exact absurd I.lt (by rw [← z]; exact Nat.lt_irrefl _)
  · exact I1.pin p (List.mem_append_right _ hp)
/-- self's value in its slot -/
theorem self_at {pins : List (Addr × Obj)} {σ : L2.St} {H : Hp} {s : Shared} {a : Addr} (I : Inv X pins σ H s) (hN : X.N[i]? = some sf) (hs : σ[i]? = some (some (.ref a))) (hk : X.env.kindOf sf = some .local) :
    ∃ mm, s.heap.Ns X.env.locals mm ∧ mm sf = some (.ref a) := by
  obtain ⟨mm, hn, hl⟩ := I.loc
  obtain ⟨u, ru, lk⟩ := hl i sf (.ref a) hN hs (.inl hk)
  cases (show u = Value.ref a from ru)
  rcases lk with ⟨_, hm⟩ | ⟨hk', _⟩
  · exact ⟨mm, hn, hm⟩
  · rw [hk] at hk'
    rcases hk' with z | z <;> cases z
/-- super() -/
theorem sup_base {pins : List (Addr × Obj)} {σ : L2.St} {H : Hp} {s : Shared} {a dx : Addr} {fs : List (Str × V)} {Q : Value → Shared → Prop} {whole : Sem Value}
    (S : SupD X D sf) (M : SupM X.K D C m f2) (I : Inv X pins σ H s) (hN : X.N[i]? = some sf) (hs : σ[i]? = some (some (.ref a))) (ha : H a = some (.ins C dx fs)) (hn : (m == ("__class__" : Str)) = false)
    (h : ∀ so s', Inv X pins σ H s' → s'.heap.get? so = some (ks_superObj D a C) → Q (.ref so) s') :
    _root_.PySem.wpAt (model X.prog X.w) X.A (.func body X.env) (attributeBase (.Call (.Name "super" p0) [] [] p1) m X.env whole) Q X.xe s := by
  have Y := I.kIn
  obtain ⟨hh, g, d, tk, os⟩ := s
  obtain ⟨f, oc, od, fd, osl, ar, hfu, hf, har, hsf⟩ := S.fn
  obtain ⟨cda, ccl, cdd, vs, ccs, file, tf, hco, hcode, hvs, hfile⟩ := S.code
  obtain ⟨cc, cl, cld, csl, hcl, hcell⟩ := S.cell
  obtain ⟨cdD, hD⟩ := Option.isSome_iff_exists.mp S.cls
  obtain ⟨oD, hD1, hD2⟩ := data_of Y hD
  obtain ⟨mA, O, r, _, _, _⟩ := ins_get I.hok ha
  obtain ⟨mm, hns, hv⟩ := self_at I hN hs S.kf
  refine ks_wpAt_super_base (prog := X.prog) (w := X.w) S.ks S.kc hn hfu (Y _ _ hf) rfl har hco (Y _ _ hcode) rfl hvs hfile S.top ?_
  obtain ⟨mb, hb1, hb2⟩ := I.mod.blt
  refine ks_loadName_global I.ok.kind S.ks (Calls.loadGlobal_builtin (by rw [I.ok.glob]; exact I.mod.glob.keeps I.bk) S.sup (by rw [I.ok.blt]; exact hb1.keeps I.bk) ((hb2 "super" (by decide)).trans (show bootBuiltins "super" = some (.type "super") by decide +kernel)) ⟨rfl, ?_⟩)
  refine wpAny_loadName_free I.ok.kind S.kc hcl ⟨_, Y _ _ hcell, rfl⟩ ?_
  rw [hsf]
  refine wpAny_loadName_local I.ok.kind S.kf hns hv ?_
  refine ks_wpAny_isType_cls hD1 hD2 ⟨rfl, ?_⟩
  refine ks_wpAny_call_super hD1 hD2 O.obj rfl (fun c z => by cases z) (looks_mroIn Y M.sub) (fun h' e k => ?_)
  exact h _ _ (I.kept (t' := tk) k) e
/-- the method behind super() runs -/
theorem sup_run {pins : List (Addr × Obj)} {σ : L2.St} {H : Hp} {s : Shared} {Q : VK} {a q : Addr} {us : List Value} {vs : List V} (F : FnOk X.prog X.w X.K X.mg X.base CX k f2 fd2 ps sp) (hr : Room k X.A) (hb : Binds X.K fd2 ps ds) (hd : Vals dvs ds) (hx : Passes CX X E)
    (I : Inv X ((q, methodObj (.ref f2) (.ref a)) :: pins) σ H s) (r : Vals vs us) (h : sp (.ref a :: (vs ++ dvs)) H Q E) : wpAny (model X.prog X.w) X.A (call (.ref q) us) (EP X pins σ Q) X.xe s := by
  have I0 : Inv X pins σ H s := I.pins_of fun p hp => I.pin p (List.mem_append_right _ (List.mem_cons_of_mem _ hp))
  have hq : s.heap.get? q = some (methodObj (.ref f2) (.ref a)) := (I.pin _ (List.mem_append_right _ List.mem_cons_self)).1
  have r2 : Vals (V.ref a :: (vs ++ dvs)) (Value.ref a :: (us ++ ds)) := .cons rfl (r.append hd)
  have hl : (Value.ref a :: us ++ ds).length = ps.length := by
    have e := r2.length
    rw [F.len _ _ _ _ h] at e
    exact e.symm
  refine wpAny_call (ks_codeAny_call_bound hq (codeAny_mono (F.run X.A X.stack s H ⟨Value.ref a :: us, []⟩ (Value.ref a :: (us ++ ds)) (V.ref a :: (vs ++ dvs)) Q E hr I0.env0 (hb s (Value.ref a :: us) I.kIn hl) r2 h) fun r s' hq => ?_))
  cases r with
  | error e => exact hx pins σ H s e s' I0 hq
  | ok fl =>
    cases fl with
    | ret u => exact I0.after hq
    | next => exact False.elim hq
    | brk => exact False.elim hq
    | cont => exact False.elim hq
/-- super().m(e, ..) -/
theorem peA_sup {pl : Sem Bool} (S : SupD X D sf) (M : SupM X.K D C m f2) (F : FnOk X.prog X.w X.K X.mg X.base CX k f2 fd2 ps sp) (hr : Room k X.A) (hb : Binds X.K fd2 ps ds) (hd : Vals dvs ds) (hx : Passes CX X E) (hN : X.N[i]? = some sf) (ha : PA X (e :: es) t)
    (hn : (m == ("__class__" : Str)) = false := by decide) (hst : starEach (e :: es) X.env = (false, eval e X.env) :: starEach es X.env := by rfl) (hpl : (backTo pos (starEach es X.env)).any (·.1) = false := by rfl)
    (ht : eval (.Call (.Attribute (.Call (.Name "super" p0) [] [] p1) m apos) (e :: es) [] pos) X.env = (do
      let ov ← attributeBase (.Call (.Name "super" p0) [] [] p1) m X.env (eval (.Call (.Name "super" p0) [] [] p1) X.env)
      standAt apos.atName
      let (f, first) ← holding [ov] (getMethod ov m pl)
      callWith pos f first (backTo pos (starEach (e :: es) X.env)) []) := by rfl) :
    PEA X body (.Call (.Attribute (.Call (.Name "super" p0) [] [] p1) m apos) (e :: es) [] pos) (tSup C i sp dvs E t) := by
  refine ⟨fun pins s σ H Q I h => ?_⟩
  obtain ⟨a, dx, fs, hs, hH, h⟩ := h
  refine ks_wpAt_MethodCall (sup_base S M I hN hs hH hn fun so s1 I1 hso => ?_) ht
  refine sup_meth M I1 hH hso hn fun q s2 I2 => ?_
  rw [hst]
  refine callWith_of (P := MethP X.K q f2 (.ref a)) (by show ((false || (backTo pos (starEach es X.env)).any (·.1)) || false) = false; rw [hpl]; rfl) (keeps_M M.fn) (evalArgs_plain ?_)
  have hp := ha.run pos ((q, methodObj (.ref f2) (.ref a)) :: pins) s2 σ H _ I2 h
  rw [hst] at hp
  refine thn hp fun us s3 ⟨vs, H3, I3, r3, q3⟩ => ⟨⟨(I3.pin _ (List.mem_append_right _ List.mem_cons_self)).1, I3.kIn⟩, ?_⟩
  exact sup_run F hr hb hd hx I3 r3 q3
/-- super().m() -/
theorem peA_sup0 {pl : Sem Bool} (S : SupD X D sf) (M : SupM X.K D C m f2) (F : FnOk X.prog X.w X.K X.mg X.base CX k f2 fd2 ps sp) (hr : Room k X.A) (hb : Binds X.K fd2 ps ds) (hd : Vals dvs ds) (hx : Passes CX X E) (hN : X.N[i]? = some sf)
    (hn : (m == ("__class__" : Str)) = false := by decide)
    (ht : eval (.Call (.Attribute (.Call (.Name "super" p0) [] [] p1) m apos) [] [] pos) X.env = (do
      let ov ← attributeBase (.Call (.Name "super" p0) [] [] p1) m X.env (eval (.Call (.Name "super" p0) [] [] p1) X.env)
      standAt apos.atName
      let (f, first) ← holding [ov] (getMethod ov m pl)
      callWith pos f first (backTo pos (starEach [] X.env)) []) := by rfl) :
    PEA X body (.Call (.Attribute (.Call (.Name "super" p0) [] [] p1) m apos) [] [] pos) (tSup C i sp dvs E tNil) := by
  refine ⟨fun pins s σ H Q I h => ?_⟩
  obtain ⟨a, dx, fs, hs, hH, h⟩ := h
  refine ks_wpAt_MethodCall (sup_base S M I hN hs hH hn fun so s1 I1 hso => ?_) ht
  refine sup_meth M I1 hH hso hn fun q s2 I2 => ?_
  refine callWith_M0 ⟨(I2.pin _ (List.mem_append_right _ List.mem_cons_self)).1, I2.kIn⟩ M.fn ?_
  exact sup_run (us := []) F hr hb hd hx I2 .nil h
end

/-! ### the def itself: its body is read in the context of a def whose one free name is __class__ -/
section
variable {CX : CXT} {P : Program} {w : World} {K : Frag} {mg : Str → Option Value} {base : Heap} {N ps : List Str} {f D cc cda : Addr} {k : Nat} {sp : Sp} {name qual : Str} {params : Arguments} {body : List Stmt} {scope : Scope} {dV kV doc pm ct oc ccl cl : Value} {an od cld : Option Addr} {osl csl : Array (Option Value)}
/-- the context -/
abbrev nfS (name qual : Str) (params : Arguments) (body : List Stmt) (scope : Scope) (cc cda : Addr) : NF := ⟨name, qual, params, body, scope, [("__class__", cc)], cda⟩
theorem cells_one {w : World} {h : Heap} {H : Hp} (hc : h.get? cc = some (⟨cl, cld, .cell (some (.ref D)), csl⟩ : Obj)) (hH : H cc = none) : CellsAt [(("__class__" : Str), cc)] ["__class__"] [some (V.ref D)] h H := by
  have one : ∀ (y : Str) (c : Addr), List.lookup y [(("__class__" : Str), cc)] = some c → y = "__class__" ∧ c = cc := by
    intro y c e
    have m := PySem.mem_of_lookup e
    simp only [List.mem_singleton, Prod.mk.injEq] at m
    exact m
  refine ⟨rfl, fun y c e => ?_, fun x y c a b => ?_, fun i y hi => ?_⟩
  · obtain ⟨_, rfl⟩ := one y c e
    exact ⟨hH, _, _, hc, rfl⟩
  · rw [(one x c a).1, (one y c b).1]
  · cases i with
    | zero =>
      cases (show some ("__class__" : Str) = some y from hi)
      refine ⟨cc, rfl, fun v hv => ?_⟩
      cases (show some (some (V.ref D)) = some (some v) from hv)
      exact ⟨.ref D, rfl, _, hc, rfl⟩
    | succ i => cases (show (none : Option Str) = some y from hi)
/-- THE RULE for a def with super() -/
theorem fn_ofS (lk : K.lookup f = some ⟨oc, od, .func (fnX name qual params body scope [("__class__", cc)] dV kV doc pm an (.ref cda) ct), osl⟩) (hcd : codeIn K (.ref cda) qual = true) (S : NScope N ps ["__class__"] scope)
    (hcell : K.lookup cc = some ⟨cl, cld, .cell (some (.ref D)), csl⟩) (len : ∀ vs H Q E, sp vs H Q E → vs.length = ps.length)
    (hbody : ∀ (A : Around) (outer : List Env) (s : Shared) (H : Hp) (vs : List V) (Q : VK) (E : XK), Room k (A.deeper (envF (nfS name qual params body scope cc cda) f s.heap.objs.size)) → sp vs H Q E →
      ∃ t, PSsA (ncx CX P w K mg base N (nfS name qual params body scope cc cda) f A outer s H E) body body t ∧ t { nx := fun _ H' => Q .non H', rt := Q } (startF N vs [some (V.ref D)]) H) :
    FnOk P w K mg base CX (k + 1) f (fnX name qual params body scope [("__class__", cc)] dV kV doc pm an (.ref cda) ct) ps sp := by
  refine ⟨len, fun A outer s H args us vs Q E hr e0 hb r hsp => ?_⟩
  have KX : K.In s.heap := e0.mod.kin.keeps fun b o e => (e0.bs b o e).1
  have hl := len _ _ _ _ hsp
  have lim : s.heap.NoLimit := e0.mod.nolimit.keeps fun b o e => (e0.bs b o e).1
  have C : CellsAt [(("__class__" : Str), cc)] ["__class__"] [some (V.ref D)] s.heap H := cells_one (w := w) (KX _ _ hcell) (e0.bs _ _ (e0.mod.kin _ _ hcell)).2
  refine ks_codeAny_call_defAt (binds := ps.zip us) (body := body) hr.depth (KX _ _ lk) rfl lim (codeRec_of KX hcd) rfl hb S.nocell (fun x hx => S.par x.1 (List.of_mem_zip (a := x.1) (b := x.2) hx).1) (fun h₁ hns kp => ?_) S.co S.gen S.kind
  obtain ⟨t, ht, hq⟩ := hbody A outer s H vs Q E (hr.deeper _) hsp
  have I : Inv (ncx CX P w K mg base N (nfS name qual params body scope cc cda) f A outer s H E) [] (startF N vs [some (V.ref D)]) H { s with heap := h₁, toks := s.toks + (ps.zip us).length } := inv_startN (F := nfS name qual params body scope cc cda) S hr.hd e0 hl r C hns kp
  refine ks_wpAt_mono (ht.run [] _ (startF N vs [some (V.ref D)]) H _ I hq) (fun fl s' hs => ?_) fun e s' hs => hs
  have fin : ∀ {σ' : L2.St} {H' : Hp} {v : V} {u : Value}, Inv (ncx CX P w K mg base N (nfS name qual params body scope cc cda) f A outer s H E) [] σ' H' s' → L2.RelV v u → Q v H' → CE outer P w H s Q u s' :=
    fun {σ' H' v u} J rv q => ⟨v, H', J.os, J.bare, J.base, J.hok, rv, q⟩
  cases fl with
  | ret u =>
    obtain ⟨v, σ', H', J, rv, q⟩ := hs
    exact fin J rv q
  | next =>
    obtain ⟨σ', H', J, q⟩ := hs
    exact fin (v := V.non) (u := Value.none) J rfl q
  | brk =>
    obtain ⟨_, _, _, q⟩ := hs
    exact False.elim q
  | cont =>
    obtain ⟨_, _, _, q⟩ := hs
    exact False.elim q
end
end SuX

namespace SuX
open PySem PySem.Spec PySem.Calls PyProof.Rows L2 LamX NdefX PySem.W
theorem PSsA.nox {X : Cx} {body st : List Stmt} {t : TS} (h : PSsA X.nox body st t) : PSsA X body st t := ⟨fun pins s σ H D I hw =>
  ks_wpAt_mono (h.run pins s σ H D (I.wish _) hw) (fun _ _ q => q.unwish) fun _ _ z => False.elim z⟩
/-- a method with super(), as it stands behind the top -/
structure SupF (K : Frag) (file m qual : Str) (st : Stmt) (f : Addr) (fd : FuncData) (D : Addr) : Prop where
  ex : ∃ (oc cl ccl : Value) (od cld cdd : Option Addr) (dV kV doc pm : Value) (an : Option Addr) (cda cc : Addr) (ct : Value) (osl csl ccs : Array (Option Value)) (vs : Array Value) (tf : Tok),
    fd = fnX m qual (defArgs st) (defBody st) (defScope st) [("__class__", cc)] dV kV doc pm an (.ref cda) ct ∧ K.lookup f = some ⟨oc, od, .func fd, osl⟩ ∧ codeIn K (.ref cda) qual = true ∧
      K.lookup cc = some ⟨cl, cld, .cell (some (.ref D)), csl⟩ ∧ K.lookup cda = some ⟨ccl, cdd, .fields vs, ccs⟩ ∧ vs[2]? = some (.str file tf)
  kp : keepIn K (.ref f) = true
  cls : (clsIn K D).isSome = true
/-- what super() asks of the module -/
structure TopS (P : Program) (mg : Str → Option Value) (file : Str) : Prop where
  file : ((P.main.file : Str) == file) = true
  top : (P.main.scope.names.lookup ("super" : Str)).isSome = false
  sup : mg "super" = none
section
variable {P : Program} {w : World} {K : Frag} {mg : Str → Option Value} {base : Heap}
theorem SupF.ok {CX : CXT} {file m qual sf : Str} {st : Stmt} {f D : Addr} {fd : FuncData} {N ps : List Str} {k : Nat} {sp : Sp} {ar : Arg} (F : SupF K file m qual st f fd D) (hP : TopS P mg file) (S : NScope N ps ["__class__"] (defScope st))
    (har : ((defArgs st).posonlyargs ++ (defArgs st).args).head? = some ar) (hsf : ar.arg = sf) (hks : (defScope st).names.lookup ("super" : Str) = some .globalImplicit) (hkc : (defScope st).names.lookup ("__class__" : Str) = some .free)
    (hkf : (defScope st).names.lookup sf = some .local) (len : ∀ vs H Q E, sp vs H Q E → vs.length = ps.length)
    (hbody : ∀ (cc cda : Addr) (A : Around) (outer : List Env) (s : Shared) (H : Hp) (vs : List V) (Q : VK) (E : XK), Room k (A.deeper (envF (nfS m qual (defArgs st) (defBody st) (defScope st) cc cda) f s.heap.objs.size)) → sp vs H Q E →
      ∃ t, (SupD (ncx CX P w K mg base N (nfS m qual (defArgs st) (defBody st) (defScope st) cc cda) f A outer s H E) D sf → PSsA (ncx CX P w K mg base N (nfS m qual (defArgs st) (defBody st) (defScope st) cc cda) f A outer s H E) (defBody st) (defBody st) t) ∧
        t { nx := fun _ H' => Q .non H', rt := Q } (startF N vs [some (V.ref D)]) H) : FnOk P w K mg base CX (k + 1) f fd ps sp := by
  obtain ⟨oc, cl, ccl, od, cld, cdd, dV, kV, doc, pm, an, cda, cc, ct, osl, csl, ccs, vs, tf, rfl, lk, hcd, hcell, hcode, hvs⟩ := F.ex
  refine fn_ofS lk hcd S hcell len fun A outer s H vs' Q E hr hsp => ?_
  obtain ⟨t, h, q⟩ := hbody cc cda A outer s H vs' Q E hr hsp
  refine ⟨t, h ⟨⟨f, oc, od, _, osl, ar, rfl, lk, har, hsf⟩, ⟨cda, ccl, cdd, vs, ccs, file, tf, rfl, hcode, hvs, hP.file⟩, ⟨cc, cl, cld, csl, ?_, hcell⟩, F.cls, hP.sup, hP.top, hks, hkc, hkf⟩, q⟩
  rfl
theorem SupF.ok0 {file m qual sf : Str} {st : Stmt} {f D : Addr} {fd : FuncData} {N ps : List Str} {k : Nat} {sp : Sp} {ar : Arg} (F : SupF K file m qual st f fd D) (hP : TopS P mg file) (S : NScope N ps ["__class__"] (defScope st))
    (har : ((defArgs st).posonlyargs ++ (defArgs st).args).head? = some ar) (hsf : ar.arg = sf) (hks : (defScope st).names.lookup ("super" : Str) = some .globalImplicit) (hkc : (defScope st).names.lookup ("__class__" : Str) = some .free)
    (hkf : (defScope st).names.lookup sf = some .local) (len : ∀ vs H Q E, sp vs H Q E → vs.length = ps.length)
    (hbody : ∀ (cc cda : Addr) (A : Around) (outer : List Env) (s : Shared) (H : Hp) (vs : List V) (Q : VK) (E : XK), Room k (A.deeper (envF (nfS m qual (defArgs st) (defBody st) (defScope st) cc cda) f s.heap.objs.size)) → sp vs H Q E →
      ∃ t, (SupD (ncx CX0 P w K mg base N (nfS m qual (defArgs st) (defBody st) (defScope st) cc cda) f A outer s H E).nox D sf → PSsA (ncx CX0 P w K mg base N (nfS m qual (defArgs st) (defBody st) (defScope st) cc cda) f A outer s H E).nox (defBody st) (defBody st) t) ∧
        t { nx := fun _ H' => Q .non H', rt := Q } (startF N vs [some (V.ref D)]) H) : FnOk P w K mg base CX0 (k + 1) f fd ps sp := by
  obtain ⟨oc, cl, ccl, od, cld, cdd, dV, kV, doc, pm, an, cda, cc, ct, osl, csl, ccs, vs, tf, rfl, lk, hcd, hcell, hcode, hvs⟩ := F.ex
  refine fn_ofS lk hcd S hcell len fun A outer s H vs' Q E hr hsp => ?_
  obtain ⟨t, h, q⟩ := hbody cc cda A outer s H vs' Q E hr hsp
  refine ⟨t, (h ⟨⟨f, oc, od, _, osl, ar, rfl, lk, har, hsf⟩, ⟨cda, ccl, cdd, vs, ccs, file, tf, rfl, hcode, hvs, hP.file⟩, ⟨cc, cl, cld, csl, ?_, hcell⟩, F.cls, hP.sup, hP.top, hks, hkc, hkf⟩).nox, q⟩
  rfl
end
/-- a class of the module: its instances' fields -/
structure OC (K : Frag) (C : Addr) (fs : List Str) : Prop where
  cl : Cls K C
  na : ∀ f ∈ fs, NoAttr K C f
end SuX

namespace SuX
open PySem PySem.Spec PySem.Calls PyProof.Rows L2
/-! calls of one form that may go to one of two classes; o.m(k = v, ..) -/
theorem pe_two {X : Cx} {e : Expr} {t u : TE} (h : PE X e t) (g : PE X e u) : PE X e (fun σ H Q => t σ H Q ∨ u σ H Q) := ⟨fun pins s σ H Q I hw => hw.elim (h.run pins s σ H Q I) (g.run pins s σ H Q I)⟩
def tMethK (C : Addr) (m : Str) (n : Nat) (sp : Sp) (gV : List V → List V → List V) (E : XK) (ta : TE) (tk : TA) : TE := fun σ H Q => ta σ H fun x H1 => ∃ a dx fs, x = .ref a ∧ H1 a = some (.ins C dx fs) ∧ fs.lookup m = none ∧ tk σ H1 fun zs H2 => zs.length = n ∧ sp (gV [.ref a] zs) H2 Q E
section
variable {X : Cx} {CX : CXT} {k : Nat} {f C : Addr} {fd : FuncData} {ps ks : List Str} {sp : Sp} {E : XK} {m : Str} {apos pos : Pos} {o : Expr} {kws : List Keyword} {ta : TE} {tk : TA} {g : List Value → List Value → List Value} {gV : List V → List V → List V}
theorem run_fnKn {n : Nat} {pins : List (Addr × Obj)} {σ : L2.St} {H : Hp} {s : Shared} {Q : VK} {us ws : List Value} {vs zs : List V} (F : FnOk X.prog X.w X.K X.mg X.base CX k f fd ps sp) (hr : Room k X.A) (hb : KBn X.K fd ps n ks g gV) (hx : Passes CX X E)
    (I : Inv X pins σ H s) (r : Vals vs us) (rz : Vals zs ws) (l1 : us.length = n) (l2 : ws.length = ks.length) (h : sp (gV vs zs) H Q E) : wpAny (model X.prog X.w) X.A (call (.ref f) us (ks.zip ws)) (EP X pins σ Q) X.xe s := by
  have r2 := hb.rel r rz
  refine wpAny_call (codeAny_mono (F.run X.A X.stack s H ⟨us, ks.zip ws⟩ (g us ws) (gV vs zs) Q E hr I.env0 (hb.to s us ws I.kIn l1 l2) r2 h) fun r s' hq => ?_)
  cases r with
  | error e => exact hx pins σ H s e s' I hq
  | ok fl =>
    cases fl with
    | ret u => exact I.after hq
    | next => exact False.elim hq
    | brk => exact False.elim hq
    | cont => exact False.elim hq
theorem pe_methK0 {pl : Sem Bool} (he : PE X o ta) (c : Cls X.K C) (hm : Meth X.K C m f) (F : FnOk X.prog X.w X.K X.mg X.base CX k f fd ps sp) (hr : Room k X.A) (hb : KBn X.K fd ps 1 ks g gV) (hx : Passes CX X E) (hkw : PK X kws tk)
    (hall : (backToKw pos (keywordEach kws X.env)).all (·.1.isSome) = true := by rfl) (hks : (backToKw pos (keywordEach kws X.env)).filterMap (·.1) = ks := by rfl)
    (hpl : ((backTo pos (starEach [] X.env)).any (·.1) || (backToKw pos (keywordEach kws X.env)).any (·.1.isNone)) = false := by rfl)
    (ht : eval (.Call (.Attribute o m apos) [] kws pos) X.env = (do
      let ov ← eval o X.env
      standAt apos.atName
      let (f, first) ← holding [ov] (getMethod ov m pl)
      callWith pos f first (backTo pos (starEach [] X.env)) (backToKw pos (keywordEach kws X.env))) := by rfl) :
    PE X (.Call (.Attribute o m apos) [] kws pos) (tMethK C m ks.length sp gV E ta tk) := by
  refine ⟨fun pins s σ H Q I h => ?_⟩
  refine PySem.W.methodCall_KW (pl := pl) (thn (he.run pins s σ H _ I h) fun u s1 ⟨x, H1, I1, rx, a, dx, fs, ex, ea, l, q⟩ => ?_) ht
  subst ex
  obtain rfl : u = Value.ref a := rx
  refine getmeth_ok I1 ea c hm l ?_
  refine PySem.W.callWith_KW0 (first := [.ref a]) (h₀ := X.base) I.ok.mod.kin hm.kp hall ?_ hpl
  refine thn (hkw.run pos pins s1 σ H1 _ I1 q) fun ws s2 ⟨zs, H2, I2, rz, l2, q2⟩ => ⟨I2.kIn, ?_⟩
  rw [hks]
  exact run_fnKn (us := [.ref a]) (vs := [.ref a]) F hr hb hx I2 (.cons rfl .nil) rz rfl (rz.length.symm.trans l2) q2
end
theorem kbn_of {K : PySem.W.Frag} {x qual : Str} {st : Stmt} {f : Addr} {fd : FuncData} {ps ks : List Str} {n : Nat} (F : Fun K x qual st f fd) (g : {α : Type} → List α → List α → List α)
    (hrel : ∀ {vs zs : List V} {us ws : List Value}, Vals vs us → Vals zs ws → Vals (g vs zs) (g us ws))
    (h : ∀ (kV doc pm : Value) (an : Option Addr) (cdv ct : Value) (us ws : List Value), us.length = n → ws.length = ks.length → bindArgs (PySem.W.fnOf x qual (defArgs st) (defBody st) (defScope st) .none kV doc pm an cdv ct) ⟨us, ks.zip ws⟩ = pure (ps.zip (g us ws))) : KBn K fd ps n ks (fun us ws => g us ws) (fun vs zs => g vs zs) := by
  obtain ⟨oc, od, kV, doc, pm, an, cdv, ct, osl, rfl, lk, hcd⟩ := F.ex
  refine ⟨fun s us ws X l1 l2 => ?_, hrel⟩
  refine BindsTo.of_looks fun M => ?_
  rw [h kV doc pm an cdv ct us ws l1 l2]
  exact .of_pure rfl
end SuX

namespace SuX
open PySem PySem.Spec PySem.Calls PyProof.Rows L2
/-- a dict of the module that never changes, as the top left it -/
def DKc (K : PySem.W.Frag) (P : Program) (w : World) (a : Addr) (kvs : List (Key × V)) : Prop :=
  kvs.length ≤ sizeLine ∧ (a == sysModules) = false ∧ ∃ vs, KV kvs vs ∧ ∀ h : Heap, K.In h → h.DictOf (mixKind P w) a vs
section
variable {X : Cx}
/-- dict(d), d a dict of the module -/
theorem call_dictK : CallR X (.type "dict") (fun xs H Q => ∃ (a : Addr) (kvs : List (Key × V)), xs = [.ref a] ∧ DKc X.K X.prog X.w a kvs ∧ ∀ p, H p = none → Q (.ref p) (upd H p (.dK kvs))) := by
  intro pins s σ H xs us Q I r q
  obtain ⟨a, kvs, ex, ⟨z, lo, vs, rel, hd⟩, q⟩ := q
  subst ex
  obtain ⟨u, eu, rx⟩ := vals1 r
  subst eu
  cases rx
  have dd := hd s.heap I.kIn
  refine kt_call_dict lo dd (by rw [← rel.length]; exact z) fun h' d' hs => ?_
  have hm : (s.heap.objs.size == sysModules) = false := beq_eq_false_iff_ne.mpr (Nat.ne_of_gt I.big)
  exact ⟨.ref s.heap.objs.size, upd H s.heap.objs.size (.dK kvs), I.laid (t' := s.toks) (fun b u e => (hs.2 b (Nat.ne_of_lt (Heap.lt_size e))).trans (Heap.get?_push_of_some _ e)) (Nat.le_refl _)
    (show ObjOk X.prog X.w _ _ _ (.dK kvs) from ⟨z, hm, vs, rel, d'⟩), rfl, q _ (I.hok.fresh (Nat.le_refl _))⟩
end
end SuX

/-! what a program's object lays step by step, the objects apart from one another -/
namespace SuX
open PySem PySem.Spec PySem.Calls PyProof.Rows L2
theorem neN {H : Hp} {b x : Addr} {u : HO} (e : H b = some u) (hx : H x = none) : b ≠ x := fun z => by rw [z, hx] at e; cases e
/-- a class is made: its instance, its dict -/
abbrev mkH (H : Hp) (C c dc : Addr) : Hp := upd (upd H dc (.own c)) c (.ins C dc [])
theorem mkH_old {H : Hp} {C c dc b : Addr} {u : HO} (hc : H c = none) (hd : H dc = none) (e : H b = some u) : mkH H C c dc b = some u := by
  unfold mkH
  rw [upd_ne (neN e hc), upd_ne (neN e hd)]
  exact e
theorem mkH_none {H : Hp} {C c dc b : Addr} (h : mkH H C c dc b = none) : b ≠ c ∧ b ≠ dc ∧ H b = none := by
  unfold mkH at h
  have h1 : b ≠ c := fun z => by rw [z, upd_same] at h; cases h
  rw [upd_ne h1] at h
  have h2 : b ≠ dc := fun z => by rw [z, upd_same] at h; cases h
  rw [upd_ne h2] at h
  exact ⟨h1, h2, h⟩
/-- since H0 all but x stands; L: what has been laid -/
structure TK (H0 : Hp) (x : Addr) (L : List (Addr × HO)) (H : Hp) : Prop where
  at_ : ∀ p ∈ L, H p.1 = some p.2
  nd : (L.map (·.1)).Nodup
  nx : ∀ p ∈ L, p.1 ≠ x
  new : ∀ p ∈ L, H0 p.1 = none
  same : ∀ c u, c ≠ x → H0 c = some u → H c = some u
theorem TK.nil (H0 : Hp) (x : Addr) : TK H0 x [] H0 := ⟨fun _ h => absurd h List.not_mem_nil, List.nodup_nil, fun _ h => absurd h List.not_mem_nil, fun _ h => absurd h List.not_mem_nil, fun _ _ _ e => e⟩
theorem TK.setx {H0 H : Hp} {x : Addr} {L : List (Addr × HO)} {o : HO} (t : TK H0 x L H) : TK H0 x L (upd H x o) :=
  ⟨fun p hp => by rw [upd_ne (t.nx p hp)]; exact t.at_ p hp, t.nd, t.nx, t.new, fun c u n e => by rw [upd_ne n]; exact t.same c u n e⟩
theorem nd_app {A B : List (Addr × HO)} (a : (A.map (·.1)).Nodup) (b : (B.map (·.1)).Nodup) (h : ∀ p ∈ A, ∀ q ∈ B, p.1 ≠ q.1) : ((A ++ B).map (·.1)).Nodup := by
  rw [List.map_append, List.nodup_append]
  refine ⟨a, b, fun u hu v hv => ?_⟩
  obtain ⟨p, hp, rfl⟩ := List.mem_map.mp hu
  obtain ⟨q, hq, rfl⟩ := List.mem_map.mp hv
  exact h p hp q hq
/-- one more object, with what it lays (N) -/
theorem TK.lay {H0 H H' : Hp} {x C c dc : Addr} {ox : HO} {L N : List (Addr × HO)} (t : TK H0 x L H) (hx : H x = some ox) (hc : H c = none) (hd : H dc = none)
    (hN : ∀ p ∈ N, H' p.1 = some p.2 ∧ (p.1 = c ∨ mkH H C c dc p.1 = none)) (nd : (N.map (·.1)).Nodup) (s : ∀ b u, b ≠ c → mkH H C c dc b = some u → H' b = some u) : TK H0 x (L ++ N) H' ∧ H' x = some ox := by
  have nN : ∀ p ∈ N, H p.1 = none := fun p hp => by
    rcases (hN p hp).2 with e | e
    · rw [e]; exact hc
    · exact (mkH_none e).2.2
  have old : ∀ b u, H b = some u → H' b = some u := fun b u e => s b u (neN e hc) (mkH_old hc hd e)
  refine ⟨⟨fun p hp => ?_, nd_app t.nd nd fun p hp q hq => neN (t.at_ p hp) (nN q hq), fun p hp => ?_, fun p hp => ?_, fun b u n e => old b u (t.same b u n e)⟩, old x ox hx⟩
  · rcases List.mem_append.mp hp with hp | hp
    · exact old _ _ (t.at_ p hp)
    · exact (hN p hp).1
  · rcases List.mem_append.mp hp with hp | hp
    · exact t.nx p hp
    · exact (neN hx (nN p hp)).symm
  · rcases List.mem_append.mp hp with hp | hp
    · exact t.new p hp
    · cases e : H0 p.1 with
      | none => rfl
      | some u =>
        have z := t.same p.1 u (neN hx (nN p hp)).symm e
        rw [nN p hp] at z
        cases z
/-- .. which also changes what stands at a -/
theorem TK.layY {H0 H H' : Hp} {x C c dc a : Addr} {ox o o' : HO} {L N : List (Addr × HO)} (t : TK H0 x (L ++ [(a, o)]) H) (hx : H x = some ox) (hc : H c = none) (hd : H dc = none) (ha : H' a = some o')
    (hN : ∀ p ∈ N, H' p.1 = some p.2 ∧ (p.1 = c ∨ mkH H C c dc p.1 = none)) (nd : (N.map (·.1)).Nodup) (s : ∀ b u, b ≠ c → b ≠ a → mkH H C c dc b = some u → H' b = some u) : TK H0 x (L ++ N ++ [(a, o')]) H' ∧ H' x = some ox := by
  have nN : ∀ p ∈ N, H p.1 = none := fun p hp => by
    rcases (hN p hp).2 with e | e
    · rw [e]; exact hc
    · exact (mkH_none e).2.2
  have hA : H a = some o := t.at_ (a, o) (List.mem_append_right _ (List.mem_singleton.mpr rfl))
  have xa : a ≠ x := t.nx (a, o) (List.mem_append_right _ (List.mem_singleton.mpr rfl))
  have a0 : H0 a = none := t.new (a, o) (List.mem_append_right _ (List.mem_singleton.mpr rfl))
  have ndL : ((L ++ [(a, o)]).map (·.1)).Nodup := t.nd
  rw [List.map_append, List.nodup_append] at ndL
  have La : ∀ p ∈ L, p.1 ≠ a := fun p hp => ndL.2.2 p.1 (List.mem_map_of_mem hp) a (List.mem_singleton.mpr rfl)
  have old : ∀ b u, b ≠ a → H b = some u → H' b = some u := fun b u n e => s b u (neN e hc) n (mkH_old hc hd e)
  have sp : ∀ {p : Addr × HO} {R : Prop}, p ∈ L ++ N ++ [(a, o')] → (p ∈ L → R) → (p ∈ N → R) → (p = (a, o') → R) → R := fun hp h1 h2 h3 => by
    rcases List.mem_append.mp hp with hp | hp
    · rcases List.mem_append.mp hp with hp | hp
      · exact h1 hp
      · exact h2 hp
    · exact h3 (List.mem_singleton.mp hp)
  refine ⟨⟨fun p hp => sp hp (fun q => ?_) (fun q => (hN p q).1) (fun q => by rw [q]; exact ha), ?_, fun p hp => sp hp (fun q => t.nx p (List.mem_append_left _ q)) (fun q => (neN hx (nN p q)).symm) (fun q => by rw [q]; exact xa),
    fun p hp => sp hp (fun q => t.new p (List.mem_append_left _ q)) (fun q => ?_) (fun q => by rw [q]; exact a0), fun b u n e => ?_⟩, old x ox xa.symm hx⟩
  · exact old _ _ (La p q) (t.at_ p (List.mem_append_left _ q))
  · refine nd_app (nd_app ndL.1 nd fun p hp q hq => neN (t.at_ p (List.mem_append_left _ hp)) (nN q hq)) (List.nodup_cons.mpr ⟨by simp, List.nodup_nil⟩) fun p hp q hq => ?_
    rw [List.mem_singleton.mp hq]
    rcases List.mem_append.mp hp with hp | hp
    · exact La p hp
    · exact (neN hA (nN p hp)).symm
  · cases e : H0 p.1 with
    | none => rfl
    | some u =>
      have z := t.same p.1 u (neN hx (nN p q)).symm e
      rw [nN p q] at z
      cases z
  · exact old b u (fun z => by rw [z, a0] at e; cases e) (t.same b u n e)
end SuX

/-! texts by names: the maps that stores hold -/
namespace SuX
open PySem PySem.Spec PySem.Calls PyProof.Rows L2
structure Wn where
  (wr pa : Addr)
  l : List Nat
abbrev SMap := List (List Nat × Wn)
def kvS (m : SMap) : List (Key × V) := m.map fun e => (Sum.inr (SX.S e.1), V.ref e.2.wr)
def getM : SMap → List Nat → Option Wn
  | [], _ => none
  | e :: r, k => if e.1 = k then some e.2 else getM r k
def putM : SMap → List Nat → Wn → SMap
  | [], k, x => [(k, x)]
  | e :: r, k, x => if e.1 = k then (e.1, x) :: r else e :: putM r k x
def dropM (m : SMap) (k : List Nat) : SMap := m.filter fun e => decide (e.1 ≠ k)
theorem key_iff (e k : List Nat) : ((Sum.inr (SX.S e) : Key) = Sum.inr (SX.S k)) ↔ e = k := ⟨fun h => SX.S_inj (Sum.inr.inj h), fun h => by rw [h]⟩
theorem valV_kvS (k : List Nat) : ∀ m : SMap, valV (kvS m) (Sum.inr (SX.S k) : Key) = (getM m k).map fun x => V.ref x.wr
  | [] => rfl
  | e :: r => by
    unfold getM
    by_cases h : e.1 = k
    · rw [if_pos h]
      exact valV_pos (p := ((Sum.inr (SX.S e.1) : Key), V.ref e.2.wr)) ((key_iff e.1 k).mpr h)
    · rw [if_neg h, ← valV_kvS k r]
      exact valV_neg (p := ((Sum.inr (SX.S e.1) : Key), V.ref e.2.wr)) (fun z => h ((key_iff e.1 k).mp z))
theorem kvS_len (m : SMap) : (kvS m).length = m.length := List.length_map ..
theorem putM_len {m : SMap} {k : List Nat} {x : Wn} : (putM m k x).length ≤ m.length + 1 := by
  induction m with
  | nil => exact Nat.le_refl _
  | cons e r ih =>
    unfold putM
    split
    · exact Nat.le_succ _
    · exact Nat.succ_le_succ ih
theorem getM_none_mem {k : List Nat} : ∀ {m : SMap}, getM m k = none → ∀ e ∈ m, e.1 ≠ k
  | [], _, e, he => absurd he List.not_mem_nil
  | a :: r, h, e, he => by
    unfold getM at h
    split at h
    · cases h
    · rename_i q
      rcases List.mem_cons.mp he with rfl | he
      · exact q
      · exact getM_none_mem h e he
theorem getM_mem {k : List Nat} {x : Wn} : ∀ {m : SMap}, getM m k = some x → (k, x) ∈ m
  | [], h => by cases h
  | a :: r, h => by
    unfold getM at h
    split at h
    · rename_i q
      cases h
      rw [← q]
      exact List.mem_cons_self
    · exact List.mem_cons_of_mem _ (getM_mem h)
theorem map_id_of {k : List Nat} {v : V} : ∀ {m : SMap}, (∀ e ∈ m, e.1 ≠ k) → (kvS m).map (fun kv => if kv.1 = (Sum.inr (SX.S k) : Key) then (kv.1, v) else kv) = kvS m
  | [], _ => rfl
  | e :: r, h => by
    show (if (Sum.inr (SX.S e.1) : Key) = Sum.inr (SX.S k) then _ else _) :: _ = _
    rw [if_neg (fun z => h e List.mem_cons_self ((key_iff e.1 k).mp z))]
    exact congrArg (List.cons ((Sum.inr (SX.S e.1) : Key), V.ref e.2.wr)) (map_id_of fun a ha => h a (List.mem_cons_of_mem _ ha))
/-- the dict behind a store's put -/
theorem putK_kvS (k : List Nat) (x : Wn) : ∀ {m : SMap}, (m.map (·.1)).Nodup → putK (kvS m) (Sum.inr (SX.S k) : Key) (V.ref x.wr) = kvS (putM m k x)
  | [], _ => rfl
  | e :: r, nd => by
    have nd' : e.1 ∉ r.map (·.1) ∧ (r.map (·.1)).Nodup := List.nodup_cons.mp nd
    have ih := putK_kvS k x nd'.2
    unfold putM
    by_cases h : e.1 = k
    · rw [if_pos h]
      unfold putK
      have q : ((kvS (e :: r)).any fun kv => decide (kv.1 = (Sum.inr (SX.S k) : Key))) = true := by
        show (decide ((Sum.inr (SX.S e.1) : Key) = Sum.inr (SX.S k)) || _) = true
        rw [decide_eq_true ((key_iff e.1 k).mpr h)]; rfl
      rw [if_pos q]
      show (if (Sum.inr (SX.S e.1) : Key) = Sum.inr (SX.S k) then _ else _) :: _ = _
      rw [if_pos ((key_iff e.1 k).mpr h)]
      have hr : ∀ a ∈ r, a.1 ≠ k := fun a ha z => nd'.1 (by rw [h, ← z]; exact List.mem_map_of_mem ha)
      exact congrArg (List.cons ((Sum.inr (SX.S e.1) : Key), V.ref x.wr)) (map_id_of hr)
    · rw [if_neg h]
      have hk : ¬ ((Sum.inr (SX.S e.1) : Key) = Sum.inr (SX.S k)) := fun z => h ((key_iff e.1 k).mp z)
      have a1 : ((kvS (e :: r)).any fun kv => decide (kv.1 = (Sum.inr (SX.S k) : Key))) = ((kvS r).any fun kv => decide (kv.1 = (Sum.inr (SX.S k) : Key))) := by
        show (decide ((Sum.inr (SX.S e.1) : Key) = Sum.inr (SX.S k)) || _) = _
        rw [decide_eq_false hk]; rfl
      unfold putK at ih ⊢
      rw [a1]
      split at ih
      · rename_i q
        rw [if_pos q]
        show (if (Sum.inr (SX.S e.1) : Key) = Sum.inr (SX.S k) then _ else _) :: _ = _
        rw [if_neg hk]
        exact congrArg (List.cons ((Sum.inr (SX.S e.1) : Key), V.ref e.2.wr)) ih
      · rename_i q
        rw [if_neg q]
        exact congrArg (List.cons ((Sum.inr (SX.S e.1) : Key), V.ref e.2.wr)) ih
theorem dropK_kvS (k : List Nat) : ∀ m : SMap, dropK (kvS m) (Sum.inr (SX.S k) : Key) = kvS (dropM m k)
  | [] => rfl
  | e :: r => by
    have ih := dropK_kvS k r
    unfold dropK dropM at ih ⊢
    by_cases h : e.1 = k
    · rw [List.filter_cons_of_neg (by simp [h])]
      show List.filter _ (_ :: _) = _
      rw [List.filter_cons_of_neg (by simp [(key_iff e.1 k).mpr h])]
      exact ih
    · have hk : ¬ ((Sum.inr (SX.S e.1) : Key) = Sum.inr (SX.S k)) := fun z => h ((key_iff e.1 k).mp z)
      rw [List.filter_cons_of_pos (by simp [h])]
      show List.filter _ (_ :: _) = _ :: _
      rw [List.filter_cons_of_pos (by simp [hk])]
      exact congrArg (List.cons ((Sum.inr (SX.S e.1) : Key), V.ref e.2.wr)) ih
theorem putM_mem {k : List Nat} {y : Wn} : ∀ {m : SMap}, (m.map (·.1)).Nodup → ∀ e ∈ putM m k y, e = (k, y) ∨ (e ∈ m ∧ e.1 ≠ k)
  | [], _, e, he => .inl (List.mem_singleton.mp he)
  | a :: r, nd, e, he => by
    have nd' : a.1 ∉ r.map (·.1) ∧ (r.map (·.1)).Nodup := List.nodup_cons.mp nd
    unfold putM at he
    by_cases h : a.1 = k
    · rw [if_pos h] at he
      rcases List.mem_cons.mp he with rfl | he
      · exact .inl (by rw [h])
      · exact .inr ⟨List.mem_cons_of_mem _ he, fun z => nd'.1 (by rw [h, ← z]; exact List.mem_map_of_mem he)⟩
    · rw [if_neg h] at he
      rcases List.mem_cons.mp he with rfl | he
      · exact .inr ⟨List.mem_cons_self, h⟩
      · rcases putM_mem nd'.2 e he with z | ⟨z, q⟩
        · exact .inl z
        · exact .inr ⟨List.mem_cons_of_mem _ z, q⟩
theorem putM_nd {α : Type} (f : List Nat × Wn → α) {k : List Nat} {y : Wn} : ∀ {m : SMap}, (m.map (·.1)).Nodup → (m.map f).Nodup → (∀ e ∈ m, e.1 ≠ k → f e ≠ f (k, y)) → ((putM m k y).map f).Nodup
  | [], _, _, _ => List.nodup_cons.mpr ⟨List.not_mem_nil, List.nodup_nil⟩
  | a :: r, nd, nf, h => by
    have nd' : a.1 ∉ r.map (·.1) ∧ (r.map (·.1)).Nodup := List.nodup_cons.mp nd
    have nf' : f a ∉ r.map f ∧ (r.map f).Nodup := List.nodup_cons.mp nf
    unfold putM
    by_cases q : a.1 = k
    · rw [if_pos q]
      refine List.nodup_cons.mpr ⟨fun z => ?_, nf'.2⟩
      obtain ⟨e, he, z⟩ := List.mem_map.mp z
      refine h e (List.mem_cons_of_mem _ he) (fun x => nd'.1 (by rw [q, ← x]; exact List.mem_map_of_mem he)) ?_
      rw [z, q]
    · rw [if_neg q]
      refine List.nodup_cons.mpr ⟨fun z => ?_, putM_nd f nd'.2 nf'.2 fun e he => h e (List.mem_cons_of_mem _ he)⟩
      obtain ⟨e, he, z⟩ := List.mem_map.mp z
      rcases putM_mem nd'.2 e he with w | ⟨w, _⟩
      · rw [w] at z
        exact h a List.mem_cons_self q z.symm
      · exact nf'.1 (by rw [← z]; exact List.mem_map_of_mem w)
theorem kvS_same {k : List Nat} {x y : Wn} (h : y.wr = x.wr) : ∀ {m : SMap}, getM m k = some x → kvS (putM m k y) = kvS m
  | [], e => by cases e
  | a :: r, e => by
    unfold getM at e
    unfold putM
    by_cases q : a.1 = k
    · rw [if_pos q] at e ⊢
      cases e
      show ((Sum.inr (SX.S a.1) : Key), V.ref y.wr) :: _ = _
      rw [h]
      rfl
    · rw [if_neg q] at e ⊢
      exact congrArg (List.cons ((Sum.inr (SX.S a.1) : Key), V.ref a.2.wr)) (kvS_same h e)
end SuX

namespace My
open PySem PySem.Spec PyProof.Rows L2 SuX
def top (i : Nat) : Stmt := PySem.Challenge.pw_recordyard_k15_clocks_streams_and_files.main.body.getD i (.Pass ⟨0, 0, 0, 0⟩)
def keptNames : List (List Nat) := [[97, 114, 103, 115], [97, 115, 99, 116, 105, 109, 101], [99, 114, 101, 97, 116, 101, 100], [108, 101, 118, 101, 108, 110, 97, 109, 101], [108, 101, 118, 101, 108, 110, 111], [109, 101, 115, 115, 97, 103, 101], [109, 115, 101, 99, 115], [109, 115, 103], [110, 97, 109, 101]]
abbrev s__wall : Stmt := top 0
abbrev s_BadLevel___init__ : Stmt := inClass (top 3) 0
abbrev s_BadExtra___init__ : Stmt := inClass (top 4) 0
abbrev s_BadMessage___init__ : Stmt := inClass (top 5) 0
abbrev s_BadField___init__ : Stmt := inClass (top 6) 0
abbrev s_BadMode___init__ : Stmt := inClass (top 7) 0
abbrev s_is_integer : Stmt := top 9
abbrev s_own_copy : Stmt := top 10
abbrev s_LogRecord___init__ : Stmt := inClass (top 13) 0
abbrev s_LogRecord_field : Stmt := inClass (top 13) 1
abbrev s_LogRecord_message : Stmt := inClass (top 13) 2
abbrev s_filled : Stmt := top 14
abbrev s_made_record : Stmt := top 15
abbrev s_Filter___init__ : Stmt := inClass (top 17) 0
abbrev s_Filter_passes : Stmt := inClass (top 17) 1
abbrev s_through_one : Stmt := top 18
abbrev s_through_all : Stmt := top 19
abbrev s_LevelTable___init__ : Stmt := inClass (top 25) 0
abbrev s_LevelTable_add_level_name : Stmt := inClass (top 25) 1
abbrev s_LevelTable_level_name : Stmt := inClass (top 25) 2
abbrev s_LevelTable_level_names : Stmt := inClass (top 25) 3
abbrev s_LevelTable_knows : Stmt := inClass (top 25) 4
abbrev s_LevelTable_number : Stmt := inClass (top 25) 5
abbrev s_LevelTable_stand_as : Stmt := inClass (top 25) 6
abbrev s_Handler___init__ : Stmt := inClass (top 27) 0
abbrev s_Handler_setLevel : Stmt := inClass (top 27) 1
abbrev s_Handler_setFormatter : Stmt := inClass (top 27) 2
abbrev s_Handler_setTerminator : Stmt := inClass (top 27) 3
abbrev s_Handler_setName : Stmt := inClass (top 27) 4
abbrev s_Handler_addFilter : Stmt := inClass (top 27) 5
abbrev s_Handler_removeFilter : Stmt := inClass (top 27) 6
abbrev s_Handler_filtered : Stmt := inClass (top 27) 7
abbrev s_Handler_handle : Stmt := inClass (top 27) 8
abbrev s_Handler_emit : Stmt := inClass (top 27) 9
abbrev s_Handler_formatted : Stmt := inClass (top 27) 10
abbrev s_Handler_line : Stmt := inClass (top 27) 11
abbrev s_Handler_flush : Stmt := inClass (top 27) 12
abbrev s_Handler_close : Stmt := inClass (top 27) 13
abbrev s_StreamHandler___init__ : Stmt := inClass (top 29) 0
abbrev s_StreamHandler_setStream : Stmt := inClass (top 29) 1
abbrev s_StreamHandler_emit : Stmt := inClass (top 29) 2
abbrev s_StreamHandler_setLevel : Stmt := inClass (top 29) 3
abbrev s_StreamHandler_setFormatter : Stmt := inClass (top 29) 4
abbrev s_StreamHandler_setTerminator : Stmt := inClass (top 29) 5
abbrev s_StreamHandler_setName : Stmt := inClass (top 29) 6
abbrev s_StreamHandler_addFilter : Stmt := inClass (top 29) 7
abbrev s_StreamHandler_removeFilter : Stmt := inClass (top 29) 8
abbrev s_StreamHandler_filtered : Stmt := inClass (top 29) 9
abbrev s_StreamHandler_handle : Stmt := inClass (top 29) 10
abbrev s_StreamHandler_formatted : Stmt := inClass (top 29) 11
abbrev s_StreamHandler_flush : Stmt := inClass (top 29) 12
abbrev s_StreamHandler_close : Stmt := inClass (top 29) 13
abbrev s_Roster___init__ : Stmt := inClass (top 31) 0
abbrev s_Roster_enter : Stmt := inClass (top 31) 1
abbrev s_Roster_lead : Stmt := inClass (top 31) 2
abbrev s_Roster_free : Stmt := inClass (top 31) 3
abbrev s_Roster_free_all : Stmt := inClass (top 31) 4
abbrev s_Roster_led_to : Stmt := inClass (top 31) 5
abbrev s_Roster_leading_names : Stmt := inClass (top 31) 6
abbrev s_Roster_fail : Stmt := inClass (top 31) 7
abbrev s_Roster_failures : Stmt := inClass (top 31) 8
abbrev s_Roster_keep_failures : Stmt := inClass (top 31) 9
abbrev s_Roster_close_all : Stmt := inClass (top 31) 10
abbrev s_Written___init__ : Stmt := inClass (top 33) 0
abbrev s_Written_grow : Stmt := inClass (top 33) 1
abbrev s_Written_whole : Stmt := inClass (top 33) 2
abbrev s_Store___init__ : Stmt := inClass (top 34) 0
abbrev s_Store_has : Stmt := inClass (top 34) 1
abbrev s_Store_put : Stmt := inClass (top 34) 2
abbrev s_Store_write : Stmt := inClass (top 34) 3
abbrev s_Store_take_away : Stmt := inClass (top 34) 4
abbrev s_Store_rename : Stmt := inClass (top 34) 5
abbrev s_Store_text : Stmt := inClass (top 34) 6
abbrev s_Store_length : Stmt := inClass (top 34) 7
abbrev s_Store_time_of : Stmt := inClass (top 34) 8
abbrev s_Store_stand_as : Stmt := inClass (top 34) 9
abbrev s_Store_all_names : Stmt := inClass (top 34) 10
abbrev s_Store_contents : Stmt := inClass (top 34) 11
abbrev s_Clock___init__ : Stmt := inClass (top 36) 0
abbrev s_Clock_now : Stmt := inClass (top 36) 1
abbrev s_Clock_advance : Stmt := inClass (top 36) 2
abbrev s_Logger___init__ : Stmt := inClass (top 38) 0
abbrev s_Logger_setLevel : Stmt := inClass (top 38) 1
abbrev s_Logger_setPropagate : Stmt := inClass (top 38) 2
abbrev s_Logger_setDisabled : Stmt := inClass (top 38) 3
abbrev s_Logger_getChild : Stmt := inClass (top 38) 4
abbrev s_Logger_getChildren : Stmt := inClass (top 38) 5
abbrev s_Logger_getEffectiveLevel : Stmt := inClass (top 38) 6
abbrev s_Logger_isEnabledFor : Stmt := inClass (top 38) 7
abbrev s_Logger_addHandler : Stmt := inClass (top 38) 8
abbrev s_Logger_removeHandler : Stmt := inClass (top 38) 9
abbrev s_Logger_hasHandlers : Stmt := inClass (top 38) 10
abbrev s_Logger_handlers_reached : Stmt := inClass (top 38) 11
abbrev s_Logger_addFilter : Stmt := inClass (top 38) 12
abbrev s_Logger_removeFilter : Stmt := inClass (top 38) 13
abbrev s_Logger_filtered : Stmt := inClass (top 38) 14
abbrev s_Logger_log : Stmt := inClass (top 38) 15
abbrev s_Logger_debug : Stmt := inClass (top 38) 16
abbrev s_Logger_info : Stmt := inClass (top 38) 17
abbrev s_Logger_warning : Stmt := inClass (top 38) 18
abbrev s_Logger_error : Stmt := inClass (top 38) 19
abbrev s_Logger_critical : Stmt := inClass (top 38) 20
abbrev s_Logger_handle : Stmt := inClass (top 38) 21
abbrev s_LoggerTree___init__ : Stmt := inClass (top 40) 0
abbrev s_LoggerTree_getLogger : Stmt := inClass (top 40) 1
abbrev s_LoggerTree_grow : Stmt := inClass (top 40) 2
abbrev s_LoggerTree_nearest : Stmt := inClass (top 40) 3
abbrev s_LoggerTree_made : Stmt := inClass (top 40) 4
abbrev s_LoggerTree_loggers : Stmt := inClass (top 40) 5
abbrev s_LoggerTree_roll : Stmt := inClass (top 40) 6
abbrev s_LoggerTree_disable : Stmt := inClass (top 40) 7
abbrev s_LoggerTree_bar : Stmt := inClass (top 40) 8
abbrev s_Yard___init__ : Stmt := inClass (top 42) 0
abbrev s_Yard_now : Stmt := inClass (top 42) 1
abbrev s_Yard_advance : Stmt := inClass (top 42) 2
abbrev s_Yard_text : Stmt := inClass (top 42) 3
abbrev s_Yard_streams : Stmt := inClass (top 42) 4
abbrev s_Yard_files : Stmt := inClass (top 42) 5
abbrev s_Yard_put_file : Stmt := inClass (top 42) 6
abbrev s_Yard_remove_file : Stmt := inClass (top 42) 7
abbrev s_Yard_add_level_name : Stmt := inClass (top 42) 8
abbrev s_Yard_level_name : Stmt := inClass (top 42) 9
abbrev s_Yard_level_names : Stmt := inClass (top 42) 10
abbrev s_Yard_make_record : Stmt := inClass (top 42) 11
abbrev s_Yard_getLogger : Stmt := inClass (top 42) 12
abbrev s_Yard_loggers : Stmt := inClass (top 42) 13
abbrev s_Yard_disable : Stmt := inClass (top 42) 14
abbrev s_Yard_bar : Stmt := inClass (top 42) 15
abbrev s_Yard_getHandlerByName : Stmt := inClass (top 42) 16
abbrev s_Yard_getHandlerNames : Stmt := inClass (top 42) 17
abbrev s_Yard_failures : Stmt := inClass (top 42) 18
abbrev s_Yard_shutdown : Stmt := inClass (top 42) 19
abbrev s_is_mode : Stmt := top 44
abbrev s_FileHandler___init__ : Stmt := inClass (top 45) 0
abbrev s_FileHandler_open_file : Stmt := inClass (top 45) 1
abbrev s_FileHandler_emit : Stmt := inClass (top 45) 2
abbrev s_FileHandler_close : Stmt := inClass (top 45) 3
abbrev s_FileHandler_setLevel : Stmt := inClass (top 45) 4
abbrev s_FileHandler_setFormatter : Stmt := inClass (top 45) 5
abbrev s_FileHandler_setTerminator : Stmt := inClass (top 45) 6
abbrev s_FileHandler_setName : Stmt := inClass (top 45) 7
abbrev s_FileHandler_addFilter : Stmt := inClass (top 45) 8
abbrev s_FileHandler_removeFilter : Stmt := inClass (top 45) 9
abbrev s_FileHandler_filtered : Stmt := inClass (top 45) 10
abbrev s_FileHandler_handle : Stmt := inClass (top 45) 11
abbrev s_FileHandler_formatted : Stmt := inClass (top 45) 12
abbrev s_FileHandler_flush : Stmt := inClass (top 45) 13
abbrev s__law_draw : Stmt := top 47
abbrev s__law_pick : Stmt := top 48
abbrev s__law_same : Stmt := top 49
abbrev s__law_yard_right : Stmt := top 50
abbrev s__law_yard_deed : Stmt := top 51
abbrev s_law : Stmt := top 52
theorem sc_is_integer : FnScope ["thing"] ["thing"] (defScope s_is_integer) := ⟨rfl, rfl, rfl, by decide +kernel, rfl, by decide +kernel, by decide +kernel⟩
theorem sc_own_copy : FnScope ["thing", "table", "key", "row", "item"] ["thing"] (defScope s_own_copy) := ⟨rfl, rfl, rfl, by decide +kernel, rfl, by decide +kernel, by decide +kernel⟩
theorem sc_LogRecord___init__ : FnScope ["self", "name", "levelno", "levelname", "msg", "given", "created", "extra"] ["self", "name", "levelno", "levelname", "msg", "given", "created", "extra"] (defScope s_LogRecord___init__) := ⟨rfl, rfl, rfl, by decide +kernel, rfl, by decide +kernel, by decide +kernel⟩
theorem sc_LogRecord_message : FnScope ["self"] ["self"] (defScope s_LogRecord_message) := ⟨rfl, rfl, rfl, by decide +kernel, rfl, by decide +kernel, by decide +kernel⟩
theorem sc_filled : FnScope ["msg", "given", "parts", "used", "at", "pair"] ["msg", "given"] (defScope s_filled) := ⟨rfl, rfl, rfl, by decide +kernel, rfl, by decide +kernel, by decide +kernel⟩
theorem sc_made_record : FnScope ["levels", "created", "name", "level", "msg", "args", "extra", "levelno", "told", "kept"] ["levels", "created", "name", "level", "msg", "args", "extra"] (defScope s_made_record) := ⟨rfl, rfl, rfl, by decide +kernel, rfl, by decide +kernel, by decide +kernel⟩
theorem sc_through_one : FnScope ["one", "record", "told"] ["one", "record"] (defScope s_through_one) := ⟨rfl, rfl, rfl, by decide +kernel, rfl, by decide +kernel, by decide +kernel⟩
theorem sc_through_all : FnScope ["filters", "record", "one"] ["filters", "record"] (defScope s_through_all) := ⟨rfl, rfl, rfl, by decide +kernel, rfl, by decide +kernel, by decide +kernel⟩
theorem sc_LevelTable___init__ : FnScope ["self"] ["self"] (defScope s_LevelTable___init__) := ⟨rfl, rfl, rfl, by decide +kernel, rfl, by decide +kernel, by decide +kernel⟩
theorem sc_LevelTable_level_name : FnScope ["self", "level"] ["self", "level"] (defScope s_LevelTable_level_name) := ⟨rfl, rfl, rfl, by decide +kernel, rfl, by decide +kernel, by decide +kernel⟩
theorem sc_LevelTable_knows : FnScope ["self", "level"] ["self", "level"] (defScope s_LevelTable_knows) := ⟨rfl, rfl, rfl, by decide +kernel, rfl, by decide +kernel, by decide +kernel⟩
theorem sc_LevelTable_number : FnScope ["self", "level"] ["self", "level"] (defScope s_LevelTable_number) := ⟨rfl, rfl, rfl, by decide +kernel, rfl, by decide +kernel, by decide +kernel⟩
theorem sc_Handler___init__ : FnScope ["self", "yard"] ["self", "yard"] (defScope s_Handler___init__) := ⟨rfl, rfl, rfl, by decide +kernel, rfl, by decide +kernel, by decide +kernel⟩
theorem sc_Handler_setTerminator : FnScope ["self", "text"] ["self", "text"] (defScope s_Handler_setTerminator) := ⟨rfl, rfl, rfl, by decide +kernel, rfl, by decide +kernel, by decide +kernel⟩
theorem sc_Handler_filtered : FnScope ["self", "record"] ["self", "record"] (defScope s_Handler_filtered) := ⟨rfl, rfl, rfl, by decide +kernel, rfl, by decide +kernel, by decide +kernel⟩
theorem sc_Handler_handle : FnScope ["self", "record", "left"] ["self", "record"] (defScope s_Handler_handle) := ⟨rfl, rfl, rfl, by decide +kernel, rfl, by decide +kernel, by decide +kernel⟩
theorem sc_Handler_formatted : FnScope ["self", "record"] ["self", "record"] (defScope s_Handler_formatted) := ⟨rfl, rfl, rfl, by decide +kernel, rfl, by decide +kernel, by decide +kernel⟩
theorem sc_Handler_line : FnScope ["self", "record"] ["self", "record"] (defScope s_Handler_line) := ⟨rfl, rfl, rfl, by decide +kernel, rfl, by decide +kernel, by decide +kernel⟩
theorem sc_StreamHandler___init__ : NdefX.NScope ["self", "yard", "stream", "__class__"] ["self", "yard", "stream"] ["__class__"] (defScope s_StreamHandler___init__) := NdefX.nscope_by (by decide +kernel)
theorem sc_StreamHandler_emit : FnScope ["self", "record"] ["self", "record"] (defScope s_StreamHandler_emit) := ⟨rfl, rfl, rfl, by decide +kernel, rfl, by decide +kernel, by decide +kernel⟩
theorem sc_StreamHandler_setTerminator : NdefX.NScope ["self", "text", "__class__"] ["self", "text"] ["__class__"] (defScope s_StreamHandler_setTerminator) := NdefX.nscope_by (by decide +kernel)
theorem sc_StreamHandler_filtered : NdefX.NScope ["self", "record", "__class__"] ["self", "record"] ["__class__"] (defScope s_StreamHandler_filtered) := NdefX.nscope_by (by decide +kernel)
theorem sc_StreamHandler_handle : NdefX.NScope ["self", "record", "__class__"] ["self", "record"] ["__class__"] (defScope s_StreamHandler_handle) := NdefX.nscope_by (by decide +kernel)
theorem sc_StreamHandler_formatted : NdefX.NScope ["self", "record", "__class__"] ["self", "record"] ["__class__"] (defScope s_StreamHandler_formatted) := NdefX.nscope_by (by decide +kernel)
theorem sc_Roster___init__ : FnScope ["self"] ["self"] (defScope s_Roster___init__) := ⟨rfl, rfl, rfl, by decide +kernel, rfl, by decide +kernel, by decide +kernel⟩
theorem sc_Roster_enter : FnScope ["self", "handler"] ["self", "handler"] (defScope s_Roster_enter) := ⟨rfl, rfl, rfl, by decide +kernel, rfl, by decide +kernel, by decide +kernel⟩
theorem sc_Written___init__ : FnScope ["self", "text", "time"] ["self", "text", "time"] (defScope s_Written___init__) := ⟨rfl, rfl, rfl, by decide +kernel, rfl, by decide +kernel, by decide +kernel⟩
theorem sc_Written_grow : FnScope ["self", "text", "time"] ["self", "text", "time"] (defScope s_Written_grow) := ⟨rfl, rfl, rfl, by decide +kernel, rfl, by decide +kernel, by decide +kernel⟩
theorem sc_Written_whole : FnScope ["self", "text"] ["self"] (defScope s_Written_whole) := ⟨rfl, rfl, rfl, by decide +kernel, rfl, by decide +kernel, by decide +kernel⟩
theorem sc_Store___init__ : FnScope ["self", "clock"] ["self", "clock"] (defScope s_Store___init__) := ⟨rfl, rfl, rfl, by decide +kernel, rfl, by decide +kernel, by decide +kernel⟩
theorem sc_Store_has : FnScope ["self", "name"] ["self", "name"] (defScope s_Store_has) := ⟨rfl, rfl, rfl, by decide +kernel, rfl, by decide +kernel, by decide +kernel⟩
theorem sc_Store_put : FnScope ["self", "name", "text"] ["self", "name", "text"] (defScope s_Store_put) := ⟨rfl, rfl, rfl, by decide +kernel, rfl, by decide +kernel, by decide +kernel⟩
theorem sc_Store_write : FnScope ["self", "name", "text"] ["self", "name", "text"] (defScope s_Store_write) := ⟨rfl, rfl, rfl, by decide +kernel, rfl, by decide +kernel, by decide +kernel⟩
theorem sc_Store_take_away : FnScope ["self", "name"] ["self", "name"] (defScope s_Store_take_away) := ⟨rfl, rfl, rfl, by decide +kernel, rfl, by decide +kernel, by decide +kernel⟩
theorem sc_Store_text : FnScope ["self", "name"] ["self", "name"] (defScope s_Store_text) := ⟨rfl, rfl, rfl, by decide +kernel, rfl, by decide +kernel, by decide +kernel⟩
theorem sc_Store_length : FnScope ["self", "name"] ["self", "name"] (defScope s_Store_length) := ⟨rfl, rfl, rfl, by decide +kernel, rfl, by decide +kernel, by decide +kernel⟩
theorem sc_Store_all_names : FnScope ["self"] ["self"] (defScope s_Store_all_names) := ⟨rfl, rfl, rfl, by decide +kernel, rfl, by decide +kernel, by decide +kernel⟩
theorem sc_Store_contents : FnScope ["self", "name"] ["self"] (defScope s_Store_contents) := ⟨rfl, rfl, rfl, by decide +kernel, rfl, by decide +kernel, by decide +kernel⟩
theorem sc_Clock___init__ : FnScope ["self", "shown"] ["self", "shown"] (defScope s_Clock___init__) := ⟨rfl, rfl, rfl, by decide +kernel, rfl, by decide +kernel, by decide +kernel⟩
theorem sc_Clock_now : FnScope ["self"] ["self"] (defScope s_Clock_now) := ⟨rfl, rfl, rfl, by decide +kernel, rfl, by decide +kernel, by decide +kernel⟩
theorem sc_Clock_advance : FnScope ["self", "milliseconds"] ["self", "milliseconds"] (defScope s_Clock_advance) := ⟨rfl, rfl, rfl, by decide +kernel, rfl, by decide +kernel, by decide +kernel⟩
theorem sc_Logger___init__ : FnScope ["self", "tree", "name", "level", "parent"] ["self", "tree", "name", "level", "parent"] (defScope s_Logger___init__) := ⟨rfl, rfl, rfl, by decide +kernel, rfl, by decide +kernel, by decide +kernel⟩
theorem sc_LoggerTree___init__ : FnScope ["self", "yard", "levels", "clock", "last_resort"] ["self", "yard", "levels", "clock", "last_resort"] (defScope s_LoggerTree___init__) := ⟨rfl, rfl, rfl, by decide +kernel, rfl, by decide +kernel, by decide +kernel⟩
theorem sc_Yard___init__ : FnScope ["self", "now"] ["self", "now"] (defScope s_Yard___init__) := ⟨rfl, rfl, rfl, by decide +kernel, rfl, by decide +kernel, by decide +kernel⟩
theorem sc_Yard_now : FnScope ["self"] ["self"] (defScope s_Yard_now) := ⟨rfl, rfl, rfl, by decide +kernel, rfl, by decide +kernel, by decide +kernel⟩
theorem sc_Yard_advance : FnScope ["self", "milliseconds"] ["self", "milliseconds"] (defScope s_Yard_advance) := ⟨rfl, rfl, rfl, by decide +kernel, rfl, by decide +kernel, by decide +kernel⟩
theorem sc_Yard_text : FnScope ["self", "stream"] ["self", "stream"] (defScope s_Yard_text) := ⟨rfl, rfl, rfl, by decide +kernel, rfl, by decide +kernel, by decide +kernel⟩
theorem sc_Yard_streams : FnScope ["self", "name"] ["self"] (defScope s_Yard_streams) := ⟨rfl, rfl, rfl, by decide +kernel, rfl, by decide +kernel, by decide +kernel⟩
theorem sc_Yard_files : FnScope ["self"] ["self"] (defScope s_Yard_files) := ⟨rfl, rfl, rfl, by decide +kernel, rfl, by decide +kernel, by decide +kernel⟩
theorem sc_Yard_put_file : FnScope ["self", "name", "text"] ["self", "name", "text"] (defScope s_Yard_put_file) := ⟨rfl, rfl, rfl, by decide +kernel, rfl, by decide +kernel, by decide +kernel⟩
theorem sc_Yard_remove_file : FnScope ["self", "name"] ["self", "name"] (defScope s_Yard_remove_file) := ⟨rfl, rfl, rfl, by decide +kernel, rfl, by decide +kernel, by decide +kernel⟩
theorem sc_Yard_make_record : FnScope ["self", "name", "level", "msg", "args", "extra"] ["self", "name", "level", "msg", "args", "extra"] (defScope s_Yard_make_record) := ⟨rfl, rfl, rfl, by decide +kernel, rfl, by decide +kernel, by decide +kernel⟩
theorem sc_is_mode : FnScope ["thing"] ["thing"] (defScope s_is_mode) := ⟨rfl, rfl, rfl, by decide +kernel, rfl, by decide +kernel, by decide +kernel⟩
theorem sc_FileHandler___init__ : NdefX.NScope ["self", "yard", "filename", "mode", "delay", "__class__"] ["self", "yard", "filename", "mode", "delay"] ["__class__"] (defScope s_FileHandler___init__) := NdefX.nscope_by (by decide +kernel)
theorem sc_FileHandler_open_file : FnScope ["self"] ["self"] (defScope s_FileHandler_open_file) := ⟨rfl, rfl, rfl, by decide +kernel, rfl, by decide +kernel, by decide +kernel⟩
theorem sc_FileHandler_emit : FnScope ["self", "record"] ["self", "record"] (defScope s_FileHandler_emit) := ⟨rfl, rfl, rfl, by decide +kernel, rfl, by decide +kernel, by decide +kernel⟩
theorem sc_FileHandler_setTerminator : NdefX.NScope ["self", "text", "__class__"] ["self", "text"] ["__class__"] (defScope s_FileHandler_setTerminator) := NdefX.nscope_by (by decide +kernel)
theorem sc_FileHandler_filtered : NdefX.NScope ["self", "record", "__class__"] ["self", "record"] ["__class__"] (defScope s_FileHandler_filtered) := NdefX.nscope_by (by decide +kernel)
theorem sc_FileHandler_handle : NdefX.NScope ["self", "record", "__class__"] ["self", "record"] ["__class__"] (defScope s_FileHandler_handle) := NdefX.nscope_by (by decide +kernel)
theorem sc_FileHandler_formatted : NdefX.NScope ["self", "record", "__class__"] ["self", "record"] ["__class__"] (defScope s_FileHandler_formatted) := NdefX.nscope_by (by decide +kernel)
theorem sc__law_draw : FnScope ["_law_stream", "_law_many", "_law_digit", "_law_mixed", "_law_last"] ["_law_stream", "_law_many"] (defScope s__law_draw) := ⟨rfl, rfl, rfl, by decide +kernel, rfl, by decide +kernel, by decide +kernel⟩
theorem sc__law_pick : FnScope ["_law_stream", "_law_some"] ["_law_stream", "_law_some"] (defScope s__law_pick) := ⟨rfl, rfl, rfl, by decide +kernel, rfl, by decide +kernel, by decide +kernel⟩
theorem sc__law_same : FnScope ["_law_found", "_law_due", "_law_key", "_law_one", "_law_other"] ["_law_found", "_law_due"] (defScope s__law_same) := ⟨rfl, rfl, rfl, by decide +kernel, rfl, by decide +kernel, by decide +kernel⟩
theorem sc__law_yard_right : FnScope ["_law_yard", "_law_row", "_law_streams", "_law_some", "_law_time", "_law_found", "_law_keys", "_law_shown", "_law_key"] ["_law_yard", "_law_row"] (defScope s__law_yard_right) := ⟨rfl, rfl, rfl, by decide +kernel, rfl, by decide +kernel, by decide +kernel⟩
theorem sc__law_yard_deed : FnScope ["_law_stream", "_law_yard", "_law_row", "_law_handlers", "_law_way", "_law_key", "_law_words", "_law_more", "_law_at", "_law_part"] ["_law_stream", "_law_yard", "_law_row", "_law_handlers"] (defScope s__law_yard_deed) := ⟨rfl, rfl, rfl, by decide +kernel, rfl, by decide +kernel, by decide +kernel⟩
theorem sc_law : FnScope ["_law_script", "_law_stream", "_law_begin", "_law_yards", "_law_rows", "_law_handlers", "_law_at", "_law_yard", "_law_turn", "_law_key", "_law_k"] ["_law_script"] (defScope s_law) := ⟨rfl, rfl, rfl, by decide +kernel, rfl, by decide +kernel, by decide +kernel⟩
structure Dfn (K : PySem.W.Frag) (mg : Str → Option Value) (x qual : Str) (st : Stmt) (ps : List Str) (f : Addr) (fd : FuncData) : Prop where
  F : Fun K x qual st f fd
  g : mg x = some (.ref f)
  b : Binds K fd ps []
structure DfnD (K : PySem.W.Frag) (mg : Str → Option Value) (x qual : Str) (st : Stmt) (ps : List Str) (dvs : List V) (f : Addr) (fd : FuncData) : Prop where
  F : FunD K x qual (defArgs st) (defBody st) (defScope st) dvs [] f fd
  g : mg x = some (.ref f)
  b : Binds K fd ps []
structure Blt (mg : Str → Option Value) : Prop where
  n_all : mg "all" = none
  n_bool : mg "bool" = none
  n_dict : mg "dict" = none
  n_int : mg "int" = none
  n_isinstance : mg "isinstance" = none
  n_len : mg "len" = none
  n_list : mg "list" = none
  n_range : mg "range" = none
  n_sorted : mg "sorted" = none
  n_str : mg "str" = none
  n_super : mg "super" = none
  n_tuple : mg "tuple" = none
  n_zip : mg "zip" = none
structure Txt (K : PySem.W.Frag) (mg : Str → Option Value) where
  B : Blt mg
  f__wall : Addr
  fd__wall : FuncData
  D__wall : Dfn K mg "_wall" "_wall" s__wall ["k"] f__wall fd__wall
  f_is_integer : Addr
  fd_is_integer : FuncData
  D_is_integer : Dfn K mg "is_integer" "is_integer" s_is_integer ["thing"] f_is_integer fd_is_integer
  f_own_copy : Addr
  fd_own_copy : FuncData
  D_own_copy : Dfn K mg "own_copy" "own_copy" s_own_copy ["thing"] f_own_copy fd_own_copy
  f_filled : Addr
  fd_filled : FuncData
  D_filled : Dfn K mg "filled" "filled" s_filled ["msg", "given"] f_filled fd_filled
  aGT_made_record : Addr
  f_made_record : Addr
  fd_made_record : FuncData
  D_made_record : DfnD K mg "made_record" "made_record" s_made_record ["levels", "created", "name", "level", "msg", "args", "extra"] [.ref aGT_made_record, .non] f_made_record fd_made_record
  f_through_one : Addr
  fd_through_one : FuncData
  D_through_one : Dfn K mg "through_one" "through_one" s_through_one ["one", "record"] f_through_one fd_through_one
  f_through_all : Addr
  fd_through_all : FuncData
  D_through_all : Dfn K mg "through_all" "through_all" s_through_all ["filters", "record"] f_through_all fd_through_all
  f_is_mode : Addr
  fd_is_mode : FuncData
  D_is_mode : Dfn K mg "is_mode" "is_mode" s_is_mode ["thing"] f_is_mode fd_is_mode
  f__law_draw : Addr
  fd__law_draw : FuncData
  D__law_draw : Dfn K mg "_law_draw" "_law_draw" s__law_draw ["_law_stream", "_law_many"] f__law_draw fd__law_draw
  f__law_pick : Addr
  fd__law_pick : FuncData
  D__law_pick : Dfn K mg "_law_pick" "_law_pick" s__law_pick ["_law_stream", "_law_some"] f__law_pick fd__law_pick
  f__law_same : Addr
  fd__law_same : FuncData
  D__law_same : Dfn K mg "_law_same" "_law_same" s__law_same ["_law_found", "_law_due"] f__law_same fd__law_same
  f__law_yard_right : Addr
  fd__law_yard_right : FuncData
  D__law_yard_right : Dfn K mg "_law_yard_right" "_law_yard_right" s__law_yard_right ["_law_yard", "_law_row"] f__law_yard_right fd__law_yard_right
  f__law_yard_deed : Addr
  fd__law_yard_deed : FuncData
  D__law_yard_deed : Dfn K mg "_law_yard_deed" "_law_yard_deed" s__law_yard_deed ["_law_stream", "_law_yard", "_law_row", "_law_handlers"] f__law_yard_deed fd__law_yard_deed
  f_law : Addr
  fd_law : FuncData
  D_law : Dfn K mg "law" "law" s_law ["_law_script"] f_law fd_law
  file : Str
  C_Clock : Addr
  g_Clock : mg "Clock" = some (.ref C_Clock)
  o_Clock : OC K C_Clock ["shown"]
  a_Clock_init : Addr
  fd_Clock_init : FuncData
  F_Clock_init : Fun K "__init__" "Clock.__init__" s_Clock___init__ a_Clock_init fd_Clock_init
  M_Clock : Mk K C_Clock a_Clock_init
  b_Clock_init : Binds K fd_Clock_init ["self", "shown"] []
  a_Clock_now : Addr
  fd_Clock_now : FuncData
  F_Clock_now : Fun K "now" "Clock.now" s_Clock_now a_Clock_now fd_Clock_now
  Me_Clock_now : Meth K C_Clock "now" a_Clock_now
  b_Clock_now : Binds K fd_Clock_now ["self"] []
  a_Clock_advance : Addr
  fd_Clock_advance : FuncData
  F_Clock_advance : Fun K "advance" "Clock.advance" s_Clock_advance a_Clock_advance fd_Clock_advance
  Me_Clock_advance : Meth K C_Clock "advance" a_Clock_advance
  b_Clock_advance : Binds K fd_Clock_advance ["self", "milliseconds"] []
  C_LevelTable : Addr
  g_LevelTable : mg "LevelTable" = some (.ref C_LevelTable)
  o_LevelTable : OC K C_LevelTable ["names", "numbers"]
  a_LevelTable_init : Addr
  fd_LevelTable_init : FuncData
  F_LevelTable_init : Fun K "__init__" "LevelTable.__init__" s_LevelTable___init__ a_LevelTable_init fd_LevelTable_init
  M_LevelTable : Mk K C_LevelTable a_LevelTable_init
  b_LevelTable_init : Binds K fd_LevelTable_init ["self"] []
  a_LevelTable_level_name : Addr
  fd_LevelTable_level_name : FuncData
  F_LevelTable_level_name : Fun K "level_name" "LevelTable.level_name" s_LevelTable_level_name a_LevelTable_level_name fd_LevelTable_level_name
  Me_LevelTable_level_name : Meth K C_LevelTable "level_name" a_LevelTable_level_name
  b_LevelTable_level_name : Binds K fd_LevelTable_level_name ["self", "level"] []
  a_LevelTable_number : Addr
  fd_LevelTable_number : FuncData
  F_LevelTable_number : Fun K "number" "LevelTable.number" s_LevelTable_number a_LevelTable_number fd_LevelTable_number
  Me_LevelTable_number : Meth K C_LevelTable "number" a_LevelTable_number
  b_LevelTable_number : Binds K fd_LevelTable_number ["self", "level"] []
  a_LevelTable_knows : Addr
  fd_LevelTable_knows : FuncData
  F_LevelTable_knows : Fun K "knows" "LevelTable.knows" s_LevelTable_knows a_LevelTable_knows fd_LevelTable_knows
  Me_LevelTable_knows : Meth K C_LevelTable "knows" a_LevelTable_knows
  b_LevelTable_knows : Binds K fd_LevelTable_knows ["self", "level"] []
  C_Store : Addr
  g_Store : mg "Store" = some (.ref C_Store)
  o_Store : OC K C_Store ["clock", "kept"]
  a_Store_init : Addr
  fd_Store_init : FuncData
  F_Store_init : Fun K "__init__" "Store.__init__" s_Store___init__ a_Store_init fd_Store_init
  M_Store : Mk K C_Store a_Store_init
  b_Store_init : Binds K fd_Store_init ["self", "clock"] []
  a_Store_has : Addr
  fd_Store_has : FuncData
  F_Store_has : Fun K "has" "Store.has" s_Store_has a_Store_has fd_Store_has
  Me_Store_has : Meth K C_Store "has" a_Store_has
  b_Store_has : Binds K fd_Store_has ["self", "name"] []
  a_Store_put : Addr
  fd_Store_put : FuncData
  F_Store_put : Fun K "put" "Store.put" s_Store_put a_Store_put fd_Store_put
  Me_Store_put : Meth K C_Store "put" a_Store_put
  b_Store_put : Binds K fd_Store_put ["self", "name", "text"] []
  a_Store_write : Addr
  fd_Store_write : FuncData
  F_Store_write : Fun K "write" "Store.write" s_Store_write a_Store_write fd_Store_write
  Me_Store_write : Meth K C_Store "write" a_Store_write
  b_Store_write : Binds K fd_Store_write ["self", "name", "text"] []
  a_Store_take_away : Addr
  fd_Store_take_away : FuncData
  F_Store_take_away : Fun K "take_away" "Store.take_away" s_Store_take_away a_Store_take_away fd_Store_take_away
  Me_Store_take_away : Meth K C_Store "take_away" a_Store_take_away
  b_Store_take_away : Binds K fd_Store_take_away ["self", "name"] []
  a_Store_text : Addr
  fd_Store_text : FuncData
  F_Store_text : Fun K "text" "Store.text" s_Store_text a_Store_text fd_Store_text
  Me_Store_text : Meth K C_Store "text" a_Store_text
  b_Store_text : Binds K fd_Store_text ["self", "name"] []
  a_Store_length : Addr
  fd_Store_length : FuncData
  F_Store_length : Fun K "length" "Store.length" s_Store_length a_Store_length fd_Store_length
  Me_Store_length : Meth K C_Store "length" a_Store_length
  b_Store_length : Binds K fd_Store_length ["self", "name"] []
  a_Store_all_names : Addr
  fd_Store_all_names : FuncData
  F_Store_all_names : Fun K "all_names" "Store.all_names" s_Store_all_names a_Store_all_names fd_Store_all_names
  Me_Store_all_names : Meth K C_Store "all_names" a_Store_all_names
  b_Store_all_names : Binds K fd_Store_all_names ["self"] []
  a_Store_contents : Addr
  fd_Store_contents : FuncData
  F_Store_contents : Fun K "contents" "Store.contents" s_Store_contents a_Store_contents fd_Store_contents
  Me_Store_contents : Meth K C_Store "contents" a_Store_contents
  b_Store_contents : Binds K fd_Store_contents ["self"] []
  C_Written : Addr
  g_Written : mg "Written" = some (.ref C_Written)
  o_Written : OC K C_Written ["parts", "size", "time"]
  a_Written_init : Addr
  fd_Written_init : FuncData
  F_Written_init : Fun K "__init__" "Written.__init__" s_Written___init__ a_Written_init fd_Written_init
  M_Written : Mk K C_Written a_Written_init
  b_Written_init : Binds K fd_Written_init ["self", "text", "time"] []
  a_Written_grow : Addr
  fd_Written_grow : FuncData
  F_Written_grow : Fun K "grow" "Written.grow" s_Written_grow a_Written_grow fd_Written_grow
  Me_Written_grow : Meth K C_Written "grow" a_Written_grow
  b_Written_grow : Binds K fd_Written_grow ["self", "text", "time"] []
  a_Written_whole : Addr
  fd_Written_whole : FuncData
  F_Written_whole : Fun K "whole" "Written.whole" s_Written_whole a_Written_whole fd_Written_whole
  Me_Written_whole : Meth K C_Written "whole" a_Written_whole
  b_Written_whole : Binds K fd_Written_whole ["self"] []
  C_Roster : Addr
  g_Roster : mg "Roster" = some (.ref C_Roster)
  o_Roster : OC K C_Roster ["handlers", "leading", "failed"]
  a_Roster_init : Addr
  fd_Roster_init : FuncData
  F_Roster_init : Fun K "__init__" "Roster.__init__" s_Roster___init__ a_Roster_init fd_Roster_init
  M_Roster : Mk K C_Roster a_Roster_init
  b_Roster_init : Binds K fd_Roster_init ["self"] []
  a_Roster_enter : Addr
  fd_Roster_enter : FuncData
  F_Roster_enter : Fun K "enter" "Roster.enter" s_Roster_enter a_Roster_enter fd_Roster_enter
  Me_Roster_enter : Meth K C_Roster "enter" a_Roster_enter
  b_Roster_enter : Binds K fd_Roster_enter ["self", "handler"] []
  C_Handler : Addr
  g_Handler : mg "Handler" = some (.ref C_Handler)
  o_Handler : OC K C_Handler []
  a_Handler_init : Addr
  fd_Handler_init : FuncData
  F_Handler_init : Fun K "__init__" "Handler.__init__" s_Handler___init__ a_Handler_init fd_Handler_init
  M_Handler : Mk K C_Handler a_Handler_init
  b_Handler_init : Binds K fd_Handler_init ["self", "yard"] []
  a_Handler_setTerminator : Addr
  fd_Handler_setTerminator : FuncData
  F_Handler_setTerminator : Fun K "setTerminator" "Handler.setTerminator" s_Handler_setTerminator a_Handler_setTerminator fd_Handler_setTerminator
  Me_Handler_setTerminator : Meth K C_Handler "setTerminator" a_Handler_setTerminator
  b_Handler_setTerminator : Binds K fd_Handler_setTerminator ["self", "text"] []
  a_Handler_filtered : Addr
  fd_Handler_filtered : FuncData
  F_Handler_filtered : Fun K "filtered" "Handler.filtered" s_Handler_filtered a_Handler_filtered fd_Handler_filtered
  Me_Handler_filtered : Meth K C_Handler "filtered" a_Handler_filtered
  b_Handler_filtered : Binds K fd_Handler_filtered ["self", "record"] []
  a_Handler_handle : Addr
  fd_Handler_handle : FuncData
  F_Handler_handle : Fun K "handle" "Handler.handle" s_Handler_handle a_Handler_handle fd_Handler_handle
  Me_Handler_handle : Meth K C_Handler "handle" a_Handler_handle
  b_Handler_handle : Binds K fd_Handler_handle ["self", "record"] []
  a_Handler_formatted : Addr
  fd_Handler_formatted : FuncData
  F_Handler_formatted : Fun K "formatted" "Handler.formatted" s_Handler_formatted a_Handler_formatted fd_Handler_formatted
  Me_Handler_formatted : Meth K C_Handler "formatted" a_Handler_formatted
  b_Handler_formatted : Binds K fd_Handler_formatted ["self", "record"] []
  a_Handler_line : Addr
  fd_Handler_line : FuncData
  F_Handler_line : Fun K "line" "Handler.line" s_Handler_line a_Handler_line fd_Handler_line
  Me_Handler_line : Meth K C_Handler "line" a_Handler_line
  b_Handler_line : Binds K fd_Handler_line ["self", "record"] []
  C_Logger : Addr
  g_Logger : mg "Logger" = some (.ref C_Logger)
  o_Logger : OC K C_Logger ["tree", "yard", "name", "level", "propagate", "disabled", "handlers", "filters", "parent"]
  a_Logger_init : Addr
  fd_Logger_init : FuncData
  F_Logger_init : Fun K "__init__" "Logger.__init__" s_Logger___init__ a_Logger_init fd_Logger_init
  M_Logger : Mk K C_Logger a_Logger_init
  b_Logger_init : Binds K fd_Logger_init ["self", "tree", "name", "level", "parent"] []
  C_LoggerTree : Addr
  g_LoggerTree : mg "LoggerTree" = some (.ref C_LoggerTree)
  o_LoggerTree : OC K C_LoggerTree ["yard", "levels", "clock", "last_resort", "barred", "named", "root"]
  a_LoggerTree_init : Addr
  fd_LoggerTree_init : FuncData
  F_LoggerTree_init : Fun K "__init__" "LoggerTree.__init__" s_LoggerTree___init__ a_LoggerTree_init fd_LoggerTree_init
  M_LoggerTree : Mk K C_LoggerTree a_LoggerTree_init
  b_LoggerTree_init : Binds K fd_LoggerTree_init ["self", "yard", "levels", "clock", "last_resort"] []
  C_StreamHandler : Addr
  g_StreamHandler : mg "StreamHandler" = some (.ref C_StreamHandler)
  o_StreamHandler : OC K C_StreamHandler ["yard", "level", "formatter", "filters", "name", "terminator", "closed", "stream"]
  a_StreamHandler_init : Addr
  fd_StreamHandler_init : FuncData
  F_StreamHandler_init : SupF K file "__init__" "StreamHandler.__init__" s_StreamHandler___init__ a_StreamHandler_init fd_StreamHandler_init C_StreamHandler
  M_StreamHandler : Mk K C_StreamHandler a_StreamHandler_init
  a_StreamHandler_setTerminator : Addr
  fd_StreamHandler_setTerminator : FuncData
  F_StreamHandler_setTerminator : SupF K file "setTerminator" "StreamHandler.setTerminator" s_StreamHandler_setTerminator a_StreamHandler_setTerminator fd_StreamHandler_setTerminator C_StreamHandler
  Me_StreamHandler_setTerminator : Meth K C_StreamHandler "setTerminator" a_StreamHandler_setTerminator
  b_StreamHandler_setTerminator : Binds K fd_StreamHandler_setTerminator ["self", "text"] []
  a_StreamHandler_filtered : Addr
  fd_StreamHandler_filtered : FuncData
  F_StreamHandler_filtered : SupF K file "filtered" "StreamHandler.filtered" s_StreamHandler_filtered a_StreamHandler_filtered fd_StreamHandler_filtered C_StreamHandler
  Me_StreamHandler_filtered : Meth K C_StreamHandler "filtered" a_StreamHandler_filtered
  b_StreamHandler_filtered : Binds K fd_StreamHandler_filtered ["self", "record"] []
  a_StreamHandler_handle : Addr
  fd_StreamHandler_handle : FuncData
  F_StreamHandler_handle : SupF K file "handle" "StreamHandler.handle" s_StreamHandler_handle a_StreamHandler_handle fd_StreamHandler_handle C_StreamHandler
  Me_StreamHandler_handle : Meth K C_StreamHandler "handle" a_StreamHandler_handle
  b_StreamHandler_handle : Binds K fd_StreamHandler_handle ["self", "record"] []
  a_StreamHandler_formatted : Addr
  fd_StreamHandler_formatted : FuncData
  F_StreamHandler_formatted : SupF K file "formatted" "StreamHandler.formatted" s_StreamHandler_formatted a_StreamHandler_formatted fd_StreamHandler_formatted C_StreamHandler
  Me_StreamHandler_formatted : Meth K C_StreamHandler "formatted" a_StreamHandler_formatted
  b_StreamHandler_formatted : Binds K fd_StreamHandler_formatted ["self", "record"] []
  a_StreamHandler_emit : Addr
  fd_StreamHandler_emit : FuncData
  F_StreamHandler_emit : Fun K "emit" "StreamHandler.emit" s_StreamHandler_emit a_StreamHandler_emit fd_StreamHandler_emit
  Me_StreamHandler_emit : Meth K C_StreamHandler "emit" a_StreamHandler_emit
  b_StreamHandler_emit : Binds K fd_StreamHandler_emit ["self", "record"] []
  C_FileHandler : Addr
  g_FileHandler : mg "FileHandler" = some (.ref C_FileHandler)
  o_FileHandler : OC K C_FileHandler ["yard", "level", "formatter", "filters", "name", "terminator", "closed", "filename", "mode", "delay", "opened"]
  a_FileHandler_init : Addr
  fd_FileHandler_init : FuncData
  F_FileHandler_init : SupF K file "__init__" "FileHandler.__init__" s_FileHandler___init__ a_FileHandler_init fd_FileHandler_init C_FileHandler
  M_FileHandler : Mk K C_FileHandler a_FileHandler_init
  b_FileHandler_init : Binds K fd_FileHandler_init ["self", "yard", "filename", "mode", "delay"] []
  a_FileHandler_open_file : Addr
  fd_FileHandler_open_file : FuncData
  F_FileHandler_open_file : Fun K "open_file" "FileHandler.open_file" s_FileHandler_open_file a_FileHandler_open_file fd_FileHandler_open_file
  Me_FileHandler_open_file : Meth K C_FileHandler "open_file" a_FileHandler_open_file
  b_FileHandler_open_file : Binds K fd_FileHandler_open_file ["self"] []
  a_FileHandler_setTerminator : Addr
  fd_FileHandler_setTerminator : FuncData
  F_FileHandler_setTerminator : SupF K file "setTerminator" "FileHandler.setTerminator" s_FileHandler_setTerminator a_FileHandler_setTerminator fd_FileHandler_setTerminator C_FileHandler
  Me_FileHandler_setTerminator : Meth K C_FileHandler "setTerminator" a_FileHandler_setTerminator
  b_FileHandler_setTerminator : Binds K fd_FileHandler_setTerminator ["self", "text"] []
  a_FileHandler_filtered : Addr
  fd_FileHandler_filtered : FuncData
  F_FileHandler_filtered : SupF K file "filtered" "FileHandler.filtered" s_FileHandler_filtered a_FileHandler_filtered fd_FileHandler_filtered C_FileHandler
  Me_FileHandler_filtered : Meth K C_FileHandler "filtered" a_FileHandler_filtered
  b_FileHandler_filtered : Binds K fd_FileHandler_filtered ["self", "record"] []
  a_FileHandler_handle : Addr
  fd_FileHandler_handle : FuncData
  F_FileHandler_handle : SupF K file "handle" "FileHandler.handle" s_FileHandler_handle a_FileHandler_handle fd_FileHandler_handle C_FileHandler
  Me_FileHandler_handle : Meth K C_FileHandler "handle" a_FileHandler_handle
  b_FileHandler_handle : Binds K fd_FileHandler_handle ["self", "record"] []
  a_FileHandler_formatted : Addr
  fd_FileHandler_formatted : FuncData
  F_FileHandler_formatted : SupF K file "formatted" "FileHandler.formatted" s_FileHandler_formatted a_FileHandler_formatted fd_FileHandler_formatted C_FileHandler
  Me_FileHandler_formatted : Meth K C_FileHandler "formatted" a_FileHandler_formatted
  b_FileHandler_formatted : Binds K fd_FileHandler_formatted ["self", "record"] []
  a_FileHandler_emit : Addr
  fd_FileHandler_emit : FuncData
  F_FileHandler_emit : Fun K "emit" "FileHandler.emit" s_FileHandler_emit a_FileHandler_emit fd_FileHandler_emit
  Me_FileHandler_emit : Meth K C_FileHandler "emit" a_FileHandler_emit
  b_FileHandler_emit : Binds K fd_FileHandler_emit ["self", "record"] []
  C_LogRecord : Addr
  g_LogRecord : mg "LogRecord" = some (.ref C_LogRecord)
  o_LogRecord : OC K C_LogRecord ["name", "levelno", "levelname", "msg", "given", "created", "extra"]
  a_LogRecord_init : Addr
  fd_LogRecord_init : FuncData
  F_LogRecord_init : Fun K "__init__" "LogRecord.__init__" s_LogRecord___init__ a_LogRecord_init fd_LogRecord_init
  M_LogRecord : Mk K C_LogRecord a_LogRecord_init
  b_LogRecord_init : Binds K fd_LogRecord_init ["self", "name", "levelno", "levelname", "msg", "given", "created", "extra"] []
  a_LogRecord_message : Addr
  fd_LogRecord_message : FuncData
  F_LogRecord_message : Fun K "message" "LogRecord.message" s_LogRecord_message a_LogRecord_message fd_LogRecord_message
  Me_LogRecord_message : Meth K C_LogRecord "message" a_LogRecord_message
  b_LogRecord_message : Binds K fd_LogRecord_message ["self"] []
  C_Yard : Addr
  g_Yard : mg "Yard" = some (.ref C_Yard)
  o_Yard : OC K C_Yard ["clock", "levels", "stream_store", "file_store", "roster", "tree", "root"]
  a_Yard_init : Addr
  fd_Yard_init : FuncData
  F_Yard_init : FunD K "__init__" "Yard.__init__" (defArgs s_Yard___init__) (defBody s_Yard___init__) (defScope s_Yard___init__) [.int 0] [] a_Yard_init fd_Yard_init
  M_Yard : Mk K C_Yard a_Yard_init
  a_Yard_now : Addr
  fd_Yard_now : FuncData
  F_Yard_now : Fun K "now" "Yard.now" s_Yard_now a_Yard_now fd_Yard_now
  Me_Yard_now : Meth K C_Yard "now" a_Yard_now
  b_Yard_now : Binds K fd_Yard_now ["self"] []
  a_Yard_advance : Addr
  fd_Yard_advance : FuncData
  F_Yard_advance : Fun K "advance" "Yard.advance" s_Yard_advance a_Yard_advance fd_Yard_advance
  Me_Yard_advance : Meth K C_Yard "advance" a_Yard_advance
  b_Yard_advance : Binds K fd_Yard_advance ["self", "milliseconds"] []
  a_Yard_text : Addr
  fd_Yard_text : FuncData
  F_Yard_text : Fun K "text" "Yard.text" s_Yard_text a_Yard_text fd_Yard_text
  Me_Yard_text : Meth K C_Yard "text" a_Yard_text
  b_Yard_text : Binds K fd_Yard_text ["self", "stream"] []
  a_Yard_put_file : Addr
  fd_Yard_put_file : FuncData
  F_Yard_put_file : Fun K "put_file" "Yard.put_file" s_Yard_put_file a_Yard_put_file fd_Yard_put_file
  Me_Yard_put_file : Meth K C_Yard "put_file" a_Yard_put_file
  b_Yard_put_file : Binds K fd_Yard_put_file ["self", "name", "text"] []
  a_Yard_remove_file : Addr
  fd_Yard_remove_file : FuncData
  F_Yard_remove_file : Fun K "remove_file" "Yard.remove_file" s_Yard_remove_file a_Yard_remove_file fd_Yard_remove_file
  Me_Yard_remove_file : Meth K C_Yard "remove_file" a_Yard_remove_file
  b_Yard_remove_file : Binds K fd_Yard_remove_file ["self", "name"] []
  a_Yard_make_record : Addr
  fd_Yard_make_record : FuncData
  aGT_Yard_make_record : Addr
  F_Yard_make_record : FunD K "make_record" "Yard.make_record" (defArgs s_Yard_make_record) (defBody s_Yard_make_record) (defScope s_Yard_make_record) [.ref aGT_Yard_make_record, .non] [] a_Yard_make_record fd_Yard_make_record
  Me_Yard_make_record : Meth K C_Yard "make_record" a_Yard_make_record
  b_Yard_make_record : Binds K fd_Yard_make_record ["self", "name", "level", "msg", "args", "extra"] []
  a_Yard_streams : Addr
  fd_Yard_streams : FuncData
  F_Yard_streams : Fun K "streams" "Yard.streams" s_Yard_streams a_Yard_streams fd_Yard_streams
  Me_Yard_streams : Meth K C_Yard "streams" a_Yard_streams
  b_Yard_streams : Binds K fd_Yard_streams ["self"] []
  a_Yard_files : Addr
  fd_Yard_files : FuncData
  F_Yard_files : Fun K "files" "Yard.files" s_Yard_files a_Yard_files fd_Yard_files
  Me_Yard_files : Meth K C_Yard "files" a_Yard_files
  b_Yard_files : Binds K fd_Yard_files ["self"] []
  dd_Yard_make_record : ∃ ds, Vals [V.ref aGT_Yard_make_record, V.non] ds ∧ Binds K fd_Yard_make_record ["self", "name", "level", "msg", "args", "extra"] ds
  gt_Yard_make_record : ∀ H, SqT K H aGT_Yard_make_record [] ∧ TyX K H (.ref aGT_Yard_make_record) (.type "tuple")
  b_StreamHandler_init : Binds K fd_StreamHandler_init ["self", "yard", "stream"] []
  dd_Yard_init : ∃ ds, Vals [V.int 0] ds ∧ Binds K fd_Yard_init ["self", "now"] ds
  kb_Yard_init : KBn K fd_Yard_init ["self", "now"] 1 ["now"] (fun us ws => us ++ ws) (fun vs zs => vs ++ zs)
  c_BadMode : Addr
  i_BadMode : Addr
  E_BadMode : ErrTxt K mg "BadMode" "mode" c_BadMode i_BadMode
  SM_StreamHandler_handle : SupM K C_StreamHandler C_StreamHandler "handle" a_Handler_handle
  SM_FileHandler_setTerminator : SupM K C_FileHandler C_FileHandler "setTerminator" a_Handler_setTerminator
  SM_FileHandler_filtered : SupM K C_FileHandler C_FileHandler "filtered" a_Handler_filtered
  SM_FileHandler_handle : SupM K C_FileHandler C_FileHandler "handle" a_Handler_handle
  SM_FileHandler_formatted : SupM K C_FileHandler C_FileHandler "formatted" a_Handler_formatted
  b_FileHandler_line : Binds K fd_Handler_line ["self", "record"] []
  Me_FileHandler_line : Meth K C_FileHandler "line" a_Handler_line
  SM_FileHandler_init : SupM K C_FileHandler C_FileHandler "__init__" a_Handler_init
  c_BadExtra : Addr
  i_BadExtra : Addr
  E_BadExtra : ErrTxt K mg "BadExtra" "name" c_BadExtra i_BadExtra
  aKN : Addr
  k_KEPT_NAMES : ∃ u, mg "KEPT_NAMES" = some u ∧ RelV (.ref aKN) u
  t_KEPT_NAMES : ∀ H, SqT K H aKN (keptNames.map fun l => V.str (SX.S l))
  c_BadLevel : Addr
  i_BadLevel : Addr
  E_BadLevel : ErrTxt K mg "BadLevel" "level" c_BadLevel i_BadLevel
  aFN : Addr
  aFM : Addr
  k_FIRST_NAMES : ∃ u, mg "FIRST_NAMES" = some u ∧ RelV (.ref aFN) u
  k_FIRST_NUMBERS : ∃ u, mg "FIRST_NUMBERS" = some u ∧ RelV (.ref aFM) u
  k_NOTSET : ∃ u, mg "NOTSET" = some u ∧ RelV (.int 0) u
  k_WARNING : ∃ u, mg "WARNING" = some u ∧ RelV (.int 30) u
  dd_StreamHandler_init : ∃ ds, Vals [V.str (SX.S [115, 116, 100, 101, 114, 114])] ds ∧ Binds K fd_StreamHandler_init ["self", "yard", "stream"] ds
  SM_StreamHandler_setTerminator : SupM K C_StreamHandler C_StreamHandler "setTerminator" a_Handler_setTerminator
  SM_StreamHandler_filtered : SupM K C_StreamHandler C_StreamHandler "filtered" a_Handler_filtered
  SM_StreamHandler_formatted : SupM K C_StreamHandler C_StreamHandler "formatted" a_Handler_formatted
  b_StreamHandler_line : Binds K fd_Handler_line ["self", "record"] []
  Me_StreamHandler_line : Meth K C_StreamHandler "line" a_Handler_line
  SM_StreamHandler_init : SupM K C_StreamHandler C_StreamHandler "__init__" a_Handler_init
def firstNames : List (Key × V) := [(.inl 50, .str (SX.S [67, 82, 73, 84, 73, 67, 65, 76])), (.inl 40, .str (SX.S [69, 82, 82, 79, 82])), (.inl 30, .str (SX.S [87, 65, 82, 78, 73, 78, 71])), (.inl 20, .str (SX.S [73, 78, 70, 79])), (.inl 10, .str (SX.S [68, 69, 66, 85, 71])), (.inl 0, .str (SX.S [78, 79, 84, 83, 69, 84]))]
def firstNumbers : List (Key × V) := [(.inr (SX.S [67, 82, 73, 84, 73, 67, 65, 76]), .int 50), (.inr (SX.S [70, 65, 84, 65, 76]), .int 50), (.inr (SX.S [69, 82, 82, 79, 82]), .int 40), (.inr (SX.S [87, 65, 82, 78, 73, 78, 71]), .int 30), (.inr (SX.S [87, 65, 82, 78]), .int 30), (.inr (SX.S [73, 78, 70, 79]), .int 20), (.inr (SX.S [68, 69, 66, 85, 71]), .int 10), (.inr (SX.S [78, 79, 84, 83, 69, 84]), .int 0)]
/-- what is asked of the program and its module's dicts -/
structure Dct (P : Program) (w : World) (K : PySem.W.Frag) (mg : Str → Option Value) (T : Txt K mg) : Prop where
  top : TopS P mg T.file
  n1 : DKc K P w T.aFN firstNames
  n2 : DKc K P w T.aFM firstNumbers
local macro_rules | `(tactic| walk_at "hp") => `(tactic| first | assumption | exact upd_same | (refine Eq.trans (upd_ne (by first | assumption | (apply Ne.symm; assumption))) ?_; walk_at "hp"))
local macro_rules | `(tactic| walk_at "ixl") => `(tactic| (refine' ⟨_, ?xs, _, ?vv, rfl, rfl, SqL.of ?hh, ?aa, ?qq⟩; (case hh => walk_at "hp"); (case aa => rfl)))
local macro_rules | `(tactic| walk_at "setl") => `(tactic| (refine' ⟨_, ?xs, _, ?jj, rfl, rfl, ?hh, ?aa, ?qq⟩; (case hh => walk_at "hp"); (case aa => rfl)))
local macro_rules | `(tactic| walk_at "cond") => `(tactic| first | exact ⟨_, rfl⟩ | exact Nat.le_of_lt (small1000 (Nat.le_of_ble_eq_true rfl)) | decide | omega | (dsimp only; omega) | exact ⟨by decide, by decide⟩ | exact Or.inr ⟨by decide, by decide⟩ | exact Or.inl ⟨by decide, by decide⟩ | exact ⟨by decide, by decide, by decide⟩ | exact ⟨by omega, by omega⟩ | exact ⟨by omega, by omega, by omega⟩ | (simp only [List.length_cons, List.length_nil, List.length_append, List.length_take, List.length_drop]; omega) | (refine ⟨?_, ?_, ?_⟩ <;> first | decide | omega | (simp only [List.length_cons, List.length_nil, List.length_append, List.length_take, List.length_drop, Option.getD_some, Option.getD_none]; omega)))
local macro_rules | `(tactic| walk_at "st") => `(tactic| repeat (first | refine ⟨_, rfl, ?_⟩ | refine ⟨_, _, rfl, rfl, ?_⟩ | walk_at "ixl" | walk_at "setl" | refine ⟨rfl, ?_⟩ | refine Or.inl ⟨_, rfl, ?_⟩ | refine And.intro (by walk_at "cond") ?_))
/-- what the stepper does not open -/
inductive Hd (p : Prop) : Prop where
  | a (h : p)
  | b (h : p)
theorem Hd.out {p : Prop} (h : Hd p) : p := by
  cases h <;> assumption
theorem if_true_of {c : Bool} {A B : Prop} (hc : c = true) (h : A) : if c = true then A else B := by
  rw [if_pos hc]
  exact h
theorem if_false_of {c : Bool} {A B : Prop} (hc : c = false) (h : B) : if c = true then A else B := by
  rw [hc, if_neg Bool.false_ne_true]
  exact h
/-- all but x stands -/
def SameX (x : Addr) (H H' : Hp) : Prop := ∀ c u, c ≠ x → H c = some u → H' c = some u
theorem SameX.refl (x : Addr) (H : Hp) : SameX x H H := fun _ _ _ e => e
theorem SameX.trans {x : Addr} {H H1 H2 : Hp} (a : SameX x H H1) (b : SameX x H1 H2) : SameX x H H2 := fun c u n e => b c u n (a c u n e)
theorem SameX.put {x : Addr} {H H' : Hp} {o : HO} (s : SameX x H H') : SameX x H (upd H' x o) := fun c u n e => by rw [upd_ne n]; exact s c u n e
theorem SameX.new {x a : Addr} {H H' : Hp} {o : HO} (s : SameX x H H') (ha : H a = none) : SameX x H (upd H' a o) := fun c u n e => by
  rw [upd_ne (fun z => by rw [z, ha] at e; cases e)]; exact s c u n e
section
variable {P : Program} {w : World} {K : PySem.W.Frag} {mg : Str → Option Value} {base : Heap}
/-! ### the clock -/
def spClock (C : Addr) : Sp := fun vs H Q _ => Hd (∃ (x dx : Addr) (v : V), vs = [.ref x, v] ∧ H x = some (.ins C dx []) ∧ ∀ H', H' x = some (.ins C dx [("shown", v)]) → SameX x H H' → Q .non H')
theorem ok_clock (T : Txt K mg) : FnOk P w K mg base CX0 1 T.a_Clock_init T.fd_Clock_init ["self", "shown"] (spClock T.C_Clock) := by
  refine T.F_Clock_init.ok sc_Clock___init__ (fun vs H Q E h => ?_) (fun cdv A outer s H vs Q E hr h => ?_)
  · obtain ⟨x, dx, v, rfl, _⟩ := h.out
    rfl
  · obtain ⟨x, dx, v, rfl, hx, k⟩ := h.out
    refine ⟨_, (pss_one (ps_fld (pv 0) (pv 1) rfl)), ?_⟩
    walk_at "st"
    refine ⟨x, T.C_Clock, dx, _, rfl, hx, T.o_Clock.cl, T.o_Clock.na _ (by decide), Nat.le_of_ble_eq_true rfl, ?_⟩
    exact k _ upd_same (SameX.refl _ _).put
def spNow (C : Addr) : Sp := fun vs H Q _ => Hd (∃ (x dx : Addr) (v : V), vs = [.ref x] ∧ H x = some (.ins C dx [("shown", v)]) ∧ Q v H)
theorem ok_now (T : Txt K mg) : FnOk P w K mg base CX0 1 T.a_Clock_now T.fd_Clock_now ["self"] (spNow T.C_Clock) := by
  refine T.F_Clock_now.ok sc_Clock_now (fun vs H Q E h => ?_) (fun cdv A outer s H vs Q E hr h => ?_)
  · obtain ⟨x, dx, v, rfl, _⟩ := h.out
    rfl
  · obtain ⟨x, dx, v, rfl, hx, k⟩ := h.out
    refine ⟨_, (pss_one (ps_ret (pe_fld (pv 0) rfl))), ?_⟩
    walk_at "st"
    exact ⟨x, T.C_Clock, dx, _, v, rfl, hx, T.o_Clock.cl, T.o_Clock.na _ (by decide), rfl, k⟩
end
end My

namespace My
open PySem PySem.Spec PyProof.Rows L2 SuX
local macro_rules | `(tactic| walk_at "hp") => `(tactic| first | assumption | exact upd_same | (refine Eq.trans (upd_ne (by first | assumption | (apply Ne.symm; assumption))) ?_; walk_at "hp"))
local macro_rules | `(tactic| walk_at "ixl") => `(tactic| (refine' ⟨_, ?xs, _, ?vv, rfl, rfl, SqL.of ?hh, ?aa, ?qq⟩; (case hh => walk_at "hp"); (case aa => rfl)))
local macro_rules | `(tactic| walk_at "setl") => `(tactic| (refine' ⟨_, ?xs, _, ?jj, rfl, rfl, ?hh, ?aa, ?qq⟩; (case hh => walk_at "hp"); (case aa => rfl)))
local macro_rules | `(tactic| walk_at "cond") => `(tactic| first | exact ⟨_, rfl⟩ | exact Nat.le_of_lt (small1000 (Nat.le_of_ble_eq_true rfl)) | decide | omega | (dsimp only; omega) | exact ⟨by decide, by decide⟩ | exact Or.inr ⟨by decide, by decide⟩ | exact Or.inl ⟨by decide, by decide⟩ | exact ⟨by decide, by decide, by decide⟩ | exact ⟨by omega, by omega⟩ | exact ⟨by omega, by omega, by omega⟩ | (simp only [List.length_cons, List.length_nil, List.length_append, List.length_take, List.length_drop]; omega) | (refine ⟨?_, ?_, ?_⟩ <;> first | decide | omega | (simp only [List.length_cons, List.length_nil, List.length_append, List.length_take, List.length_drop, Option.getD_some, Option.getD_none]; omega)))
local macro_rules | `(tactic| walk_at "st") => `(tactic| repeat (first | refine ⟨_, rfl, ?_⟩ | refine ⟨_, _, rfl, rfl, ?_⟩ | walk_at "ixl" | walk_at "setl" | refine ⟨rfl, ?_⟩ | refine Or.inl ⟨_, rfl, ?_⟩ | refine And.intro (by walk_at "cond") ?_))
section
variable {P : Program} {w : World} {K : PySem.W.Frag} {mg : Str → Option Value} {base : Heap}
/-! ### rosters -/
def fRo (a b c : Addr) : List (Str × V) := [("handlers", .ref a), ("leading", .ref b), ("failed", .ref c)]
def spRoster (C : Addr) : Sp := fun vs H Q _ => Hd (∃ (x dx : Addr), vs = [.ref x] ∧ H x = some (.ins C dx []) ∧
  ∀ H' a b c, H' x = some (.ins C dx (fRo a b c)) → H' a = some (.lst []) → H' b = some (.dK []) → H' c = some (.lst []) → H a = none → H b = none → H c = none → a ≠ b → a ≠ c → b ≠ c → SameX x H H' → Q .non H')
theorem ok_roster (T : Txt K mg) : FnOk P w K mg base CX0 1 T.a_Roster_init T.fd_Roster_init ["self"] (spRoster T.C_Roster) := by
  refine T.F_Roster_init.ok sc_Roster___init__ (fun vs H Q E h => ?_) (fun cdv A outer s H vs Q E hr h => ?_)
  · obtain ⟨x, dx, rfl, _⟩ := h.out
    rfl
  · obtain ⟨x, dx, rfl, hx, k⟩ := h.out
    refine ⟨_, (pss_cons (ps_fld (pv 0) (pe_lst pa_nil) rfl)
  (pss_cons (ps_fld (pv 0) pe_dnewK rfl)
  (pss_one (ps_fld (pv 0) (pe_lst pa_nil) rfl)))), ?_⟩
    walk_at "st"
    intro a ha
    have xa : x ≠ a := ne_of_none hx ha
    walk_at "st"
    refine ⟨x, T.C_Roster, dx, _, rfl, by rw [upd_ne xa]; exact hx, T.o_Roster.cl, T.o_Roster.na _ (by decide), Nat.le_of_ble_eq_true rfl, ?_⟩
    walk_at "st"
    intro b hb
    have xb : x ≠ b := ne_of_none upd_same hb
    have ab : a ≠ b := ne_of_none (by rw [upd_ne xa.symm]; exact upd_same) hb
    have hb0 : H b = none := by rw [upd_ne xb.symm, upd_ne ab.symm] at hb; exact hb
    walk_at "st"
    refine ⟨x, T.C_Roster, dx, _, rfl, by rw [upd_ne xb]; exact upd_same, T.o_Roster.cl, T.o_Roster.na _ (by decide), Nat.le_of_ble_eq_true rfl, ?_⟩
    walk_at "st"
    intro c hc
    have xc : x ≠ c := ne_of_none upd_same hc
    have bc : b ≠ c := ne_of_none (by rw [upd_ne xb.symm]; exact upd_same) hc
    have ac : a ≠ c := ne_of_none (by rw [upd_ne xa.symm, upd_ne ab, upd_ne xa.symm]; exact upd_same) hc
    have hc0 : H c = none := by rw [upd_ne xc.symm, upd_ne bc.symm, upd_ne xc.symm, upd_ne ac.symm] at hc; exact hc
    walk_at "st"
    refine ⟨x, T.C_Roster, dx, _, rfl, by rw [upd_ne xc]; exact upd_same, T.o_Roster.cl, T.o_Roster.na _ (by decide), Nat.le_of_ble_eq_true rfl, ?_⟩
    refine k _ a b c upd_same (by rw [upd_ne xa.symm, upd_ne ac, upd_ne xa.symm, upd_ne ab, upd_ne xa.symm]; exact upd_same) (by rw [upd_ne xb.symm, upd_ne bc, upd_ne xb.symm]; exact upd_same) (by rw [upd_ne xc.symm]; exact upd_same) ha hb0 hc0 ab ac bc ?_
    exact ((((((SameX.refl _ _).new ha).put).new hb0).put).new hc0).put
def spEnter (C : Addr) : Sp := fun vs H Q _ => Hd (∃ (x dx a b c : Addr) (v : V) (hs : List V), vs = [.ref x, v] ∧ H x = some (.ins C dx (fRo a b c)) ∧ H a = some (.lst hs) ∧ hs.length < sizeLine ∧ Q .non (upd H a (.lst (hs ++ [v]))))
theorem ok_enter (T : Txt K mg) : FnOk P w K mg base CX0 1 T.a_Roster_enter T.fd_Roster_enter ["self", "handler"] (spEnter T.C_Roster) := by
  refine T.F_Roster_enter.ok sc_Roster_enter (fun vs H Q E h => ?_) (fun cdv A outer s H vs Q E hr h => ?_)
  · obtain ⟨x, dx, a, b, c, v, hs, rfl, _⟩ := h.out
    rfl
  · obtain ⟨x, dx, a, b, c, v, hs, rfl, hx, ha, hz, k⟩ := h.out
    refine ⟨_, (pss_one (ps_expr (pe_bm PySem.F.plainAttrs_list PySem.F.slot_list_append PySem.F.type_list_append mt_append (pe_fld (pv 0) rfl) (pa_cons (pv 1) pa_nil)))), ?_⟩
    walk_at "st"
    refine ⟨x, T.C_Roster, dx, _, .ref a, rfl, hx, T.o_Roster.cl, T.o_Roster.na _ (by decide), rfl, ?_⟩
    walk_at "st"
    refine ⟨.inl ⟨rfl, _, SqL.of ha⟩, ?_⟩
    walk_at "st"
    exact ⟨_, _, _, rfl, rfl, ha, hz, k⟩
/-! ### stores -/
def fSt (a b : Addr) : List (Str × V) := [("clock", .ref a), ("kept", .ref b)]
def spStore (C : Addr) : Sp := fun vs H Q _ => Hd (∃ (x dx a : Addr), vs = [.ref x, .ref a] ∧ H x = some (.ins C dx []) ∧
  ∀ H' b, H' x = some (.ins C dx (fSt a b)) → H' b = some (.dK []) → H b = none → SameX x H H' → Q .non H')
theorem ok_store (T : Txt K mg) : FnOk P w K mg base CX0 1 T.a_Store_init T.fd_Store_init ["self", "clock"] (spStore T.C_Store) := by
  refine T.F_Store_init.ok sc_Store___init__ (fun vs H Q E h => ?_) (fun cdv A outer s H vs Q E hr h => ?_)
  · obtain ⟨x, dx, a, rfl, _⟩ := h.out
    rfl
  · obtain ⟨x, dx, a, rfl, hx, k⟩ := h.out
    refine ⟨_, (pss_cons (ps_fld (pv 0) (pv 1) rfl)
  (pss_one (ps_fld (pv 0) pe_dnewK rfl))), ?_⟩
    walk_at "st"
    refine ⟨x, T.C_Store, dx, _, rfl, hx, T.o_Store.cl, T.o_Store.na _ (by decide), Nat.le_of_ble_eq_true rfl, ?_⟩
    walk_at "st"
    intro b hb
    have xb : x ≠ b := ne_of_none upd_same hb
    have hb0 : H b = none := by rw [upd_ne xb.symm] at hb; exact hb
    walk_at "st"
    refine ⟨x, T.C_Store, dx, _, rfl, by rw [upd_ne xb]; exact upd_same, T.o_Store.cl, T.o_Store.na _ (by decide), Nat.le_of_ble_eq_true rfl, ?_⟩
    exact k _ b upd_same (by rw [upd_ne xb.symm]; exact upd_same) hb0 ((((SameX.refl _ _).put).new hb0).put)
/-! ### written texts -/
def fWr (a : Addr) (n : Int) (t : V) : List (Str × V) := [("parts", .ref a), ("size", .int n), ("time", t)]
def spWritten (C : Addr) : Sp := fun vs H Q _ => Hd (∃ (x dx : Addr) (l : List Nat) (t : V), vs = [.ref x, .str (SX.S l), t] ∧ H x = some (.ins C dx []) ∧ l.length ≤ 100000 ∧
  ∀ H' a, H' x = some (.ins C dx (fWr a l.length t)) → H' a = some (.lst [.str (SX.S l)]) → H a = none → SameX x H H' → Q .non H')
theorem ok_written (T : Txt K mg) : FnOk P w K mg base CX0 1 T.a_Written_init T.fd_Written_init ["self", "text", "time"] (spWritten T.C_Written) := by
  refine T.F_Written_init.ok sc_Written___init__ (fun vs H Q E h => ?_) (fun cdv A outer s H vs Q E hr h => ?_)
  · obtain ⟨x, dx, l, t, rfl, _⟩ := h.out
    rfl
  · obtain ⟨x, dx, l, t, rfl, hx, hz, k⟩ := h.out
    refine ⟨_, (pss_cons (ps_fld (pv 0) (pe_lst (pa_cons (pv 1) pa_nil)) rfl)
  (pss_cons (ps_fld (pv 0) (pe_callB SL.call_lenL (by rfl) T.B.n_len (by decide +kernel) (pa_cons (pv 1) pa_nil)) rfl)
  (pss_one (ps_fld (pv 0) (pv 2) rfl)))), ?_⟩
    walk_at "st"
    intro a ha
    have xa : x ≠ a := ne_of_none hx ha
    walk_at "st"
    refine ⟨x, T.C_Written, dx, _, rfl, by rw [upd_ne xa]; exact hx, T.o_Written.cl, T.o_Written.na _ (by decide), Nat.le_of_ble_eq_true rfl, ?_⟩
    walk_at "st"
    refine ⟨x, T.C_Written, dx, _, rfl, upd_same, T.o_Written.cl, T.o_Written.na _ (by decide), Nat.le_of_ble_eq_true rfl, ?_⟩
    walk_at "st"
    refine ⟨x, T.C_Written, dx, _, rfl, upd_same, T.o_Written.cl, T.o_Written.na _ (by decide), Nat.le_of_ble_eq_true rfl, ?_⟩
    refine k _ a upd_same (by rw [upd_ne xa.symm, upd_ne xa.symm, upd_ne xa.symm]; exact upd_same) ha ?_
    exact (((((SameX.refl _ _).new ha).put).put).put)
end
end My

namespace My
open PySem PySem.Spec PyProof.Rows L2 SuX
local macro_rules | `(tactic| walk_at "hp") => `(tactic| first | assumption | exact upd_same | (refine Eq.trans (upd_ne (by first | assumption | (apply Ne.symm; assumption))) ?_; walk_at "hp"))
local macro_rules | `(tactic| walk_at "ixl") => `(tactic| (refine' ⟨_, ?xs, _, ?vv, rfl, rfl, SqL.of ?hh, ?aa, ?qq⟩; (case hh => walk_at "hp"); (case aa => rfl)))
local macro_rules | `(tactic| walk_at "setl") => `(tactic| (refine' ⟨_, ?xs, _, ?jj, rfl, rfl, ?hh, ?aa, ?qq⟩; (case hh => walk_at "hp"); (case aa => rfl)))
local macro_rules | `(tactic| walk_at "cond") => `(tactic| first | exact ⟨_, rfl⟩ | exact Nat.le_of_lt (small1000 (Nat.le_of_ble_eq_true rfl)) | decide | omega | (dsimp only; omega) | exact ⟨by decide, by decide⟩ | exact Or.inr ⟨by decide, by decide⟩ | exact Or.inl ⟨by decide, by decide⟩ | exact ⟨by decide, by decide, by decide⟩ | exact ⟨by omega, by omega⟩ | exact ⟨by omega, by omega, by omega⟩ | (simp only [List.length_cons, List.length_nil, List.length_append, List.length_take, List.length_drop]; omega) | (refine ⟨?_, ?_, ?_⟩ <;> first | decide | omega | (simp only [List.length_cons, List.length_nil, List.length_append, List.length_take, List.length_drop, Option.getD_some, Option.getD_none]; omega)))
local macro_rules | `(tactic| walk_at "st") => `(tactic| repeat (first | refine ⟨_, rfl, ?_⟩ | refine ⟨_, _, rfl, rfl, ?_⟩ | walk_at "ixl" | walk_at "setl" | refine ⟨rfl, ?_⟩ | refine Or.inl ⟨_, rfl, ?_⟩ | refine And.intro (by walk_at "cond") ?_))
section
variable {P : Program} {w : World} {K : PySem.W.Frag} {mg : Str → Option Value} {base : Heap}
/-! ### tables of levels -/
def fLv (a b : Addr) : List (Str × V) := [("names", .ref a), ("numbers", .ref b)]
def spLevels (C : Addr) : Sp := fun vs H Q _ => Hd (∃ (x dx : Addr), vs = [.ref x] ∧ H x = some (.ins C dx []) ∧
  ∀ H' a b, H' x = some (.ins C dx (fLv a b)) → H' a = some (.dK firstNames) → H' b = some (.dK firstNumbers) → H a = none → H b = none → a ≠ b → SameX x H H' → Q .non H')
theorem ok_levels (T : Txt K mg) (Z : Dct P w K mg T) : FnOk P w K mg base CX0 1 T.a_LevelTable_init T.fd_LevelTable_init ["self"] (spLevels T.C_LevelTable) := by
  refine T.F_LevelTable_init.ok sc_LevelTable___init__ (fun vs H Q E h => ?_) (fun cdv A outer s H vs Q E hr h => ?_)
  · obtain ⟨x, dx, rfl, _⟩ := h.out
    rfl
  · obtain ⟨x, dx, rfl, hx, k⟩ := h.out
    refine ⟨_, (pss_cons (ps_fld (pv 0) (pe_callTy call_dictK (by rfl) T.B.n_dict (by decide +kernel) (pa_cons (C8.pe_gc rfl T.k_FIRST_NAMES) pa_nil)) rfl)
  (pss_one (ps_fld (pv 0) (pe_callTy call_dictK (by rfl) T.B.n_dict (by decide +kernel) (pa_cons (C8.pe_gc rfl T.k_FIRST_NUMBERS) pa_nil)) rfl))), ?_⟩
    walk_at "st"
    refine ⟨_, _, rfl, Z.n1, fun a ha => ?_⟩
    have xa : x ≠ a := ne_of_none hx ha
    walk_at "st"
    refine ⟨x, T.C_LevelTable, dx, _, rfl, by rw [upd_ne xa]; exact hx, T.o_LevelTable.cl, T.o_LevelTable.na _ (by decide), Nat.le_of_ble_eq_true rfl, ?_⟩
    walk_at "st"
    refine ⟨_, _, rfl, Z.n2, fun b hb => ?_⟩
    have xb : x ≠ b := ne_of_none upd_same hb
    have ab : a ≠ b := ne_of_none (by rw [upd_ne xa.symm]; exact upd_same) hb
    have hb0 : H b = none := by rw [upd_ne xb.symm, upd_ne ab.symm] at hb; exact hb
    walk_at "st"
    refine ⟨x, T.C_LevelTable, dx, _, rfl, by rw [upd_ne xb]; exact upd_same, T.o_LevelTable.cl, T.o_LevelTable.na _ (by decide), Nat.le_of_ble_eq_true rfl, ?_⟩
    exact k _ a b upd_same (by rw [upd_ne xa.symm, upd_ne ab, upd_ne xa.symm]; exact upd_same) (by rw [upd_ne xb.symm]; exact upd_same) ha hb0 ab (((((SameX.refl _ _).new ha).put).new hb0).put)
/-! ### handlers -/
theorem hgen {R A B C : Hp → Prop} {h : Hp} (a : A h) (b : B h) (c : C h) (k : ∀ H', A H' → B H' → C H' → R H') : R h := k h a b c
/-- all but x and a stands -/
def SameY (x a : Addr) (H H' : Hp) : Prop := ∀ c u, c ≠ x → c ≠ a → H c = some u → H' c = some u
theorem SameX.y {x a : Addr} {H H' : Hp} (s : SameX x H H') : SameY x a H H' := fun c u n _ e => s c u n e
theorem SameY.put {x a : Addr} {H H' : Hp} {o : HO} (s : SameY x a H H') : SameY x a H (upd H' x o) := fun c u n m e => by rw [upd_ne n]; exact s c u n m e
theorem SameY.put2 {x a : Addr} {H H' : Hp} {o : HO} (s : SameY x a H H') : SameY x a H (upd H' a o) := fun c u n m e => by rw [upd_ne m]; exact s c u n m e
abbrev hF : List Str := ["yard", "level", "formatter", "filters", "name", "terminator", "closed"]
def fHd (y fl : Addr) : List (Str × V) := [("yard", .ref y), ("level", .int 0), ("formatter", .non), ("filters", .ref fl), ("name", .non), ("terminator", .str (SX.S [10])), ("closed", .bl false)]
def spHandler (CR : Addr) (K : PySem.W.Frag) : Sp := fun vs H Q _ => Hd (∃ (x dx C y CY dy r dr a b c : Addr) (fy : List (Str × V)) (hs : List V), vs = [.ref x, .ref y] ∧ H x = some (.ins C dx []) ∧ OC K C hF ∧ H y = some (.ins CY dy fy) ∧ Cls K CY ∧ NoAttr K CY "roster" ∧ fy.lookup ("roster" : Str) = some (V.ref r) ∧ x ≠ y ∧
  H r = some (.ins CR dr (fRo a b c)) ∧ x ≠ r ∧ H a = some (.lst hs) ∧ hs.length < sizeLine ∧
  ∀ H' fl, H' x = some (.ins C dx (fHd y fl)) → H' fl = some (.lst []) → H fl = none → H' a = some (.lst (hs ++ [.ref x])) → SameY x a H H' → Q .non H')
theorem ok_handler (T : Txt K mg) : FnOk P w K mg base CX0 2 T.a_Handler_init T.fd_Handler_init ["self", "yard"] (spHandler T.C_Roster K) := by
  have G_Roster_enter : FnOk P w K mg base CX0 1 _ _ _ (spEnter T.C_Roster) := ok_enter T
  refine T.F_Handler_init.ok sc_Handler___init__ (fun vs H Q E h => ?_) (fun cdv A outer s H vs Q E hr h => ?_)
  · obtain ⟨x, dx, C, y, CY, dy, r, dr, a, b, c, fy, hs, rfl, _⟩ := h.out
    rfl
  · obtain ⟨x, dx, C, y, CY, dy, r, dr, a, b, c, fy, hs, rfl, hx, oC, hy, cY, nY, ly, xy, hr1, xr, ha, hz, k⟩ := h.out
    have xa : x ≠ a := fun z => by rw [z, ha] at hx; cases hx
    refine ⟨_, (pss_cons (ps_fld (pv 0) (pv 1) rfl)
  (pss_cons (ps_fld (pv 0) (C8.pe_gc rfl T.k_NOTSET) rfl)
  (pss_cons (ps_fld (pv 0) pe_non rfl)
  (pss_cons (ps_fld (pv 0) (pe_lst pa_nil) rfl)
  (pss_cons (ps_fld (pv 0) pe_non rfl)
  (pss_cons (ps_fld (pv 0) (SL.pe_strL [10] (by decide +kernel)) rfl)
  (pss_cons (ps_fld (pv 0) pe_bl rfl)
  (pss_one (ps_expr (pe_meth (pe_fld (pv 1) rfl) T.o_Roster.cl T.Me_Roster_enter G_Roster_enter (hr.mono (by first | decide | omega)) T.b_Roster_enter .nil pass0 (pa_cons (pv 0) pa_nil))))))))))), ?_⟩
    walk_at "st"
    refine ⟨x, C, dx, _, rfl, hx, oC.cl, oC.na _ (by decide), Nat.le_of_ble_eq_true rfl, ?_⟩
    walk_at "st"
    refine ⟨x, C, dx, _, rfl, upd_same, oC.cl, oC.na _ (by decide), Nat.le_of_ble_eq_true rfl, ?_⟩
    walk_at "st"
    refine ⟨x, C, dx, _, rfl, upd_same, oC.cl, oC.na _ (by decide), Nat.le_of_ble_eq_true rfl, ?_⟩
    walk_at "st"
    intro fl hf
    have xf : x ≠ fl := ne_of_none upd_same hf
    have hf0 : H fl = none := by rw [upd_ne xf.symm, upd_ne xf.symm, upd_ne xf.symm] at hf; exact hf
    walk_at "st"
    refine ⟨x, C, dx, _, rfl, by rw [upd_ne xf]; exact upd_same, oC.cl, oC.na _ (by decide), Nat.le_of_ble_eq_true rfl, ?_⟩
    walk_at "st"
    refine ⟨x, C, dx, _, rfl, upd_same, oC.cl, oC.na _ (by decide), Nat.le_of_ble_eq_true rfl, ?_⟩
    walk_at "st"
    refine ⟨x, C, dx, _, rfl, upd_same, oC.cl, oC.na _ (by decide), Nat.le_of_ble_eq_true rfl, ?_⟩
    walk_at "st"
    refine ⟨x, C, dx, _, rfl, upd_same, oC.cl, oC.na _ (by decide), Nat.le_of_ble_eq_true rfl, ?_⟩
    walk_at "st"
    have yx : y ≠ x := xy.symm
    have yf : y ≠ fl := fun z => by rw [← z, hy] at hf0; cases hf0
    have rx : r ≠ x := xr.symm
    have rf : r ≠ fl := fun z => by rw [← z, hr1] at hf0; cases hf0
    have ax : a ≠ x := xa.symm
    have af : a ≠ fl := fun z => by rw [← z, ha] at hf0; cases hf0
    refine ⟨y, CY, dy, fy, .ref r, rfl, by walk_at "hp", cY, nY, ly, ?_⟩
    refine ⟨r, dr, _, rfl, by walk_at "hp", rfl, ?_⟩
    walk_at "st"
    refine .a ⟨r, dr, a, b, c, .ref x, hs, rfl, by walk_at "hp", by walk_at "hp", hz, ?_⟩
    exact k _ fl (by rw [upd_ne xa]; exact upd_same) (by walk_at "hp") hf0 upd_same (((((((((SameX.refl _ _).put).put).put).new hf0).put).put).put).put).y.put2
/-- the one of streams: super() -/
def fSh (y fl : Addr) (l : List Nat) : List (Str × V) := [("yard", .ref y), ("level", .int 0), ("formatter", .non), ("filters", .ref fl), ("name", .non), ("terminator", .str (SX.S [10])), ("closed", .bl false), ("stream", .str (SX.S l))]
def spStream (C CR : Addr) (K : PySem.W.Frag) : Sp := fun vs H Q _ => Hd (∃ (x dx y CY dy r dr a b c : Addr) (l : List Nat) (fy : List (Str × V)) (hs : List V), vs = [.ref x, .ref y, .str (SX.S l)] ∧ H x = some (.ins C dx []) ∧ H y = some (.ins CY dy fy) ∧ Cls K CY ∧ NoAttr K CY "roster" ∧ fy.lookup ("roster" : Str) = some (V.ref r) ∧ x ≠ y ∧
  H r = some (.ins CR dr (fRo a b c)) ∧ x ≠ r ∧ H a = some (.lst hs) ∧ hs.length < sizeLine ∧
  ∀ H' fl, H' x = some (.ins C dx (fSh y fl l)) → H' fl = some (.lst []) → H fl = none → H' a = some (.lst (hs ++ [.ref x])) → SameY x a H H' → Q .non H')
theorem ok_stream (T : Txt K mg) (Z : Dct P w K mg T) : FnOk P w K mg base CX0 3 T.a_StreamHandler_init T.fd_StreamHandler_init ["self", "yard", "stream"] (spStream T.C_StreamHandler T.C_Roster K) := by
  have G_super : FnOk P w K mg base CX0 2 _ _ _ (spHandler T.C_Roster K) := ok_handler T
  refine T.F_StreamHandler_init.ok0 (sf := "self") Z.top sc_StreamHandler___init__ rfl rfl rfl rfl rfl (fun vs H Q E h => ?_) (fun cc cda A outer s H vs Q E hr h => ?_)
  · obtain ⟨x, dx, y, CY, dy, r, dr, a, b, c, l, fy, hs, rfl, _⟩ := h.out
    rfl
  · obtain ⟨x, dx, y, CY, dy, r, dr, a, b, c, l, fy, hs, rfl, hx, hy, cY, nY, ly, xy, hr1, xr, ha, hz, k⟩ := h.out
    have oC : OC K T.C_StreamHandler hF := ⟨T.o_StreamHandler.cl, fun f hf => T.o_StreamHandler.na f (List.mem_append_left (as := hF) ["stream"] hf)⟩
    refine ⟨_, fun SD => (SuX.pssA_cons (SuX.psA_expr (SuX.peA_sup (i := 0) SD T.SM_StreamHandler_init G_super (hr.mono (by first | decide | omega)) T.b_Handler_init .nil pass0 rfl (pa_cons (pv 1) pa_nil)))
  (SuX.PSsA.of (pss_one (ps_fld (pv 0) (pv 2) rfl)))), ?_⟩
    walk_at "st"
    refine ⟨x, dx, _, rfl, hx, ?_⟩
    walk_at "st"
    refine .a ⟨x, dx, T.C_StreamHandler, y, CY, dy, r, dr, a, b, c, fy, hs, rfl, hx, oC, hy, cY, nY, ly, xy, hr1, xr, ha, hz, fun H1 fl x1 f1 f0 a1 s1 => ?_⟩
    have xf : x ≠ fl := ne_of_none hx f0
    have xa : x ≠ a := fun z => by rw [z, ha] at hx; cases hx
    walk_at "st"
    refine ⟨x, T.C_StreamHandler, dx, _, rfl, x1, T.o_StreamHandler.cl, T.o_StreamHandler.na _ (by decide), Nat.le_of_ble_eq_true rfl, ?_⟩
    exact k _ fl upd_same (by rw [upd_ne xf.symm]; exact f1) f0 (by rw [upd_ne xa.symm]; exact a1) s1.put
end
end My

namespace My
open PySem PySem.Spec PyProof.Rows L2 SuX
local macro_rules | `(tactic| walk_at "hp") => `(tactic| first | assumption | exact upd_same | (refine Eq.trans (upd_ne (by first | assumption | (apply Ne.symm; assumption))) ?_; walk_at "hp"))
local macro_rules | `(tactic| walk_at "ixl") => `(tactic| (refine' ⟨_, ?xs, _, ?vv, rfl, rfl, SqL.of ?hh, ?aa, ?qq⟩; (case hh => walk_at "hp"); (case aa => rfl)))
local macro_rules | `(tactic| walk_at "setl") => `(tactic| (refine' ⟨_, ?xs, _, ?jj, rfl, rfl, ?hh, ?aa, ?qq⟩; (case hh => walk_at "hp"); (case aa => rfl)))
local macro_rules | `(tactic| walk_at "cond") => `(tactic| first | exact ⟨_, rfl⟩ | exact Nat.le_of_lt (small1000 (Nat.le_of_ble_eq_true rfl)) | decide | omega | (dsimp only; omega) | exact ⟨by decide, by decide⟩ | exact Or.inr ⟨by decide, by decide⟩ | exact Or.inl ⟨by decide, by decide⟩ | exact ⟨by decide, by decide, by decide⟩ | exact ⟨by omega, by omega⟩ | exact ⟨by omega, by omega, by omega⟩ | (simp only [List.length_cons, List.length_nil, List.length_append, List.length_take, List.length_drop]; omega) | (refine ⟨?_, ?_, ?_⟩ <;> first | decide | omega | (simp only [List.length_cons, List.length_nil, List.length_append, List.length_take, List.length_drop, Option.getD_some, Option.getD_none]; omega)))
local macro_rules | `(tactic| walk_at "st") => `(tactic| repeat (first | refine ⟨_, rfl, ?_⟩ | refine ⟨_, _, rfl, rfl, ?_⟩ | walk_at "ixl" | walk_at "setl" | refine ⟨rfl, ?_⟩ | refine Or.inl ⟨_, rfl, ?_⟩ | refine And.intro (by walk_at "cond") ?_))
section
variable {P : Program} {w : World} {K : PySem.W.Frag} {mg : Str → Option Value} {base : Heap}
/-! ### loggers -/
def fLg (t : Addr) (y : V) (n l : V) (hl fl : Addr) (p : V) : List (Str × V) := [("tree", .ref t), ("yard", y), ("name", n), ("level", l), ("propagate", .bl true), ("disabled", .bl false), ("handlers", .ref hl), ("filters", .ref fl), ("parent", p)]
def spLogger (C : Addr) (K : PySem.W.Frag) : Sp := fun vs H Q _ => Hd (∃ (x dx t CT dt : Addr) (ft : List (Str × V)) (y n l p : V), vs = [.ref x, .ref t, n, l, p] ∧ H x = some (.ins C dx []) ∧ H t = some (.ins CT dt ft) ∧ Cls K CT ∧ NoAttr K CT "yard" ∧ ft.lookup ("yard" : Str) = some y ∧ x ≠ t ∧
  ∀ H' hl fl, H' x = some (.ins C dx (fLg t y n l hl fl p)) → H' hl = some (.lst []) → H' fl = some (.lst []) → H hl = none → H fl = none → hl ≠ fl → SameX x H H' → Q .non H')
theorem ok_logger (T : Txt K mg) : FnOk P w K mg base CX0 1 T.a_Logger_init T.fd_Logger_init ["self", "tree", "name", "level", "parent"] (spLogger T.C_Logger K) := by
  refine T.F_Logger_init.ok sc_Logger___init__ (fun vs H Q E h => ?_) (fun cdv A outer s H vs Q E hr h => ?_)
  · obtain ⟨x, dx, t, CT, dt, ft, y, n, l, p, rfl, _⟩ := h.out
    rfl
  · obtain ⟨x, dx, t, CT, dt, ft, y, n, l, p, rfl, hx, ht, cT, nT, lt, xt, k⟩ := h.out
    have tx : t ≠ x := xt.symm
    refine ⟨_, (pss_cons (ps_fld (pv 0) (pv 1) rfl)
  (pss_cons (ps_fld (pv 0) (pe_fld (pv 1) rfl) rfl)
  (pss_cons (ps_fld (pv 0) (pv 2) rfl)
  (pss_cons (ps_fld (pv 0) (pv 3) rfl)
  (pss_cons (ps_fld (pv 0) pe_bl rfl)
  (pss_cons (ps_fld (pv 0) pe_bl rfl)
  (pss_cons (ps_fld (pv 0) (pe_lst pa_nil) rfl)
  (pss_cons (ps_fld (pv 0) (pe_lst pa_nil) rfl)
  (pss_one (ps_fld (pv 0) (pv 4) rfl)))))))))), ?_⟩
    walk_at "st"
    refine ⟨x, T.C_Logger, dx, _, rfl, hx, T.o_Logger.cl, T.o_Logger.na _ (by decide), Nat.le_of_ble_eq_true rfl, ?_⟩
    walk_at "st"
    refine ⟨t, CT, dt, ft, y, rfl, by walk_at "hp", cT, nT, lt, ?_⟩
    walk_at "st"
    refine ⟨x, T.C_Logger, dx, _, rfl, upd_same, T.o_Logger.cl, T.o_Logger.na _ (by decide), Nat.le_of_ble_eq_true rfl, ?_⟩
    walk_at "st"
    refine ⟨x, T.C_Logger, dx, _, rfl, upd_same, T.o_Logger.cl, T.o_Logger.na _ (by decide), Nat.le_of_ble_eq_true rfl, ?_⟩
    walk_at "st"
    refine ⟨x, T.C_Logger, dx, _, rfl, upd_same, T.o_Logger.cl, T.o_Logger.na _ (by decide), Nat.le_of_ble_eq_true rfl, ?_⟩
    walk_at "st"
    refine ⟨x, T.C_Logger, dx, _, rfl, upd_same, T.o_Logger.cl, T.o_Logger.na _ (by decide), Nat.le_of_ble_eq_true rfl, ?_⟩
    walk_at "st"
    refine ⟨x, T.C_Logger, dx, _, rfl, upd_same, T.o_Logger.cl, T.o_Logger.na _ (by decide), Nat.le_of_ble_eq_true rfl, ?_⟩
    walk_at "st"
    intro hl hh
    have xh : x ≠ hl := ne_of_none upd_same hh
    have hh0 : H hl = none := by rw [upd_ne xh.symm, upd_ne xh.symm, upd_ne xh.symm, upd_ne xh.symm, upd_ne xh.symm, upd_ne xh.symm] at hh; exact hh
    walk_at "st"
    refine ⟨x, T.C_Logger, dx, _, rfl, by rw [upd_ne xh]; exact upd_same, T.o_Logger.cl, T.o_Logger.na _ (by decide), Nat.le_of_ble_eq_true rfl, ?_⟩
    walk_at "st"
    intro fl hf
    have xf : x ≠ fl := ne_of_none upd_same hf
    have hfl : hl ≠ fl := ne_of_none (by rw [upd_ne xh.symm]; exact upd_same) hf
    have hf0 : H fl = none := by rw [upd_ne xf.symm, upd_ne hfl.symm, upd_ne xf.symm, upd_ne xf.symm, upd_ne xf.symm, upd_ne xf.symm, upd_ne xf.symm, upd_ne xf.symm] at hf; exact hf
    walk_at "st"
    refine ⟨x, T.C_Logger, dx, _, rfl, by rw [upd_ne xf]; exact upd_same, T.o_Logger.cl, T.o_Logger.na _ (by decide), Nat.le_of_ble_eq_true rfl, ?_⟩
    walk_at "st"
    refine ⟨x, T.C_Logger, dx, _, rfl, upd_same, T.o_Logger.cl, T.o_Logger.na _ (by decide), Nat.le_of_ble_eq_true rfl, ?_⟩
    exact k _ hl fl upd_same (by walk_at "hp") (by walk_at "hp") hh0 hf0 hfl ((((((((((((SameX.refl _ _).put).put).put).put).put).put).new hh0).put).new hf0).put).put)
/-! ### the tree -/
def fTr (y lv ck lr nm rt : Addr) : List (Str × V) := [("yard", .ref y), ("levels", .ref lv), ("clock", .ref ck), ("last_resort", .ref lr), ("barred", .int 0), ("named", .ref nm), ("root", .ref rt)]
def spTree (C CL : Addr) : Sp := fun vs H Q _ => Hd (∃ (x dx y lv ck lr : Addr), vs = [.ref x, .ref y, .ref lv, .ref ck, .ref lr] ∧ H x = some (.ins C dx []) ∧
  ∀ H' nm rt drt hl fl, H' x = some (.ins C dx (fTr y lv ck lr nm rt)) → H' nm = some (.dK []) → H' rt = some (.ins CL drt (fLg x (.ref y) (.str (SX.S [114, 111, 111, 116])) (.int 30) hl fl .non)) → H' hl = some (.lst []) → H' fl = some (.lst []) →
    H nm = none → H rt = none → H hl = none → H fl = none → hl ≠ fl → SameX x H H' → Q .non H')
theorem ok_tree (T : Txt K mg) : FnOk P w K mg base CX0 3 T.a_LoggerTree_init T.fd_LoggerTree_init ["self", "yard", "levels", "clock", "last_resort"] (spTree T.C_LoggerTree T.C_Logger) := by
  have G_Logger : FnOk P w K mg base CX0 1 _ _ _ (spLogger T.C_Logger K) := ok_logger T
  refine T.F_LoggerTree_init.ok sc_LoggerTree___init__ (fun vs H Q E h => ?_) (fun cdv A outer s H vs Q E hr h => ?_)
  · obtain ⟨x, dx, y, lv, ck, lr, rfl, _⟩ := h.out
    rfl
  · obtain ⟨x, dx, y, lv, ck, lr, rfl, hx, k⟩ := h.out
    refine ⟨_, (pss_cons (ps_fld (pv 0) (pv 1) rfl)
  (pss_cons (ps_fld (pv 0) (pv 2) rfl)
  (pss_cons (ps_fld (pv 0) (pv 3) rfl)
  (pss_cons (ps_fld (pv 0) (pv 4) rfl)
  (pss_cons (ps_fld (pv 0) (C8.pe_gc rfl T.k_NOTSET) rfl)
  (pss_cons (ps_fld (pv 0) pe_dnewK rfl)
  (pss_one (ps_fld (pv 0) (pe_make T.M_Logger G_Logger (hr.mono (by first | decide | omega)) rfl T.g_Logger T.b_Logger_init .nil pass0 (pa_cons (pv 0) (pa_cons (SL.pe_strL [114, 111, 111, 116] (by decide +kernel)) (pa_cons (C8.pe_gc rfl T.k_WARNING) (pa_cons pe_non pa_nil))))) rfl)))))))), ?_⟩
    walk_at "st"
    refine ⟨x, T.C_LoggerTree, dx, _, rfl, hx, T.o_LoggerTree.cl, T.o_LoggerTree.na _ (by decide), Nat.le_of_ble_eq_true rfl, ?_⟩
    walk_at "st"
    refine ⟨x, T.C_LoggerTree, dx, _, rfl, upd_same, T.o_LoggerTree.cl, T.o_LoggerTree.na _ (by decide), Nat.le_of_ble_eq_true rfl, ?_⟩
    walk_at "st"
    refine ⟨x, T.C_LoggerTree, dx, _, rfl, upd_same, T.o_LoggerTree.cl, T.o_LoggerTree.na _ (by decide), Nat.le_of_ble_eq_true rfl, ?_⟩
    walk_at "st"
    refine ⟨x, T.C_LoggerTree, dx, _, rfl, upd_same, T.o_LoggerTree.cl, T.o_LoggerTree.na _ (by decide), Nat.le_of_ble_eq_true rfl, ?_⟩
    walk_at "st"
    refine ⟨x, T.C_LoggerTree, dx, _, rfl, upd_same, T.o_LoggerTree.cl, T.o_LoggerTree.na _ (by decide), Nat.le_of_ble_eq_true rfl, ?_⟩
    walk_at "st"
    intro nm hn
    have xn : x ≠ nm := ne_of_none upd_same hn
    have hn0 : H nm = none := by rw [upd_ne xn.symm, upd_ne xn.symm, upd_ne xn.symm, upd_ne xn.symm, upd_ne xn.symm] at hn; exact hn
    walk_at "st"
    refine ⟨x, T.C_LoggerTree, dx, _, rfl, by rw [upd_ne xn]; exact upd_same, T.o_LoggerTree.cl, T.o_LoggerTree.na _ (by decide), Nat.le_of_ble_eq_true rfl, ?_⟩
    walk_at "st"
    intro rt drt hr0 hd0 dr
    have xr : x ≠ rt := ne_of_none upd_same hr0
    have xd : x ≠ drt := ne_of_none upd_same hd0
    have nr : nm ≠ rt := ne_of_none (by rw [upd_ne xn.symm]; exact upd_same) hr0
    have nd : nm ≠ drt := ne_of_none (by rw [upd_ne xn.symm]; exact upd_same) hd0
    have hr1 : H rt = none := by rw [upd_ne xr.symm, upd_ne nr.symm, upd_ne xr.symm, upd_ne xr.symm, upd_ne xr.symm, upd_ne xr.symm, upd_ne xr.symm] at hr0; exact hr0
    have hd1 : H drt = none := by rw [upd_ne xd.symm, upd_ne nd.symm, upd_ne xd.symm, upd_ne xd.symm, upd_ne xd.symm, upd_ne xd.symm, upd_ne xd.symm] at hd0; exact hd0
    refine .a ⟨rt, drt, x, T.C_LoggerTree, dx, _, .ref y, _, _, _, rfl, upd_same, by rw [upd_ne xr, upd_ne xd]; exact upd_same, T.o_LoggerTree.cl, T.o_LoggerTree.na _ (by decide), rfl, xr.symm, fun H1 hl fl h1 h2 h3 h4 h5 h6 h7 => ?_⟩
    have x1 := h7 x _ xr (by rw [upd_ne xr, upd_ne xd]; exact upd_same)
    have n1 := h7 nm _ nr (by rw [upd_ne nr, upd_ne nd, upd_ne xn.symm]; exact upd_same)
    have xh : x ≠ hl := fun z => by rw [← z, upd_ne xr, upd_ne xd, upd_same] at h4; cases h4
    have xf : x ≠ fl := fun z => by rw [← z, upd_ne xr, upd_ne xd, upd_same] at h5; cases h5
    have hl0 : H hl = none := by
      have hrl : hl ≠ rt := fun z => by rw [z, upd_same] at h4; cases h4
      have hdl : hl ≠ drt := fun z => by rw [upd_ne hrl, z, upd_same] at h4; cases h4
      have hnl : hl ≠ nm := fun z => by rw [upd_ne hrl, upd_ne hdl, upd_ne xh.symm, z, upd_same] at h4; cases h4
      rw [upd_ne hrl, upd_ne hdl, upd_ne xh.symm, upd_ne hnl, upd_ne xh.symm, upd_ne xh.symm, upd_ne xh.symm, upd_ne xh.symm, upd_ne xh.symm] at h4; exact h4
    have fl0 : H fl = none := by
      have hrl : fl ≠ rt := fun z => by rw [z, upd_same] at h5; cases h5
      have hdl : fl ≠ drt := fun z => by rw [upd_ne hrl, z, upd_same] at h5; cases h5
      have hnl : fl ≠ nm := fun z => by rw [upd_ne hrl, upd_ne hdl, upd_ne xf.symm, z, upd_same] at h5; cases h5
      rw [upd_ne hrl, upd_ne hdl, upd_ne xf.symm, upd_ne hnl, upd_ne xf.symm, upd_ne xf.symm, upd_ne xf.symm, upd_ne xf.symm, upd_ne xf.symm] at h5; exact h5
    have s7 : SameX x H H1 := fun c u cx e => h7 c u (fun z => by rw [z, hr1] at e; cases e) (by rw [upd_ne (fun z => by rw [z, hr1] at e; cases e), upd_ne (fun z => by rw [z, hd1] at e; cases e), upd_ne cx, upd_ne (fun z => by rw [z, hn0] at e; cases e), upd_ne cx, upd_ne cx, upd_ne cx, upd_ne cx, upd_ne cx]; exact e)
    walk_at "st"
    refine ⟨x, T.C_LoggerTree, dx, _, rfl, x1, T.o_LoggerTree.cl, T.o_LoggerTree.na _ (by decide), Nat.le_of_ble_eq_true rfl, ?_⟩
    exact k _ nm rt drt hl fl upd_same (by rw [upd_ne xn.symm]; exact n1) (by rw [upd_ne xr.symm]; exact h1) (by rw [upd_ne xh.symm]; exact h2) (by rw [upd_ne xf.symm]; exact h3) hn0 hr1 hl0 fl0 h6 s7.put
end
end My

namespace My
open PySem PySem.Spec PyProof.Rows L2 SuX
local macro_rules | `(tactic| walk_at "hp") => `(tactic| first | assumption | exact upd_same | (refine Eq.trans (upd_ne (by first | assumption | (apply Ne.symm; assumption))) ?_; walk_at "hp"))
local macro_rules | `(tactic| walk_at "ixl") => `(tactic| (refine' ⟨_, ?xs, _, ?vv, rfl, rfl, SqL.of ?hh, ?aa, ?qq⟩; (case hh => walk_at "hp"); (case aa => rfl)))
local macro_rules | `(tactic| walk_at "setl") => `(tactic| (refine' ⟨_, ?xs, _, ?jj, rfl, rfl, ?hh, ?aa, ?qq⟩; (case hh => walk_at "hp"); (case aa => rfl)))
local macro_rules | `(tactic| walk_at "cond") => `(tactic| first | exact ⟨_, rfl⟩ | exact Nat.le_of_lt (small1000 (Nat.le_of_ble_eq_true rfl)) | decide | omega | (dsimp only; omega) | exact ⟨by decide, by decide⟩ | exact Or.inr ⟨by decide, by decide⟩ | exact Or.inl ⟨by decide, by decide⟩ | exact ⟨by decide, by decide, by decide⟩ | exact ⟨by omega, by omega⟩ | exact ⟨by omega, by omega, by omega⟩ | (simp only [List.length_cons, List.length_nil, List.length_append, List.length_take, List.length_drop]; omega) | (refine ⟨?_, ?_, ?_⟩ <;> first | decide | omega | (simp only [List.length_cons, List.length_nil, List.length_append, List.length_take, List.length_drop, Option.getD_some, Option.getD_none]; omega)))
local macro_rules | `(tactic| walk_at "st") => `(tactic| repeat (first | refine ⟨_, rfl, ?_⟩ | refine ⟨_, _, rfl, rfl, ?_⟩ | walk_at "ixl" | walk_at "setl" | refine ⟨rfl, ?_⟩ | refine Or.inl ⟨_, rfl, ?_⟩ | refine And.intro (by walk_at "cond") ?_))
theorem fc {α : Type} {p : α → Prop} {a : α} {l : List α} (h : p a) (t : ∀ x ∈ l, p x) : ∀ x ∈ a :: l, p x := List.forall_mem_cons.mpr ⟨h, t⟩
theorem fz {α : Type} {p : α → Prop} : ∀ x ∈ ([] : List α), p x := fun _ h => absurd h List.not_mem_nil
structure YA where
  (ck dck lv dlv n1 n2 ss dss sk fs dfs fk ro dro hl ld fl lr dlr lf tr dtr nm rt drt rh rf : Addr)
section
variable {P : Program} {w : World} {K : PySem.W.Frag} {mg : Str → Option Value} {base : Heap}
def sErr : List Nat := [115, 116, 100, 101, 114, 114]
def sRoot : List Nat := [114, 111, 111, 116]
/-- what Yard() lays besides the yard -/
def YL (T : Txt K mg) (y : Addr) (v : V) (Y : YA) : List (Addr × HO) :=
  [(Y.ck, .ins T.C_Clock Y.dck [("shown", v)]), (Y.lv, .ins T.C_LevelTable Y.dlv (fLv Y.n1 Y.n2)), (Y.n1, .dK firstNames), (Y.n2, .dK firstNumbers), (Y.ss, .ins T.C_Store Y.dss (fSt Y.ck Y.sk)), (Y.sk, .dK []), (Y.fs, .ins T.C_Store Y.dfs (fSt Y.ck Y.fk)), (Y.fk, .dK []),
   (Y.ro, .ins T.C_Roster Y.dro (fRo Y.hl Y.ld Y.fl)), (Y.ld, .dK []), (Y.fl, .lst []), (Y.lr, .ins T.C_StreamHandler Y.dlr (fSh y Y.lf sErr)), (Y.lf, .lst []), (Y.hl, .lst [.ref Y.lr]),
   (Y.tr, .ins T.C_LoggerTree Y.dtr (fTr y Y.lv Y.ck Y.lr Y.nm Y.rt)), (Y.nm, .dK []), (Y.rt, .ins T.C_Logger Y.drt (fLg Y.tr (.ref y) (.str (SX.S sRoot)) (.int 30) Y.rh Y.rf .non)), (Y.rh, .lst []), (Y.rf, .lst [])]
def fYd (Y : YA) : List (Str × V) := [("clock", .ref Y.ck), ("levels", .ref Y.lv), ("stream_store", .ref Y.ss), ("file_store", .ref Y.fs), ("roster", .ref Y.ro), ("tree", .ref Y.tr), ("root", .ref Y.rt)]
def spYard (T : Txt K mg) : Sp := fun vs H Q _ => Hd (∃ (x dx : Addr) (v : V), vs = [.ref x, v] ∧ H x = some (.ins T.C_Yard dx []) ∧ ∀ H' (Y : YA), TK H x (YL T x v Y) H' → H' x = some (.ins T.C_Yard dx (fYd Y)) → Q .non H')
theorem ok_yard (T : Txt K mg) (Z : Dct P w K mg T) : FnOk P w K mg base CX0 5 T.a_Yard_init T.fd_Yard_init ["self", "now"] (spYard T) := by
  have G_Clock : FnOk P w K mg base CX0 1 _ _ _ (spClock T.C_Clock) := ok_clock T
  have G_LevelTable : FnOk P w K mg base CX0 1 _ _ _ (spLevels T.C_LevelTable) := ok_levels T Z
  have G_Store : FnOk P w K mg base CX0 1 _ _ _ (spStore T.C_Store) := ok_store T
  have G_Roster : FnOk P w K mg base CX0 1 _ _ _ (spRoster T.C_Roster) := ok_roster T
  have G_StreamHandler : FnOk P w K mg base CX0 3 _ _ _ (spStream T.C_StreamHandler T.C_Roster K) := ok_stream T Z
  have G_LoggerTree : FnOk P w K mg base CX0 3 _ _ _ (spTree T.C_LoggerTree T.C_Logger) := ok_tree T
  obtain ⟨dsS, hdS, hbS⟩ := T.dd_StreamHandler_init
  refine T.F_Yard_init.ok sc_Yard___init__ (fun vs H Q E h => ?_) (fun cdv A outer s H vs Q E hr h => ?_)
  · obtain ⟨x, dx, v, rfl, _⟩ := h.out
    rfl
  · obtain ⟨x, dx, v, rfl, hx, k⟩ := h.out
    refine ⟨_, (pss_cons (ps_fld (pv 0) (pe_make T.M_Clock G_Clock (hr.mono (by first | decide | omega)) rfl T.g_Clock T.b_Clock_init .nil pass0 (pa_cons (pv 1) pa_nil)) rfl)
  (pss_cons (ps_fld (pv 0) (pe_make0 T.M_LevelTable G_LevelTable (hr.mono (by first | decide | omega)) rfl T.g_LevelTable T.b_LevelTable_init .nil pass0) rfl)
  (pss_cons (ps_fld (pv 0) (pe_make T.M_Store G_Store (hr.mono (by first | decide | omega)) rfl T.g_Store T.b_Store_init .nil pass0 (pa_cons (pe_fld (pv 0) rfl) pa_nil)) rfl)
  (pss_cons (ps_fld (pv 0) (pe_make T.M_Store G_Store (hr.mono (by first | decide | omega)) rfl T.g_Store T.b_Store_init .nil pass0 (pa_cons (pe_fld (pv 0) rfl) pa_nil)) rfl)
  (pss_cons (ps_fld (pv 0) (pe_make0 T.M_Roster G_Roster (hr.mono (by first | decide | omega)) rfl T.g_Roster T.b_Roster_init .nil pass0) rfl)
  (pss_cons (ps_fld (pv 0) (pe_make T.M_LoggerTree G_LoggerTree (hr.mono (by first | decide | omega)) rfl T.g_LoggerTree T.b_LoggerTree_init .nil pass0 (pa_cons (pv 0) (pa_cons (pe_fld (pv 0) rfl) (pa_cons (pe_fld (pv 0) rfl) (pa_cons (pe_make T.M_StreamHandler G_StreamHandler (hr.mono (by first | decide | omega)) rfl T.g_StreamHandler hbS hdS pass0 (pa_cons (pv 0) pa_nil)) pa_nil))))) rfl)
  (pss_one (ps_fld (pv 0) (pe_fld (pe_fld (pv 0) rfl) rfl) rfl)))))))), ?_⟩
    walk_at "st"
    intro ck dck c1 c2 c3
    refine .a ⟨ck, dck, v, rfl, upd_same, fun H1 h1 s1 => ?_⟩
    obtain ⟨t1, x1⟩ := (TK.nil H x).lay hx c1 c2 (N := [(ck, _)]) (fc ⟨h1, .inl rfl⟩ fz) (by simp) s1
    walk_at "st"
    refine ⟨x, T.C_Yard, dx, _, rfl, x1, T.o_Yard.cl, T.o_Yard.na _ (by decide), Nat.le_of_ble_eq_true rfl, ?_⟩
    have t1 := t1.setx (o := .ins T.C_Yard dx (putF "clock" (.ref ck) []))
    have x1 : upd H1 x (.ins T.C_Yard dx (putF "clock" (.ref ck) [])) x = _ := upd_same
    generalize upd H1 x (.ins T.C_Yard dx (putF "clock" (.ref ck) [])) = G1 at t1 x1 ⊢
    walk_at "st"
    intro lv dlv c1 c2 c3
    refine .a ⟨lv, dlv, rfl, upd_same, fun H2 n1 n2 h1 h2 h3 h4 h5 h6 s2 => ?_⟩
    have e1 := (mkH_none h4).1
    have e2 := (mkH_none h5).1
    obtain ⟨t2, x2⟩ := t1.lay x1 c1 c2 (N := [(lv, _), (n1, _), (n2, _)]) (fc ⟨h1, .inl rfl⟩ (fc ⟨h2, .inr h4⟩ (fc ⟨h3, .inr h5⟩ fz))) (by simp [e1.symm, e2.symm, h6]) s2
    walk_at "st"
    refine ⟨x, T.C_Yard, dx, _, rfl, x2, T.o_Yard.cl, T.o_Yard.na _ (by decide), Nat.le_of_ble_eq_true rfl, ?_⟩
    have t2 := t2.setx (o := .ins T.C_Yard dx (putF "levels" (.ref lv) (putF "clock" (.ref ck) [])))
    have x2 : upd H2 x (.ins T.C_Yard dx (putF "levels" (.ref lv) (putF "clock" (.ref ck) []))) x = _ := upd_same
    generalize upd H2 x (.ins T.C_Yard dx (putF "levels" (.ref lv) (putF "clock" (.ref ck) []))) = G2 at t2 x2 ⊢
    walk_at "st"
    refine ⟨x, T.C_Yard, dx, _, .ref ck, rfl, x2, T.o_Yard.cl, T.o_Yard.na _ (by decide), rfl, ?_⟩
    walk_at "st"
    intro ss dss c1 c2 c3
    refine .a ⟨ss, dss, ck, rfl, upd_same, fun H3 sk h1 h2 h3 s3 => ?_⟩
    have e1 := (mkH_none h3).1
    obtain ⟨t3, x3⟩ := t2.lay x2 c1 c2 (N := [(ss, _), (sk, _)]) (fc ⟨h1, .inl rfl⟩ (fc ⟨h2, .inr h3⟩ fz)) (by simp [e1.symm]) s3
    walk_at "st"
    refine ⟨x, T.C_Yard, dx, _, rfl, x3, T.o_Yard.cl, T.o_Yard.na _ (by decide), Nat.le_of_ble_eq_true rfl, ?_⟩
    have t3 := t3.setx (o := .ins T.C_Yard dx (putF "stream_store" (.ref ss) (putF "levels" (.ref lv) (putF "clock" (.ref ck) []))))
    have x3 : upd H3 x (.ins T.C_Yard dx (putF "stream_store" (.ref ss) (putF "levels" (.ref lv) (putF "clock" (.ref ck) [])))) x = _ := upd_same
    generalize upd H3 x (.ins T.C_Yard dx (putF "stream_store" (.ref ss) (putF "levels" (.ref lv) (putF "clock" (.ref ck) [])))) = G3 at t3 x3 ⊢
    walk_at "st"
    refine ⟨x, T.C_Yard, dx, _, .ref ck, rfl, x3, T.o_Yard.cl, T.o_Yard.na _ (by decide), rfl, ?_⟩
    walk_at "st"
    intro fs dfs c1 c2 c3
    refine .a ⟨fs, dfs, ck, rfl, upd_same, fun H4 fk h1 h2 h3 s4 => ?_⟩
    have e1 := (mkH_none h3).1
    obtain ⟨t4, x4⟩ := t3.lay x3 c1 c2 (N := [(fs, _), (fk, _)]) (fc ⟨h1, .inl rfl⟩ (fc ⟨h2, .inr h3⟩ fz)) (by simp [e1.symm]) s4
    walk_at "st"
    refine ⟨x, T.C_Yard, dx, _, rfl, x4, T.o_Yard.cl, T.o_Yard.na _ (by decide), Nat.le_of_ble_eq_true rfl, ?_⟩
    have t4 := t4.setx (o := .ins T.C_Yard dx (putF "file_store" (.ref fs) (putF "stream_store" (.ref ss) (putF "levels" (.ref lv) (putF "clock" (.ref ck) [])))))
    have x4 : upd H4 x (.ins T.C_Yard dx (putF "file_store" (.ref fs) (putF "stream_store" (.ref ss) (putF "levels" (.ref lv) (putF "clock" (.ref ck) []))))) x = _ := upd_same
    generalize upd H4 x (.ins T.C_Yard dx (putF "file_store" (.ref fs) (putF "stream_store" (.ref ss) (putF "levels" (.ref lv) (putF "clock" (.ref ck) []))))) = G4 at t4 x4 ⊢
    walk_at "st"
    intro ro dro c1 c2 c3
    refine .a ⟨ro, dro, rfl, upd_same, fun H5 hl ld fl h1 h2 h3 h4 h5 h6 h7 g1 g2 g3 s5 => ?_⟩
    have e1 := (mkH_none h5).1
    have e2 := (mkH_none h6).1
    have e3 := (mkH_none h7).1
    obtain ⟨t5, x5⟩ := t4.lay x4 c1 c2 (N := [(ro, _), (ld, _), (fl, _), (hl, _)]) (fc ⟨h1, .inl rfl⟩ (fc ⟨h3, .inr h6⟩ (fc ⟨h4, .inr h7⟩ (fc ⟨h2, .inr h5⟩ fz)))) (by simp [e1.symm, e2.symm, e3.symm, g1.symm, g2.symm, g3]) s5
    walk_at "st"
    refine ⟨x, T.C_Yard, dx, _, rfl, x5, T.o_Yard.cl, T.o_Yard.na _ (by decide), Nat.le_of_ble_eq_true rfl, ?_⟩
    have t5 := t5.setx (o := .ins T.C_Yard dx (putF "roster" (.ref ro) (putF "file_store" (.ref fs) (putF "stream_store" (.ref ss) (putF "levels" (.ref lv) (putF "clock" (.ref ck) []))))))
    have x5 : upd H5 x (.ins T.C_Yard dx (putF "roster" (.ref ro) (putF "file_store" (.ref fs) (putF "stream_store" (.ref ss) (putF "levels" (.ref lv) (putF "clock" (.ref ck) [])))))) x = _ := upd_same
    generalize upd H5 x (.ins T.C_Yard dx (putF "roster" (.ref ro) (putF "file_store" (.ref fs) (putF "stream_store" (.ref ss) (putF "levels" (.ref lv) (putF "clock" (.ref ck) [])))))) = G5 at t5 x5 ⊢
    walk_at "st"
    refine ⟨x, T.C_Yard, dx, _, .ref lv, rfl, x5, T.o_Yard.cl, T.o_Yard.na _ (by decide), rfl, ?_⟩
    walk_at "st"
    refine ⟨x, T.C_Yard, dx, _, .ref ck, rfl, x5, T.o_Yard.cl, T.o_Yard.na _ (by decide), rfl, ?_⟩
    walk_at "st"
    intro lr dlr c1 c2 c3
    have y5 : mkH G5 T.C_StreamHandler lr dlr x = _ := mkH_old c1 c2 x5
    have r5 := t5.at_ (ro, .ins T.C_Roster dro (fRo hl ld fl)) (by simp)
    have a5 := t5.at_ (hl, .lst []) (by simp)
    have xr5 : x ≠ ro := (t5.nx (ro, .ins T.C_Roster dro (fRo hl ld fl)) (by simp)).symm
    have lx : lr ≠ x := (neN x5 c1).symm
    have lro : lr ≠ ro := (neN r5 c1).symm
    refine .a ⟨lr, dlr, x, T.C_Yard, dx, ro, dro, hl, ld, fl, sErr, _, [], rfl, upd_same, y5, T.o_Yard.cl, T.o_Yard.na _ (by decide), rfl, lx, mkH_old c1 c2 r5, lro, mkH_old c1 c2 a5, by decide, fun H6 lf h1 h2 h3 h4 s6 => ?_⟩
    have e1 := (mkH_none h3).1
    have t5' : TK H x ([(ck, .ins T.C_Clock dck [("shown", v)]), (lv, .ins T.C_LevelTable dlv (fLv n1 n2)), (n1, .dK firstNames), (n2, .dK firstNumbers), (ss, .ins T.C_Store dss (fSt ck sk)), (sk, .dK []), (fs, .ins T.C_Store dfs (fSt ck fk)), (fk, .dK []),
      (ro, .ins T.C_Roster dro (fRo hl ld fl)), (ld, .dK []), (fl, .lst [])] ++ [(hl, .lst [])]) G5 := t5
    obtain ⟨t6, x6⟩ := t5'.layY x5 c1 c2 h4 (N := [(lr, _), (lf, _)]) (fc ⟨h1, .inl rfl⟩ (fc ⟨h2, .inr h3⟩ fz)) (by simp [e1.symm]) s6
    walk_at "st"
    intro tr dtr c1 c2 c3
    refine .a ⟨tr, dtr, x, lv, ck, lr, rfl, upd_same, fun H7 nm rt drt rh rf h1 h2 h3 h4 h5 h6 h7 h8 h9 g1 s7 => ?_⟩
    have e1 := (mkH_none h6).1
    have e2 := (mkH_none h7).1
    have e3 := (mkH_none h8).1
    have e4 := (mkH_none h9).1
    have f1 : nm ≠ rt := fun z => by rw [z, h3] at h2; cases h2
    have f2 : nm ≠ rh := fun z => by rw [z, h4] at h2; cases h2
    have f3 : nm ≠ rf := fun z => by rw [z, h5] at h2; cases h2
    have f4 : rt ≠ rh := fun z => by rw [z, h4] at h3; cases h3
    have f5 : rt ≠ rf := fun z => by rw [z, h5] at h3; cases h3
    obtain ⟨t7, x7⟩ := t6.lay x6 c1 c2 (N := [(tr, _), (nm, _), (rt, _), (rh, _), (rf, _)]) (fc ⟨h1, .inl rfl⟩ (fc ⟨h2, .inr h6⟩ (fc ⟨h3, .inr h7⟩ (fc ⟨h4, .inr h8⟩ (fc ⟨h5, .inr h9⟩ fz))))) (by simp [e1.symm, e2.symm, e3.symm, e4.symm, f1, f2, f3, f4, f5, g1]) s7
    walk_at "st"
    refine ⟨x, T.C_Yard, dx, _, rfl, x7, T.o_Yard.cl, T.o_Yard.na _ (by decide), Nat.le_of_ble_eq_true rfl, ?_⟩
    have t7 := t7.setx (o := .ins T.C_Yard dx (putF "tree" (.ref tr) (putF "roster" (.ref ro) (putF "file_store" (.ref fs) (putF "stream_store" (.ref ss) (putF "levels" (.ref lv) (putF "clock" (.ref ck) [])))))))
    have x7 : upd H7 x (.ins T.C_Yard dx (putF "tree" (.ref tr) (putF "roster" (.ref ro) (putF "file_store" (.ref fs) (putF "stream_store" (.ref ss) (putF "levels" (.ref lv) (putF "clock" (.ref ck) []))))))) x = _ := upd_same
    generalize upd H7 x (.ins T.C_Yard dx (putF "tree" (.ref tr) (putF "roster" (.ref ro) (putF "file_store" (.ref fs) (putF "stream_store" (.ref ss) (putF "levels" (.ref lv) (putF "clock" (.ref ck) []))))))) = G7 at t7 x7 ⊢
    walk_at "st"
    refine ⟨x, T.C_Yard, dx, _, .ref tr, rfl, x7, T.o_Yard.cl, T.o_Yard.na _ (by decide), rfl, ?_⟩
    have r7 := t7.at_ (tr, .ins T.C_LoggerTree dtr (fTr x lv ck lr nm rt)) (by simp)
    refine ⟨tr, T.C_LoggerTree, dtr, _, .ref rt, rfl, r7, T.o_LoggerTree.cl, T.o_LoggerTree.na _ (by decide), rfl, ?_⟩
    walk_at "st"
    refine ⟨x, T.C_Yard, dx, _, rfl, x7, T.o_Yard.cl, T.o_Yard.na _ (by decide), Nat.le_of_ble_eq_true rfl, ?_⟩
    exact k _ ⟨ck, dck, lv, dlv, n1, n2, ss, dss, sk, fs, dfs, fk, ro, dro, hl, ld, fl, lr, dlr, lf, tr, dtr, nm, rt, drt, rh, rf⟩ t7.setx upd_same
end
end My

namespace My
open PySem PySem.Spec PyProof.Rows L2 SuX
local macro_rules | `(tactic| walk_at "hp") => `(tactic| first | assumption | exact upd_same | (refine Eq.trans (upd_ne (by first | assumption | (apply Ne.symm; assumption))) ?_; walk_at "hp"))
local macro_rules | `(tactic| walk_at "ixl") => `(tactic| (refine' ⟨_, ?xs, _, ?vv, rfl, rfl, SqL.of ?hh, ?aa, ?qq⟩; (case hh => walk_at "hp"); (case aa => rfl)))
local macro_rules | `(tactic| walk_at "setl") => `(tactic| (refine' ⟨_, ?xs, _, ?jj, rfl, rfl, ?hh, ?aa, ?qq⟩; (case hh => walk_at "hp"); (case aa => rfl)))
local macro_rules | `(tactic| walk_at "cond") => `(tactic| first | exact ⟨_, rfl⟩ | exact Nat.le_of_lt (small1000 (Nat.le_of_ble_eq_true rfl)) | decide | omega | (dsimp only; omega) | exact ⟨by decide, by decide⟩ | exact Or.inr ⟨by decide, by decide⟩ | exact Or.inl ⟨by decide, by decide⟩ | exact ⟨by decide, by decide, by decide⟩ | exact ⟨by omega, by omega⟩ | exact ⟨by omega, by omega, by omega⟩ | (simp only [List.length_cons, List.length_nil, List.length_append, List.length_take, List.length_drop]; omega) | (refine ⟨?_, ?_, ?_⟩ <;> first | decide | omega | (simp only [List.length_cons, List.length_nil, List.length_append, List.length_take, List.length_drop, Option.getD_some, Option.getD_none]; omega)))
local macro_rules | `(tactic| walk_at "st") => `(tactic| repeat (first | refine ⟨_, rfl, ?_⟩ | refine ⟨_, _, rfl, rfl, ?_⟩ | walk_at "ixl" | walk_at "setl" | refine ⟨rfl, ?_⟩ | refine Or.inl ⟨_, rfl, ?_⟩ | refine And.intro (by walk_at "cond") ?_))
section
variable {P : Program} {w : World} {K : PySem.W.Frag} {mg : Str → Option Value} {base : Heap}
def spAdvance (C : Addr) : Sp := fun vs H Q _ => Hd (∃ (x dx : Addr) (i j : Int), vs = [.ref x, .int j] ∧ H x = some (.ins C dx [("shown", .int i)]) ∧ Q .non (upd H x (.ins C dx [("shown", .int (i + j))])))
theorem ok_advance (T : Txt K mg) : FnOk P w K mg base CX0 1 T.a_Clock_advance T.fd_Clock_advance ["self", "milliseconds"] (spAdvance T.C_Clock) := by
  refine T.F_Clock_advance.ok sc_Clock_advance (fun vs H Q E h => ?_) (fun cdv A outer s H vs Q E hr h => ?_)
  · obtain ⟨x, dx, i, j, rfl, _⟩ := h.out
    rfl
  · obtain ⟨x, dx, i, j, rfl, hx, k⟩ := h.out
    refine ⟨_, (pss_one (ps_fldaug (pv 0) (pv 1) in_add)), ?_⟩
    walk_at "st"
    refine ⟨x, T.C_Clock, dx, _, .int i, rfl, hx, T.o_Clock.cl, T.o_Clock.na _ (by decide), rfl, ?_⟩
    walk_at "st"
    exact ⟨dx, _, hx, Nat.le_of_ble_eq_true rfl, k⟩
/-! ### texts that grow -/
/-- all that stands but what is at the addresses of S -/
def FrS (S : List Addr) (H H' : Hp) : Prop := ∀ b u, b ∉ S → H b = some u → H' b = some u
theorem FrS.refl (S : List Addr) (H : Hp) : FrS S H H := fun _ _ _ e => e
theorem FrS.trans {S : List Addr} {H H1 H2 : Hp} (a : FrS S H H1) (b : FrS S H1 H2) : FrS S H H2 := fun c u n e => b c u n (a c u n e)
theorem FrS.mono {S S' : List Addr} {H H' : Hp} (a : FrS S H H') (h : ∀ b ∈ S, b ∈ S' ∨ H b = none) : FrS S' H H' := fun c u n e => a c u (fun z => (h c z).elim n fun q => by rw [q] at e; cases e) e
theorem FrS.put {S : List Addr} {H H' : Hp} {x : Addr} {o : HO} (a : FrS S H H') (h : x ∈ S) : FrS S H (upd H' x o) := fun c u n e => by
  have cx : c ≠ x := fun z => n (by rw [z]; exact h)
  rw [upd_ne cx]; exact a c u n e
theorem FrS.new {S : List Addr} {H H' : Hp} {x : Addr} {o : HO} (a : FrS S H H') (h : H x = none) : FrS S H (upd H' x o) := fun c u n e => by rw [upd_ne (fun z => by rw [z, h] at e; cases e)]; exact a c u n e
theorem SameX.frS {x : Addr} {S : List Addr} {H H' : Hp} (s : SameX x H H') (h : x ∈ S) : FrS S H H' := fun c u n e => s c u (fun z => n (by rw [z]; exact h)) e
theorem joinL_flat : ∀ xs : List (List Nat), TL.joinL [] xs = xs.flatten
  | [] => rfl
  | [a] => by simp [TL.joinL]
  | a :: b :: r => by
    show a ++ ([] ++ TL.joinL [] (b :: r)) = _
    rw [joinL_flat (b :: r)]; rfl
def txS (ts : List (List Nat)) : List V := ts.map fun t => V.str (SX.S t)
structure WrAt (C : Addr) (H : Hp) (x pa : Addr) (l : List Nat) (n : Nat) : Prop where
  ex : ∃ (dx : Addr) (t : V) (ts : List (List Nat)), H x = some (.ins C dx (fWr pa l.length t)) ∧ H pa = some (.lst (txS ts)) ∧ ts.flatten = l ∧ ts.length ≤ n
def spGrow (C : Addr) : Sp := fun vs H Q _ => Hd (∃ (x pa : Addr) (l m : List Nat) (n : Nat) (t : V), vs = [.ref x, .str (SX.S m), t] ∧ WrAt C H x pa l n ∧ n ≤ 100000 ∧ m.length ≤ 100000 ∧ ∀ H', WrAt C H' x pa (l ++ m) (n + 1) → FrS [x, pa] H H' → Q .non H')
theorem ok_grow (T : Txt K mg) : FnOk P w K mg base CX0 1 T.a_Written_grow T.fd_Written_grow ["self", "text", "time"] (spGrow T.C_Written) := by
  refine T.F_Written_grow.ok sc_Written_grow (fun vs H Q E h => ?_) (fun cdv A outer s H vs Q E hr h => ?_)
  · obtain ⟨x, pa, l, m, n, t, rfl, _⟩ := h.out
    rfl
  · obtain ⟨x, pa, l, m, n, t, rfl, W, hn, hm, k⟩ := h.out
    obtain ⟨dx, t0, ts, hx, hp, hl, hz⟩ := W.ex
    have xp : x ≠ pa := fun z => by rw [z, hp] at hx; cases hx
    have px : pa ≠ x := xp.symm
    have hz' : (txS ts).length < sizeLine := by
      have : (txS ts).length = ts.length := List.length_map ..
      exact Nat.lt_of_le_of_lt (show (txS ts).length ≤ 100000 by omega) (by decide)
    refine ⟨_, (pss_cons (ps_expr (pe_bm PySem.F.plainAttrs_list PySem.F.slot_list_append PySem.F.type_list_append mt_append (pe_fld (pv 0) rfl) (pa_cons (pv 1) pa_nil)))
  (pss_cons (ps_fldaug (pv 0) (pe_callB SL.call_lenL (by rfl) T.B.n_len (by decide +kernel) (pa_cons (pv 1) pa_nil)) in_add)
  (pss_one (ps_fld (pv 0) (pv 2) rfl)))), ?_⟩
    walk_at "st"
    refine ⟨x, T.C_Written, dx, _, .ref pa, rfl, hx, T.o_Written.cl, T.o_Written.na _ (by decide), rfl, ?_⟩
    walk_at "st"
    refine ⟨.inl ⟨rfl, _, SqL.of hp⟩, ?_⟩
    walk_at "st"
    refine ⟨_, _, _, rfl, rfl, hp, hz', ?_⟩
    walk_at "st"
    refine ⟨x, T.C_Written, dx, _, .int l.length, rfl, by walk_at "hp", T.o_Written.cl, T.o_Written.na _ (by decide), rfl, ?_⟩
    walk_at "st"
    refine ⟨dx, _, by walk_at "hp", Nat.le_of_ble_eq_true rfl, ?_⟩
    walk_at "st"
    refine ⟨x, T.C_Written, dx, _, rfl, upd_same, T.o_Written.cl, T.o_Written.na _ (by decide), Nat.le_of_ble_eq_true rfl, ?_⟩
    have e1 : (l.length : Int) + (m.length : Int) = ((l ++ m).length : Int) := by rw [List.length_append]; omega
    refine k _ ⟨dx, t, ts ++ [m], ?_, ?_, ?_, ?_⟩ ((((FrS.refl _ H).put (by simp)).put (by simp)).put (by simp))
    · rw [← e1]; exact upd_same
    · rw [upd_ne px, upd_ne px]; unfold txS; rw [List.map_append]; exact upd_same
    · rw [List.flatten_append, hl]; simp
    · rw [List.length_append]; show ts.length + 1 ≤ n + 1; omega
theorem sum_len : ∀ ls : List (List Nat), ((ls.map SX.S).map (·.length)).sum = ls.flatten.length
  | [] => rfl
  | c :: r => by
    have := sum_len r
    simp only [List.map_cons, List.sum_cons, List.flatten_cons, List.length_append] at this ⊢
    rw [this, SX.S_len]
theorem txS_S (ts : List (List Nat)) : txS ts = (ts.map SX.S).map V.str := by
  unfold txS
  rw [List.map_map]
  rfl
/-- the text as one; the parts are one behind it -/
def spWhole (C : Addr) : Sp := fun vs H Q _ => Hd (∃ (x pa : Addr) (l : List Nat) (n : Nat), vs = [.ref x] ∧ WrAt C H x pa l n ∧ l.length ≤ 100000 ∧ ∀ H' pa', WrAt C H' x pa' l 1 → H pa' = none → FrS [x] H H' → Q (.str (SX.S l)) H')
theorem ok_whole (T : Txt K mg) : FnOk P w K mg base CX0 1 T.a_Written_whole T.fd_Written_whole ["self"] (spWhole T.C_Written) := by
  refine T.F_Written_whole.ok sc_Written_whole (fun vs H Q E h => ?_) (fun cdv A outer s H vs Q E hr h => ?_)
  · obtain ⟨x, pa, l, n, rfl, _⟩ := h.out
    rfl
  · obtain ⟨x, pa, l, n, rfl, W, hn, k⟩ := h.out
    obtain ⟨dx, t0, ts, hx, hp, hl, hz⟩ := W.ex
    refine ⟨_, (pss_cons (ps_set (i := 1) sc_Written_whole.nd rfl (by first | exact Or.inl rfl | exact Or.inr rfl) (pe_join (SL.pe_strL [] (by decide +kernel)) (pe_fld (pv 0) rfl)))
  (pss_cons (ps_fld (pv 0) (pe_lst (pa_cons (pv 1) pa_nil)) rfl)
  (pss_one (ps_ret (pv 1))))), ?_⟩
    walk_at "st"
    refine ⟨x, T.C_Written, dx, _, .ref pa, rfl, hx, T.o_Written.cl, T.o_Written.na _ (by decide), rfl, ?_⟩
    refine ⟨_, pa, ts.map SX.S, rfl, rfl, .inl (SqL.of (by rw [hp, txS_S])), ?_, ?_⟩
    · rw [sum_len, hl]; show _ + _ * 0 ≤ _; omega
    have ej : Txt.join (SX.S []) (ts.map SX.S) = SX.S l := by rw [SX.join_S, joinL_flat, hl]
    rw [ej]
    walk_at "st"
    intro pa' hp'
    have xp : x ≠ pa' := ne_of_none hx hp'
    walk_at "st"
    refine ⟨x, T.C_Written, dx, _, rfl, by rw [upd_ne xp]; exact hx, T.o_Written.cl, T.o_Written.na _ (by decide), Nat.le_of_ble_eq_true rfl, ?_⟩
    walk_at "st"
    refine k _ pa' ⟨dx, t0, [l], upd_same, by rw [upd_ne xp.symm]; exact upd_same, by simp, Nat.le_refl _⟩ hp' (((FrS.refl _ H).new hp').put (by simp))
end
end My

namespace My
open PySem PySem.Spec PyProof.Rows L2 SuX
local macro_rules | `(tactic| walk_at "hp") => `(tactic| first | assumption | exact upd_same | (refine Eq.trans (upd_ne (by first | assumption | (apply Ne.symm; assumption))) ?_; walk_at "hp"))
local macro_rules | `(tactic| walk_at "ixl") => `(tactic| (refine' ⟨_, ?xs, _, ?vv, rfl, rfl, SqL.of ?hh, ?aa, ?qq⟩; (case hh => walk_at "hp"); (case aa => rfl)))
local macro_rules | `(tactic| walk_at "setl") => `(tactic| (refine' ⟨_, ?xs, _, ?jj, rfl, rfl, ?hh, ?aa, ?qq⟩; (case hh => walk_at "hp"); (case aa => rfl)))
local macro_rules | `(tactic| walk_at "cond") => `(tactic| first | exact ⟨_, rfl⟩ | exact Nat.le_of_lt (small1000 (Nat.le_of_ble_eq_true rfl)) | decide | omega | (dsimp only; omega) | exact ⟨by decide, by decide⟩ | exact Or.inr ⟨by decide, by decide⟩ | exact Or.inl ⟨by decide, by decide⟩ | exact ⟨by decide, by decide, by decide⟩ | exact ⟨by omega, by omega⟩ | exact ⟨by omega, by omega, by omega⟩ | (simp only [List.length_cons, List.length_nil, List.length_append, List.length_take, List.length_drop]; omega) | (refine ⟨?_, ?_, ?_⟩ <;> first | decide | omega | (simp only [List.length_cons, List.length_nil, List.length_append, List.length_take, List.length_drop, Option.getD_some, Option.getD_none]; omega)))
local macro_rules | `(tactic| walk_at "st") => `(tactic| repeat (first | refine ⟨_, rfl, ?_⟩ | refine ⟨_, _, rfl, rfl, ?_⟩ | walk_at "ixl" | walk_at "setl" | refine ⟨rfl, ?_⟩ | refine Or.inl ⟨_, rfl, ?_⟩ | refine And.intro (by walk_at "cond") ?_))
/-- the map m stands in the dict at kp -/
structure StAt (CW : Addr) (H : Hp) (kp : Addr) (m : SMap) (n : Nat) : Prop where
  hk : H kp = some (.dK (kvS m))
  hw : ∀ e ∈ m, WrAt CW H e.2.wr e.2.pa e.2.l n
  nw : (m.map (·.2.wr)).Nodup
  np : (m.map (·.2.pa)).Nodup
  kd : (m.map (·.1)).Nodup
  len : m.length ≤ 1000
theorem WrAt.mono {C : Addr} {H : Hp} {x pa : Addr} {l : List Nat} {n n' : Nat} (h : WrAt C H x pa l n) (q : n ≤ n') : WrAt C H x pa l n' := by
  obtain ⟨dx, t, ts, h1, h2, h3, h4⟩ := h.ex
  exact ⟨dx, t, ts, h1, h2, h3, Nat.le_trans h4 q⟩
theorem WrAt.keep {C : Addr} {H H' : Hp} {x pa : Addr} {l : List Nat} {n : Nat} (h : WrAt C H x pa l n) (a : ∀ u, H x = some u → H' x = some u) (b : ∀ u, H pa = some u → H' pa = some u) : WrAt C H' x pa l n := by
  obtain ⟨dx, t, ts, h1, h2, h3, h4⟩ := h.ex
  exact ⟨dx, t, ts, a _ h1, b _ h2, h3, h4⟩
theorem nodup_of {α β : Type} (f : α → β) : ∀ {l : List α}, (l.map f).Nodup → ∀ {a b : α}, a ∈ l → b ∈ l → f a = f b → a = b
  | [], _, _, _, ha, _, _ => absurd ha List.not_mem_nil
  | c :: r, nd, a, b, ha, hb, e => by
    have nd' : f c ∉ r.map f ∧ (r.map f).Nodup := List.nodup_cons.mp nd
    rcases List.mem_cons.mp ha with e1 | ha'
    · rcases List.mem_cons.mp hb with e2 | hb'
      · rw [e1, e2]
      · exact absurd (by rw [← e1, e]; exact List.mem_map_of_mem hb') nd'.1
    · rcases List.mem_cons.mp hb with e2 | hb'
      · exact absurd (by rw [← e2, ← e]; exact List.mem_map_of_mem ha') nd'.1
      · exact nodup_of f nd'.2 ha' hb' e
/-- one text is put, or replaced -/
theorem StAt.put {CW : Addr} {H H' : Hp} {kp : Addr} {m : SMap} {n n' : Nat} {k : List Nat} {y : Wn} (s : StAt CW H kp m n) (hk : H' kp = some (.dK (kvS (putM m k y)))) (hy : WrAt CW H' y.wr y.pa y.l n') (hn : n ≤ n') (hl : (putM m k y).length ≤ 1000)
    (fr : ∀ e ∈ m, e.1 ≠ k → ∀ u, (H e.2.wr = some u → H' e.2.wr = some u) ∧ (H e.2.pa = some u → H' e.2.pa = some u)) (ap : ∀ e ∈ m, e.1 ≠ k → e.2.wr ≠ y.wr ∧ e.2.pa ≠ y.pa) : StAt CW H' kp (putM m k y) n' := by
  refine ⟨hk, fun e he => ?_, putM_nd (fun e => e.2.wr) s.kd s.nw fun e he q => (ap e he q).1, putM_nd (fun e => e.2.pa) s.kd s.np fun e he q => (ap e he q).2, ?_, hl⟩
  · rcases putM_mem s.kd e he with z | ⟨z, q⟩
    · rw [z]; exact hy
    · exact ((s.hw e z).keep (fun u => (fr e z q u).1) fun u => (fr e z q u).2).mono hn
  · exact putM_nd (fun e => e.1) s.kd s.kd fun e _ q => q
section
variable {P : Program} {w : World} {K : PySem.W.Frag} {mg : Str → Option Value} {base : Heap}
def spStText (CS CW : Addr) : Sp := fun vs H Q _ => Hd (∃ (x dx ck kp : Addr) (k : List Nat) (m : SMap) (n : Nat), vs = [.ref x, .str (SX.S k)] ∧ H x = some (.ins CS dx (fSt ck kp)) ∧ StAt CW H kp m n ∧ 1 ≤ n ∧ (∀ e ∈ m, e.2.l.length ≤ 100000) ∧
  (getM m k = none → Q (.str (SX.S [])) H) ∧ (∀ y, getM m k = some y → ∀ H' pa', StAt CW H' kp (putM m k ⟨y.wr, pa', y.l⟩) n → H pa' = none → FrS [y.wr] H H' → Q (.str (SX.S y.l)) H'))
theorem ok_sttext (T : Txt K mg) : FnOk P w K mg base CX0 2 T.a_Store_text T.fd_Store_text ["self", "name"] (spStText T.C_Store T.C_Written) := by
  have G_Written_whole : FnOk P w K mg base CX0 1 _ _ _ (spWhole T.C_Written) := ok_whole T
  refine T.F_Store_text.ok sc_Store_text (fun vs H Q E h => ?_) (fun cdv A outer s H vs Q E hr h => ?_)
  · obtain ⟨x, dx, ck, kp, k, m, n, rfl, _⟩ := h.out
    rfl
  · obtain ⟨x, dx, ck, kp, k, m, n, rfl, hx, S, n1, hz, kN, kS⟩ := h.out
    have hu := hu_of hr
    refine ⟨_, (pss_one (ps_ret (pe_ifExp (pt_cmp (pc_din hu (pv 1) (pe_fld (pv 0) rfl))) (pe_meth0 (pe_dget hu (pe_fld (pv 0) rfl) (pv 1) (fun _ _ => rfl)) T.o_Written.cl T.Me_Written_whole G_Written_whole (hr.mono (by first | decide | omega)) T.b_Written_whole .nil pass0) (SL.pe_strL [] (by decide +kernel))))), ?_⟩
    walk_at "st"
    refine ⟨x, T.C_Store, dx, _, .ref kp, rfl, hx, T.o_Store.cl, T.o_Store.na _ (by decide), rfl, ?_⟩
    refine ⟨kp, _, rfl, DGet.k (k := Sum.inr (SX.S k)) S.hk, ?_⟩
    rw [valV_kvS]
    cases e : getM m k with
    | none =>
      refine ⟨false, rfl, if_false_of rfl ?_⟩
      walk_at "st"
      exact kN e
    | some y =>
      have hm := getM_mem e
      have W := S.hw _ hm
      obtain ⟨dw, tw, ts, hw1, hw2, _, _⟩ := W.ex
      refine ⟨true, rfl, if_true_of rfl ?_⟩
      walk_at "st"
      refine ⟨x, T.C_Store, dx, _, .ref kp, rfl, hx, T.o_Store.cl, T.o_Store.na _ (by decide), rfl, ?_⟩
      walk_at "st"
      refine ⟨kp, .ref y.wr, rfl, by have g := DGet.k (k := Sum.inr (SX.S k)) S.hk; rw [valV_kvS, e] at g; exact g, ?_⟩
      refine ⟨y.wr, dw, _, rfl, hw1, rfl, ?_⟩
      walk_at "st"
      refine .a ⟨y.wr, y.pa, y.l, n, rfl, W, hz _ hm, fun H' pa' W' f0 fr => ?_⟩
      have kw : kp ≠ y.wr := fun z => by rw [← z, S.hk] at hw1; cases hw1
      have wne : ∀ e' ∈ m, e'.1 ≠ k → e'.2.wr ≠ y.wr := fun e' h' q z => q (by rw [nodup_of (fun e => e.2.wr) S.nw h' hm z])
      refine kS y e H' pa' (S.put (y := ⟨y.wr, pa', y.l⟩) ?_ (W'.mono n1) (Nat.le_refl _) ?_ (fun e' h' q u => ?_) fun e' h' q => ⟨wne e' h' q, fun z => ?_⟩) f0 fr
      · rw [kvS_same (x := y) (y := ⟨y.wr, pa', y.l⟩) rfl e]
        exact fr kp _ (by simp [kw]) S.hk
      · have q : (kvS (putM m k ⟨y.wr, pa', y.l⟩)).length = (kvS m).length := by rw [kvS_same (x := y) (y := ⟨y.wr, pa', y.l⟩) rfl e]
        rw [kvS_len, kvS_len] at q
        rw [q]; exact S.len
      · obtain ⟨d2, t2, s2, a1, a2, _, _⟩ := (S.hw e' h').ex
        refine ⟨fr _ u (by simp [wne e' h' q]), fr _ u (fun z => ?_)⟩
        rw [List.mem_singleton.mp z, hw1] at a2
        cases a2
      · obtain ⟨d2, t2, s2, a1, a2, _, _⟩ := (S.hw e' h').ex
        have z : e'.2.pa = pa' := z
        rw [z, f0] at a2
        cases a2
end
end My

namespace My
open PySem PySem.Spec PyProof.Rows L2 SuX
local macro_rules | `(tactic| walk_at "hp") => `(tactic| first | assumption | exact upd_same | (refine Eq.trans (upd_ne (by first | assumption | (apply Ne.symm; assumption))) ?_; walk_at "hp"))
local macro_rules | `(tactic| walk_at "ixl") => `(tactic| (refine' ⟨_, ?xs, _, ?vv, rfl, rfl, SqL.of ?hh, ?aa, ?qq⟩; (case hh => walk_at "hp"); (case aa => rfl)))
local macro_rules | `(tactic| walk_at "setl") => `(tactic| (refine' ⟨_, ?xs, _, ?jj, rfl, rfl, ?hh, ?aa, ?qq⟩; (case hh => walk_at "hp"); (case aa => rfl)))
local macro_rules | `(tactic| walk_at "cond") => `(tactic| first | exact ⟨_, rfl⟩ | exact Nat.le_of_lt (small1000 (Nat.le_of_ble_eq_true rfl)) | decide | omega | (dsimp only; omega) | exact ⟨by decide, by decide⟩ | exact Or.inr ⟨by decide, by decide⟩ | exact Or.inl ⟨by decide, by decide⟩ | exact ⟨by decide, by decide, by decide⟩ | exact ⟨by omega, by omega⟩ | exact ⟨by omega, by omega, by omega⟩ | (simp only [List.length_cons, List.length_nil, List.length_append, List.length_take, List.length_drop]; omega) | (refine ⟨?_, ?_, ?_⟩ <;> first | decide | omega | (simp only [List.length_cons, List.length_nil, List.length_append, List.length_take, List.length_drop, Option.getD_some, Option.getD_none]; omega)))
local macro_rules | `(tactic| walk_at "st") => `(tactic| repeat (first | refine ⟨_, rfl, ?_⟩ | refine ⟨_, _, rfl, rfl, ?_⟩ | walk_at "ixl" | walk_at "setl" | refine ⟨rfl, ?_⟩ | refine Or.inl ⟨_, rfl, ?_⟩ | refine And.intro (by walk_at "cond") ?_))
def ft (m : SMap) : List Addr := m.map (·.2.wr) ++ m.map (·.2.pa)
theorem ft_wr {m : SMap} {e : List Nat × Wn} (h : e ∈ m) : e.2.wr ∈ ft m := List.mem_append_left _ (List.mem_map_of_mem (f := fun e => e.2.wr) h)
theorem ft_pa {m : SMap} {e : List Nat × Wn} (h : e ∈ m) : e.2.pa ∈ ft m := List.mem_append_right _ (List.mem_map_of_mem (f := fun e => e.2.pa) h)
section
variable {P : Program} {w : World} {K : PySem.W.Frag} {mg : Str → Option Value} {base : Heap}
def spPut (CS CW CC : Addr) : Sp := fun vs H Q _ => Hd (∃ (x dx ck dck kp : Addr) (v : V) (k l : List Nat) (m : SMap) (n : Nat), vs = [.ref x, .str (SX.S k), .str (SX.S l)] ∧ H x = some (.ins CS dx (fSt ck kp)) ∧ H ck = some (.ins CC dck [("shown", v)]) ∧ StAt CW H kp m n ∧ 1 ≤ n ∧ l.length ≤ 100000 ∧ m.length + 1 ≤ 1000 ∧
  ∀ H' wr pa, StAt CW H' kp (putM m k ⟨wr, pa, l⟩) n → H wr = none → H pa = none → FrS [kp] H H' → Q .non H')
theorem ok_put (T : Txt K mg) : FnOk P w K mg base CX0 3 T.a_Store_put T.fd_Store_put ["self", "name", "text"] (spPut T.C_Store T.C_Written T.C_Clock) := by
  have G_Clock_now : FnOk P w K mg base CX0 1 _ _ _ (spNow T.C_Clock) := ok_now T
  have G_Written : FnOk P w K mg base CX0 1 _ _ _ (spWritten T.C_Written) := ok_written T
  refine T.F_Store_put.ok sc_Store_put (fun vs H Q E h => ?_) (fun cdv A outer s H vs Q E hr h => ?_)
  · obtain ⟨x, dx, ck, dck, kp, v, k, l, m, n, rfl, _⟩ := h.out
    rfl
  · obtain ⟨x, dx, ck, dck, kp, v, k, l, m, n, rfl, hx, hc, S, n1, hl, hm, kQ⟩ := h.out
    have hu := hu_of hr
    refine ⟨_, (pss_one (ps_dput hu (pe_fld (pv 0) rfl) (pv 1) (pe_make T.M_Written G_Written (hr.mono (by first | decide | omega)) rfl T.g_Written T.b_Written_init .nil pass0 (pa_cons (pv 2) (pa_cons (pe_meth0 (pe_fld (pv 0) rfl) T.o_Clock.cl T.Me_Clock_now G_Clock_now (hr.mono (by first | decide | omega)) T.b_Clock_now .nil pass0) pa_nil))) rfl)), ?_⟩
    walk_at "st"
    refine ⟨x, T.C_Store, dx, _, .ref ck, rfl, hx, T.o_Store.cl, T.o_Store.na _ (by decide), rfl, ?_⟩
    refine ⟨ck, dck, _, rfl, hc, rfl, ?_⟩
    walk_at "st"
    refine .a ⟨ck, dck, v, rfl, hc, ?_⟩
    walk_at "st"
    intro wr dw w0 d0 dn
    refine .a ⟨wr, dw, l, v, rfl, upd_same, hl, fun H1 pa h1 h2 h3 s1 => ?_⟩
    obtain ⟨pw, pd, p0⟩ := mkH_none h3
    have old : ∀ b u, H b = some u → H1 b = some u := fun b u e => s1 b u (neN e w0) (mkH_old w0 d0 e)
    walk_at "st"
    refine ⟨x, T.C_Store, dx, _, .ref kp, rfl, old _ _ hx, T.o_Store.cl, T.o_Store.na _ (by decide), rfl, ?_⟩
    walk_at "st"
    have hlen : (kvS m).length < sizeLine := by rw [kvS_len]; exact Nat.lt_of_le_of_lt (show m.length ≤ 1000 by omega) (by decide)
    refine ⟨kp, _, rfl, DPut.k (k := Sum.inr (SX.S k)) (old _ _ S.hk) hlen, ?_⟩
    have e : putK (kvS m) (Sum.inr (SX.S k) : Key) (V.ref wr) = kvS (putM m k ⟨wr, pa, l⟩) := putK_kvS k ⟨wr, pa, l⟩ S.kd
    rw [e]
    have kw : wr ≠ kp := fun z => by rw [z, S.hk] at w0; cases w0
    have kpa : pa ≠ kp := fun z => by rw [z, S.hk] at p0; cases p0
    refine kQ _ wr pa (S.put upd_same ⟨dw, v, [l], by rw [upd_ne kw]; exact h1, by rw [upd_ne kpa]; exact h2, by simp, n1⟩ (Nat.le_refl _) (Nat.le_trans putM_len hm) (fun e' h' q u => ?_) fun e' h' q => ?_) w0 p0 ?_
    · obtain ⟨d2, t2, s2, a1, a2, _, _⟩ := (S.hw e' h').ex
      have b1 : e'.2.wr ≠ kp := fun z => by rw [z, S.hk] at a1; cases a1
      have b2 : e'.2.pa ≠ kp := fun z => by rw [z, S.hk] at a2; cases a2
      exact ⟨fun z => by rw [upd_ne b1]; exact old _ _ z, fun z => by rw [upd_ne b2]; exact old _ _ z⟩
    · obtain ⟨d2, t2, s2, a1, a2, _, _⟩ := (S.hw e' h').ex
      exact ⟨neN a1 w0, neN a2 p0⟩
    · exact FrS.put (fun b u _ z => old b u z) (by simp)
/-- what stands there, or nothing -/
def oldT (m : SMap) (k : List Nat) : List Nat := match getM m k with | some y => y.l | none => []
def spWrite (CS CW CC : Addr) : Sp := fun vs H Q _ => Hd (∃ (x dx ck dck kp : Addr) (v : V) (k l : List Nat) (m : SMap) (n : Nat), vs = [.ref x, .str (SX.S k), .str (SX.S l)] ∧ H x = some (.ins CS dx (fSt ck kp)) ∧ H ck = some (.ins CC dck [("shown", v)]) ∧ StAt CW H kp m n ∧ 1 ≤ n ∧ n ≤ 100000 ∧ l.length ≤ 100000 ∧ m.length + 1 ≤ 1000 ∧
  ∀ H' wr pa, StAt CW H' kp (putM m k ⟨wr, pa, oldT m k ++ l⟩) (n + 1) → (H wr = none ∨ wr ∈ ft m) → (H pa = none ∨ pa ∈ ft m) → FrS (kp :: ft m) H H' → Q .non H')
theorem ok_write (T : Txt K mg) : FnOk P w K mg base CX0 4 T.a_Store_write T.fd_Store_write ["self", "name", "text"] (spWrite T.C_Store T.C_Written T.C_Clock) := by
  have G_Clock_now : FnOk P w K mg base CX0 1 _ _ _ (spNow T.C_Clock) := ok_now T
  have G_Written_grow : FnOk P w K mg base CX0 1 _ _ _ (spGrow T.C_Written) := ok_grow T
  have G_Store_put : FnOk P w K mg base CX0 3 _ _ _ (spPut T.C_Store T.C_Written T.C_Clock) := ok_put T
  refine T.F_Store_write.ok sc_Store_write (fun vs H Q E h => ?_) (fun cdv A outer s H vs Q E hr h => ?_)
  · obtain ⟨x, dx, ck, dck, kp, v, k, l, m, n, rfl, _⟩ := h.out
    rfl
  · obtain ⟨x, dx, ck, dck, kp, v, k, l, m, n, rfl, hx, hc, S, n1, n2, hl, hm, kQ⟩ := h.out
    have hu := hu_of hr
    refine ⟨_, (pss_one (ps_if (pt_cmp (pc_din hu (pv 1) (pe_fld (pv 0) rfl)))
    (pss_one (ps_expr (pe_meth (pe_dget hu (pe_fld (pv 0) rfl) (pv 1) (fun _ _ => rfl)) T.o_Written.cl T.Me_Written_grow G_Written_grow (hr.mono (by first | decide | omega)) T.b_Written_grow .nil pass0 (pa_cons (pv 2) (pa_cons (pe_meth0 (pe_fld (pv 0) rfl) T.o_Clock.cl T.Me_Clock_now G_Clock_now (hr.mono (by first | decide | omega)) T.b_Clock_now .nil pass0) pa_nil)))))
    (pss_one (ps_expr (pe_meth (pv 0) T.o_Store.cl T.Me_Store_put G_Store_put (hr.mono (by first | decide | omega)) T.b_Store_put .nil pass0 (pa_cons (pv 1) (pa_cons (pv 2) pa_nil))))))), ?_⟩
    walk_at "st"
    refine ⟨x, T.C_Store, dx, _, .ref kp, rfl, hx, T.o_Store.cl, T.o_Store.na _ (by decide), rfl, ?_⟩
    refine ⟨kp, _, rfl, DGet.k (k := Sum.inr (SX.S k)) S.hk, ?_⟩
    rw [valV_kvS]
    cases e : getM m k with
    | none =>
      have eo : oldT m k = [] := by unfold oldT; rw [e]
      refine ⟨false, rfl, if_false_of rfl ?_⟩
      walk_at "st"
      refine ⟨x, dx, _, rfl, hx, rfl, ?_⟩
      walk_at "st"
      refine .a ⟨x, dx, ck, dck, kp, v, k, l, m, n, rfl, hx, hc, S, n1, hl, hm, fun H' wr pa S' w0 p0 fr => ?_⟩
      refine kQ H' wr pa ?_ (.inl w0) (.inl p0) (fr.mono fun b hb => .inl (by rw [List.mem_singleton.mp hb]; exact List.mem_cons_self))
      rw [eo]
      exact ⟨S'.hk, fun e' h' => (S'.hw e' h').mono (Nat.le_succ _), S'.nw, S'.np, S'.kd, S'.len⟩
    | some y =>
      have eo : oldT m k = y.l := by unfold oldT; rw [e]
      have hmem := getM_mem e
      have W := S.hw _ hmem
      obtain ⟨dw, tw, ts, hw1, hw2, _, _⟩ := W.ex
      refine ⟨true, rfl, if_true_of rfl ?_⟩
      walk_at "st"
      refine ⟨x, T.C_Store, dx, _, .ref kp, rfl, hx, T.o_Store.cl, T.o_Store.na _ (by decide), rfl, ?_⟩
      walk_at "st"
      refine ⟨kp, .ref y.wr, rfl, by have g := DGet.k (k := Sum.inr (SX.S k)) S.hk; rw [valV_kvS, e] at g; exact g, ?_⟩
      refine ⟨y.wr, dw, _, rfl, hw1, rfl, ?_⟩
      walk_at "st"
      refine ⟨x, T.C_Store, dx, _, .ref ck, rfl, hx, T.o_Store.cl, T.o_Store.na _ (by decide), rfl, ?_⟩
      refine ⟨ck, dck, _, rfl, hc, rfl, ?_⟩
      walk_at "st"
      refine .a ⟨ck, dck, v, rfl, hc, ?_⟩
      walk_at "st"
      refine .a ⟨y.wr, y.pa, y.l, l, n, v, rfl, W, n2, hl, fun H' W' fr => ?_⟩
      have kw : kp ≠ y.wr := fun z => by rw [← z, S.hk] at hw1; cases hw1
      have kpa : kp ≠ y.pa := fun z => by rw [← z, S.hk] at hw2; cases hw2
      have wne : ∀ e' ∈ m, e'.1 ≠ k → e'.2.wr ≠ y.wr := fun e' h' q z => q (by rw [nodup_of (fun e => e.2.wr) S.nw h' hmem z])
      have pne : ∀ e' ∈ m, e'.1 ≠ k → e'.2.pa ≠ y.pa := fun e' h' q z => q (by rw [nodup_of (fun e => e.2.pa) S.np h' hmem z])
      have ek := kvS_same (x := y) (y := ⟨y.wr, y.pa, oldT m k ++ l⟩) rfl e
      refine kQ H' y.wr y.pa (S.put (y := ⟨y.wr, y.pa, oldT m k ++ l⟩) ?_ (by rw [eo]; exact W') (Nat.le_succ _) ?_ (fun e' h' q u => ?_) fun e' h' q => ⟨wne e' h' q, pne e' h' q⟩) (.inr (ft_wr hmem)) (.inr (ft_pa hmem)) (fr.mono fun b hb => ?_)
      · rw [ek]
        exact fr kp _ (by simp [kw, kpa]) S.hk
      · have q : (kvS (putM m k ⟨y.wr, y.pa, oldT m k ++ l⟩)).length = (kvS m).length := by rw [ek]
        rw [kvS_len, kvS_len] at q
        rw [q]; exact S.len
      · obtain ⟨d2, t2, s2, a1, a2, _, _⟩ := (S.hw e' h').ex
        have c1 : e'.2.wr ≠ y.pa := fun z => by rw [z, hw2] at a1; cases a1
        have c2 : e'.2.pa ≠ y.wr := fun z => by rw [z, hw1] at a2; cases a2
        exact ⟨fr _ u (by simp [wne e' h' q, c1]), fr _ u (by simp [pne e' h' q, c2])⟩
      · rcases List.mem_cons.mp hb with z | hb
        · rw [z]; exact .inl (List.mem_cons_of_mem _ (ft_wr hmem))
        · rw [List.mem_singleton.mp hb]; exact .inl (List.mem_cons_of_mem _ (ft_pa hmem))
end
end My

namespace My
open PySem PySem.Spec PyProof.Rows L2 SuX
local macro_rules | `(tactic| walk_at "hp") => `(tactic| first | assumption | exact upd_same | (refine Eq.trans (upd_ne (by first | assumption | (apply Ne.symm; assumption))) ?_; walk_at "hp"))
local macro_rules | `(tactic| walk_at "ixl") => `(tactic| (refine' ⟨_, ?xs, _, ?vv, rfl, rfl, SqL.of ?hh, ?aa, ?qq⟩; (case hh => walk_at "hp"); (case aa => rfl)))
local macro_rules | `(tactic| walk_at "setl") => `(tactic| (refine' ⟨_, ?xs, _, ?jj, rfl, rfl, ?hh, ?aa, ?qq⟩; (case hh => walk_at "hp"); (case aa => rfl)))
local macro_rules | `(tactic| walk_at "cond") => `(tactic| first | exact ⟨_, rfl⟩ | exact Nat.le_of_lt (small1000 (Nat.le_of_ble_eq_true rfl)) | decide | omega | (dsimp only; omega) | exact ⟨by decide, by decide⟩ | exact Or.inr ⟨by decide, by decide⟩ | exact Or.inl ⟨by decide, by decide⟩ | exact ⟨by decide, by decide, by decide⟩ | exact ⟨by omega, by omega⟩ | exact ⟨by omega, by omega, by omega⟩ | (simp only [List.length_cons, List.length_nil, List.length_append, List.length_take, List.length_drop]; omega) | (refine ⟨?_, ?_, ?_⟩ <;> first | decide | omega | (simp only [List.length_cons, List.length_nil, List.length_append, List.length_take, List.length_drop, Option.getD_some, Option.getD_none]; omega)))
local macro_rules | `(tactic| walk_at "st") => `(tactic| repeat (first | refine ⟨_, rfl, ?_⟩ | refine ⟨_, _, rfl, rfl, ?_⟩ | walk_at "ixl" | walk_at "setl" | refine ⟨rfl, ?_⟩ | refine Or.inl ⟨_, rfl, ?_⟩ | refine And.intro (by walk_at "cond") ?_))
section
variable {P : Program} {w : World} {K : PySem.W.Frag} {mg : Str → Option Value} {base : Heap}
/-! ### integers, levels -/
def spIsInt : Sp := fun vs H Q _ => Hd (∃ i, vs = [.int i] ∧ Q (.bl true) H)
theorem isi_int {H : Hp} {i : Int} {b : Bool} {T : String} {Q : VK} (h : kitB "int" T = some b) (q : Q (.bl b) H) : rIsi K [.int i, .ty T] H Q := ⟨.int i, .ty T, _, _, b, rfl, .ty T, .base (.int i), kit_ty h, q⟩
theorem ok_isint (T : Txt K mg) : FnOk P w K mg base CX0 1 T.f_is_integer T.fd_is_integer ["thing"] spIsInt := by
  refine T.D_is_integer.F.ok sc_is_integer (fun vs H Q E h => ?_) (fun cdv A outer s H vs Q E hr h => ?_)
  · obtain ⟨i, rfl, _⟩ := h.out
    rfl
  · obtain ⟨i, rfl, k⟩ := h.out
    refine ⟨_, (pss_one (ps_ret (pe_and (pe_callB call_isi (by rfl) T.B.n_isinstance (by decide +kernel) (pa_cons (pv 0) (pa_cons (pe_bltn (v := .ty "int") (u := .type "int") (by rfl) T.B.n_int (by decide +kernel) rfl) pa_nil))) (pe_one (pe_not (pe_callB call_isi (by rfl) T.B.n_isinstance (by decide +kernel) (pa_cons (pv 0) (pa_cons (pe_bltn (v := .ty "bool") (u := .type "bool") (by rfl) T.B.n_bool (by decide +kernel) rfl) pa_nil)))))))), ?_⟩
    walk_at "st"
    refine ⟨.int i, .ty "int", _, _, true, rfl, .ty "int", .base (.int i), kit_ty (by decide +kernel), ?_⟩
    refine ⟨true, rfl, if_true_of rfl ?_⟩
    walk_at "st"
    refine ⟨.int i, .ty "bool", _, _, false, rfl, .ty "bool", .base (.int i), kit_ty (by decide +kernel), ?_⟩
    exact ⟨false, rfl, k⟩
def spLevelName (C : Addr) : Sp := fun vs H Q _ => Hd (∃ (x dx a b : Addr) (i : Int) (l : List Nat) (kvs : List (Key × V)), vs = [.ref x, .int i] ∧ H x = some (.ins C dx (fLv a b)) ∧ H a = some (.dK kvs) ∧ i.natAbs.log2 < 1920 ∧ (Str.empty ++ SX.S [76, 101, 118, 101, 108, 32] ++ Str.ofString (toString i)).length ≤ sizeLine ∧ valV kvs (Sum.inl i) = some (.str (SX.S l)) ∧ Q (.str (SX.S l)) H)
theorem ok_levelname (T : Txt K mg) : FnOk P w K mg base CX0 1 T.a_LevelTable_level_name T.fd_LevelTable_level_name ["self", "level"] (spLevelName T.C_LevelTable) := by
  refine T.F_LevelTable_level_name.ok sc_LevelTable_level_name (fun vs H Q E h => ?_) (fun cdv A outer s H vs Q E hr h => ?_)
  · obtain ⟨x, dx, a, b, i, l, kvs, rfl, _⟩ := h.out
    rfl
  · obtain ⟨x, dx, a, b, i, l, kvs, rfl, hx, ha, hi, hj, hv, k⟩ := h.out
    have hu := hu_of hr
    refine ⟨_, (pss_one (ps_ret (pe_dget2 hu (pe_fld (pv 0) rfl) (pv 1) (pe_joined (.cons (SL.pe_strL [76, 101, 118, 101, 108, 32] (by decide +kernel)) (.cons (pe_fmt (pv 1)) .nil))) ⟨rfl, rfl, rfl, rfl⟩))), ?_⟩
    walk_at "st"
    refine ⟨x, T.C_LevelTable, dx, _, .ref a, rfl, hx, T.o_LevelTable.cl, T.o_LevelTable.na _ (by decide), rfl, ?_⟩
    refine ⟨a, rfl, .inl ⟨_, .inl ha⟩, ?_⟩
    walk_at "st"
    refine .inr ⟨i, rfl, hi, ?_⟩
    refine ⟨_, rfl, hj, _, DGet.k (k := Sum.inl i) ha, ?_⟩
    rw [hv]
    exact k
end
end My

namespace My
open PySem PySem.Spec PyProof.Rows L2 SuX
local macro_rules | `(tactic| walk_at "hp") => `(tactic| first | assumption | exact upd_same | (refine Eq.trans (upd_ne (by first | assumption | (apply Ne.symm; assumption))) ?_; walk_at "hp"))
local macro_rules | `(tactic| walk_at "ixl") => `(tactic| (refine' ⟨_, ?xs, _, ?vv, rfl, rfl, SqL.of ?hh, ?aa, ?qq⟩; (case hh => walk_at "hp"); (case aa => rfl)))
local macro_rules | `(tactic| walk_at "setl") => `(tactic| (refine' ⟨_, ?xs, _, ?jj, rfl, rfl, ?hh, ?aa, ?qq⟩; (case hh => walk_at "hp"); (case aa => rfl)))
local macro_rules | `(tactic| walk_at "cond") => `(tactic| first | exact ⟨_, rfl⟩ | exact Nat.le_of_lt (small1000 (Nat.le_of_ble_eq_true rfl)) | decide | omega | (dsimp only; omega) | exact ⟨by decide, by decide⟩ | exact Or.inr ⟨by decide, by decide⟩ | exact Or.inl ⟨by decide, by decide⟩ | exact ⟨by decide, by decide, by decide⟩ | exact ⟨by omega, by omega⟩ | exact ⟨by omega, by omega, by omega⟩ | (simp only [List.length_cons, List.length_nil, List.length_append, List.length_take, List.length_drop]; omega) | (refine ⟨?_, ?_, ?_⟩ <;> first | decide | omega | (simp only [List.length_cons, List.length_nil, List.length_append, List.length_take, List.length_drop, Option.getD_some, Option.getD_none]; omega)))
local macro_rules | `(tactic| walk_at "st") => `(tactic| repeat (first | refine ⟨_, rfl, ?_⟩ | refine ⟨_, _, rfl, rfl, ?_⟩ | walk_at "ixl" | walk_at "setl" | refine ⟨rfl, ?_⟩ | refine Or.inl ⟨_, rfl, ?_⟩ | refine And.intro (by walk_at "cond") ?_))
section
variable {P : Program} {w : World} {K : PySem.W.Frag} {mg : Str → Option Value} {base : Heap}
def spKnows (C : Addr) : Sp := fun vs H Q _ => Hd (∃ (x : Addr) (i : Int), vs = [.ref x, .int i] ∧ Q (.bl true) H)
theorem ok_knows (T : Txt K mg) : FnOk P w K mg base CX0 2 T.a_LevelTable_knows T.fd_LevelTable_knows ["self", "level"] (spKnows T.C_LevelTable) := by
  have G_is_integer : FnOk P w K mg base CX0 1 _ _ _ spIsInt := ok_isint T
  refine T.F_LevelTable_knows.ok sc_LevelTable_knows (fun vs H Q E h => ?_) (fun cdv A outer s H vs Q E hr h => ?_)
  · obtain ⟨x, i, rfl, _⟩ := h.out
    rfl
  · obtain ⟨x, i, rfl, k⟩ := h.out
    have hu := hu_of hr
    refine ⟨_, (pss_one (ps_ret (pe_or (pe_call G_is_integer (hr.mono (by first | decide | omega)) rfl T.D_is_integer.g T.D_is_integer.F.kp T.D_is_integer.b .nil pass0 (pa_cons (pv 1) pa_nil)) (pe_one (pe_and (pe_callB call_isi (by rfl) T.B.n_isinstance (by decide +kernel) (pa_cons (pv 1) (pa_cons (pe_bltn (v := .ty "str") (u := .type "str") (by rfl) T.B.n_str (by decide +kernel) rfl) pa_nil))) (pe_one (pe_cmp (pc_din hu (pv 1) (pe_fld (pv 0) rfl)) rfl))))))), ?_⟩
    walk_at "st"
    refine .a ⟨i, rfl, ?_⟩
    refine ⟨true, rfl, if_true_of rfl ?_⟩
    exact k
def spNumber (C : Addr) : Sp := fun vs H Q _ => Hd (∃ (x dx : Addr) (i : Int) (fs : List (Str × V)), vs = [.ref x, .int i] ∧ H x = some (.ins C dx fs) ∧ (fs.lookup ("knows" : Str)) = none ∧ Q (.int i) H)
theorem ok_number (T : Txt K mg) : FnOk P w K mg base (L2.CX P w) 3 T.a_LevelTable_number T.fd_LevelTable_number ["self", "level"] (spNumber T.C_LevelTable) := by
  have G_is_integer : FnOk P w K mg base CX0 1 _ _ _ spIsInt := ok_isint T
  have G_LevelTable_knows : FnOk P w K mg base CX0 2 _ _ _ (spKnows T.C_LevelTable) := ok_knows T
  refine T.F_LevelTable_number.okX sc_LevelTable_number (fun vs H Q E h => ?_) (fun cdv A outer s H vs Q E hr h => ?_)
  · obtain ⟨x, dx, i, fs, rfl, _⟩ := h.out
    rfl
  · obtain ⟨x, dx, i, fs, rfl, hx, hf, k⟩ := h.out
    have hu := hu_of hr
    refine ⟨_, (pss_cons (ps_if (pt_not (pt_val (pe_meth (pv 0) T.o_LevelTable.cl T.Me_LevelTable_knows G_LevelTable_knows (hr.mono (by first | decide | omega)) T.b_LevelTable_knows .nil pass0 (pa_cons (pv 1) pa_nil))))
    (pss_one (ps_raise rfl (takes_of rfl rfl rfl rfl) (pmk_err T.E_BadLevel hr (pa_cons (pv 1) pa_nil) rfl)))
    pss_nil)
  (pss_one (ps_ret (pe_ifExp (pt_val (pe_call G_is_integer (hr.mono (by first | decide | omega)) rfl T.D_is_integer.g T.D_is_integer.F.kp T.D_is_integer.b .nil pass0 (pa_cons (pv 1) pa_nil))) (pv 1) (pe_dget hu (pe_fld (pv 0) rfl) (pv 1) (fun _ _ => rfl)))))), ?_⟩
    walk_at "st"
    refine ⟨x, dx, _, rfl, hx, hf, ?_⟩
    walk_at "st"
    refine .a ⟨x, i, rfl, ?_⟩
    refine ⟨true, rfl, ?_⟩
    show if (!true) = true then _ else _
    refine if_false_of rfl ?_
    walk_at "st"
    refine .a ⟨i, rfl, ?_⟩
    refine ⟨true, rfl, if_true_of rfl ?_⟩
    walk_at "st"
    exact k
/-! ### stores -/
def spHas (CS : Addr) : Sp := fun vs H Q _ => Hd (∃ (x dx ck kp : Addr) (k : List Nat) (m : SMap), vs = [.ref x, .str (SX.S k)] ∧ H x = some (.ins CS dx (fSt ck kp)) ∧ H kp = some (.dK (kvS m)) ∧ Q (.bl (getM m k).isSome) H)
theorem ok_has (T : Txt K mg) : FnOk P w K mg base CX0 1 T.a_Store_has T.fd_Store_has ["self", "name"] (spHas T.C_Store) := by
  refine T.F_Store_has.ok sc_Store_has (fun vs H Q E h => ?_) (fun cdv A outer s H vs Q E hr h => ?_)
  · obtain ⟨x, dx, ck, kp, k, m, rfl, _⟩ := h.out
    rfl
  · obtain ⟨x, dx, ck, kp, k, m, rfl, hx, hk, kQ⟩ := h.out
    have hu := hu_of hr
    refine ⟨_, (pss_one (ps_ret (pe_cmp (pc_din hu (pv 1) (pe_fld (pv 0) rfl)) rfl))), ?_⟩
    walk_at "st"
    refine ⟨x, T.C_Store, dx, _, .ref kp, rfl, hx, T.o_Store.cl, T.o_Store.na _ (by decide), rfl, ?_⟩
    refine ⟨kp, _, rfl, DGet.k (k := Sum.inr (SX.S k)) hk, ?_⟩
    rw [valV_kvS]
    have e : (Option.map (fun x => V.ref x.wr) (getM m k)).isSome = (getM m k).isSome := by cases getM m k <;> rfl
    rw [e]
    exact kQ
theorem dropM_len {m : SMap} {k : List Nat} : (dropM m k).length ≤ m.length := List.length_filter_le _ _
theorem dropM_mem {m : SMap} {k : List Nat} {e : List Nat × Wn} (h : e ∈ dropM m k) : e ∈ m := (List.mem_filter.mp h).1
theorem dropM_nd {α : Type} (f : List Nat × Wn → α) {m : SMap} {k : List Nat} (h : (m.map f).Nodup) : ((dropM m k).map f).Nodup := h.sublist (List.Sublist.map f List.filter_sublist)
def spTake (CS CW : Addr) : Sp := fun vs H Q _ => Hd (∃ (x dx ck kp : Addr) (k : List Nat) (m : SMap) (n : Nat), vs = [.ref x, .str (SX.S k)] ∧ H x = some (.ins CS dx (fSt ck kp)) ∧ StAt CW H kp m n ∧ ∀ H', StAt CW H' kp (dropM m k) n → FrS [kp] H H' → Q .non H')
theorem dropM_none {k : List Nat} : ∀ {m : SMap}, getM m k = none → dropM m k = m := fun {m} h => List.filter_eq_self.mpr fun e he => by simp [getM_none_mem h e he]
theorem ok_take (T : Txt K mg) : FnOk P w K mg base CX0 1 T.a_Store_take_away T.fd_Store_take_away ["self", "name"] (spTake T.C_Store T.C_Written) := by
  refine T.F_Store_take_away.ok sc_Store_take_away (fun vs H Q E h => ?_) (fun cdv A outer s H vs Q E hr h => ?_)
  · obtain ⟨x, dx, ck, kp, k, m, n, rfl, _⟩ := h.out
    rfl
  · obtain ⟨x, dx, ck, kp, k, m, n, rfl, hx, S, kQ⟩ := h.out
    have hu := hu_of hr
    refine ⟨_, (pss_one (ps_if (pt_cmp (pc_din hu (pv 1) (pe_fld (pv 0) rfl)))
    (pss_one (ps_ddel (pe_fld (pv 0) rfl) (pv 1)))
    pss_nil)), ?_⟩
    walk_at "st"
    refine ⟨x, T.C_Store, dx, _, .ref kp, rfl, hx, T.o_Store.cl, T.o_Store.na _ (by decide), rfl, ?_⟩
    refine ⟨kp, _, rfl, DGet.k (k := Sum.inr (SX.S k)) S.hk, ?_⟩
    rw [valV_kvS]
    cases e : getM m k with
    | none =>
      refine ⟨false, rfl, if_false_of rfl ?_⟩
      walk_at "st"
      exact kQ H (by rw [dropM_none e]; exact S) (FrS.refl _ _)
    | some y =>
      refine ⟨true, rfl, if_true_of rfl ?_⟩
      walk_at "st"
      refine ⟨x, T.C_Store, dx, _, .ref kp, rfl, hx, T.o_Store.cl, T.o_Store.na _ (by decide), rfl, ?_⟩
      walk_at "st"
      refine ⟨kp, kvS m, Sum.inr (SX.S k), rfl, S.hk, rfl, by rw [valV_kvS, e]; rfl, ?_⟩
      rw [dropK_kvS]
      refine kQ _ ⟨upd_same, fun e' h' => ?_, dropM_nd (fun e => e.2.wr) S.nw, dropM_nd (fun e => e.2.pa) S.np, dropM_nd (fun e => e.1) S.kd, Nat.le_trans dropM_len S.len⟩ ((FrS.refl _ H).put (by simp))
      obtain ⟨d2, t2, s2, a1, a2, _, _⟩ := (S.hw e' (dropM_mem h')).ex
      have b1 : e'.2.wr ≠ kp := fun z => by rw [z, S.hk] at a1; cases a1
      have b2 : e'.2.pa ≠ kp := fun z => by rw [z, S.hk] at a2; cases a2
      exact (S.hw e' (dropM_mem h')).keep (fun u z => by rw [upd_ne b1]; exact z) fun u z => by rw [upd_ne b2]; exact z
end
end My

namespace My
open PySem PySem.Spec PyProof.Rows L2 SuX
local macro_rules | `(tactic| walk_at "hp") => `(tactic| first | assumption | exact upd_same | (refine Eq.trans (upd_ne (by first | assumption | (apply Ne.symm; assumption))) ?_; walk_at "hp"))
local macro_rules | `(tactic| walk_at "ixl") => `(tactic| (refine' ⟨_, ?xs, _, ?vv, rfl, rfl, SqL.of ?hh, ?aa, ?qq⟩; (case hh => walk_at "hp"); (case aa => rfl)))
local macro_rules | `(tactic| walk_at "setl") => `(tactic| (refine' ⟨_, ?xs, _, ?jj, rfl, rfl, ?hh, ?aa, ?qq⟩; (case hh => walk_at "hp"); (case aa => rfl)))
local macro_rules | `(tactic| walk_at "cond") => `(tactic| first | exact ⟨_, rfl⟩ | exact Nat.le_of_lt (small1000 (Nat.le_of_ble_eq_true rfl)) | decide | omega | (dsimp only; omega) | exact ⟨by decide, by decide⟩ | exact Or.inr ⟨by decide, by decide⟩ | exact Or.inl ⟨by decide, by decide⟩ | exact ⟨by decide, by decide, by decide⟩ | exact ⟨by omega, by omega⟩ | exact ⟨by omega, by omega, by omega⟩ | (simp only [List.length_cons, List.length_nil, List.length_append, List.length_take, List.length_drop]; omega) | (refine ⟨?_, ?_, ?_⟩ <;> first | decide | omega | (simp only [List.length_cons, List.length_nil, List.length_append, List.length_take, List.length_drop, Option.getD_some, Option.getD_none]; omega)))
local macro_rules | `(tactic| walk_at "st") => `(tactic| repeat (first | refine ⟨_, rfl, ?_⟩ | refine ⟨_, _, rfl, rfl, ?_⟩ | walk_at "ixl" | walk_at "setl" | refine ⟨rfl, ?_⟩ | refine Or.inl ⟨_, rfl, ?_⟩ | refine And.intro (by walk_at "cond") ?_))
section
variable {P : Program} {w : World} {K : PySem.W.Frag} {mg : Str → Option Value} {base : Heap}
/-! ### what a yard hands on -/
def spYNow (T : Txt K mg) : Sp := fun vs H Q _ => Hd (∃ (x dx : Addr) (Y : YA) (v : V), vs = [.ref x] ∧ H x = some (.ins T.C_Yard dx (fYd Y)) ∧ H Y.ck = some (.ins T.C_Clock Y.dck [("shown", v)]) ∧ Q v H)
theorem ok_ynow (T : Txt K mg) : FnOk P w K mg base CX0 2 T.a_Yard_now T.fd_Yard_now ["self"] (spYNow T) := by
  have G_Clock_now : FnOk P w K mg base CX0 1 _ _ _ (spNow T.C_Clock) := ok_now T
  refine T.F_Yard_now.ok sc_Yard_now (fun vs H Q E h => ?_) (fun cdv A outer s H vs Q E hr h => ?_)
  · obtain ⟨x, dx, Y, v, rfl, _⟩ := h.out
    rfl
  · obtain ⟨x, dx, Y, v, rfl, hx, hc, k⟩ := h.out
    refine ⟨_, (pss_one (ps_ret (pe_meth0 (pe_fld (pv 0) rfl) T.o_Clock.cl T.Me_Clock_now G_Clock_now (hr.mono (by first | decide | omega)) T.b_Clock_now .nil pass0))), ?_⟩
    walk_at "st"
    refine ⟨x, T.C_Yard, dx, _, .ref Y.ck, rfl, hx, T.o_Yard.cl, T.o_Yard.na _ (by decide), rfl, ?_⟩
    refine ⟨Y.ck, Y.dck, _, rfl, hc, rfl, ?_⟩
    walk_at "st"
    exact .a ⟨Y.ck, Y.dck, v, rfl, hc, k⟩
def spYAdv (T : Txt K mg) : Sp := fun vs H Q _ => Hd (∃ (x dx : Addr) (Y : YA) (i j : Int), vs = [.ref x, .int j] ∧ H x = some (.ins T.C_Yard dx (fYd Y)) ∧ H Y.ck = some (.ins T.C_Clock Y.dck [("shown", .int i)]) ∧ Q .non (upd H Y.ck (.ins T.C_Clock Y.dck [("shown", .int (i + j))])))
theorem ok_yadv (T : Txt K mg) : FnOk P w K mg base CX0 2 T.a_Yard_advance T.fd_Yard_advance ["self", "milliseconds"] (spYAdv T) := by
  have G_Clock_advance : FnOk P w K mg base CX0 1 _ _ _ (spAdvance T.C_Clock) := ok_advance T
  refine T.F_Yard_advance.ok sc_Yard_advance (fun vs H Q E h => ?_) (fun cdv A outer s H vs Q E hr h => ?_)
  · obtain ⟨x, dx, Y, i, j, rfl, _⟩ := h.out
    rfl
  · obtain ⟨x, dx, Y, i, j, rfl, hx, hc, k⟩ := h.out
    refine ⟨_, (pss_one (ps_expr (pe_meth (pe_fld (pv 0) rfl) T.o_Clock.cl T.Me_Clock_advance G_Clock_advance (hr.mono (by first | decide | omega)) T.b_Clock_advance .nil pass0 (pa_cons (pv 1) pa_nil)))), ?_⟩
    walk_at "st"
    refine ⟨x, T.C_Yard, dx, _, .ref Y.ck, rfl, hx, T.o_Yard.cl, T.o_Yard.na _ (by decide), rfl, ?_⟩
    refine ⟨Y.ck, Y.dck, _, rfl, hc, rfl, ?_⟩
    walk_at "st"
    exact .a ⟨Y.ck, Y.dck, i, j, rfl, hc, k⟩
/-- a stream's text -/
def spYText (T : Txt K mg) : Sp := fun vs H Q _ => Hd (∃ (x dx : Addr) (Y : YA) (k : List Nat) (m : SMap) (n : Nat), vs = [.ref x, .str (SX.S k)] ∧ H x = some (.ins T.C_Yard dx (fYd Y)) ∧ H Y.ss = some (.ins T.C_Store Y.dss (fSt Y.ck Y.sk)) ∧ StAt T.C_Written H Y.sk m n ∧ 1 ≤ n ∧ (∀ e ∈ m, e.2.l.length ≤ 100000) ∧
  (getM m k = none → Q (.str (SX.S [])) H) ∧ (∀ y, getM m k = some y → ∀ H' pa', StAt T.C_Written H' Y.sk (putM m k ⟨y.wr, pa', y.l⟩) n → H pa' = none → FrS [y.wr] H H' → Q (.str (SX.S y.l)) H'))
theorem ok_ytext (T : Txt K mg) : FnOk P w K mg base CX0 3 T.a_Yard_text T.fd_Yard_text ["self", "stream"] (spYText T) := by
  have G_Store_text : FnOk P w K mg base CX0 2 _ _ _ (spStText T.C_Store T.C_Written) := ok_sttext T
  refine T.F_Yard_text.ok sc_Yard_text (fun vs H Q E h => ?_) (fun cdv A outer s H vs Q E hr h => ?_)
  · obtain ⟨x, dx, Y, k, m, n, rfl, _⟩ := h.out
    rfl
  · obtain ⟨x, dx, Y, k, m, n, rfl, hx, hs, S, n1, hz, kN, kS⟩ := h.out
    refine ⟨_, (pss_one (ps_ret (pe_meth (pe_fld (pv 0) rfl) T.o_Store.cl T.Me_Store_text G_Store_text (hr.mono (by first | decide | omega)) T.b_Store_text .nil pass0 (pa_cons (pv 1) pa_nil)))), ?_⟩
    walk_at "st"
    refine ⟨x, T.C_Yard, dx, _, .ref Y.ss, rfl, hx, T.o_Yard.cl, T.o_Yard.na _ (by decide), rfl, ?_⟩
    refine ⟨Y.ss, Y.dss, _, rfl, hs, rfl, ?_⟩
    walk_at "st"
    exact .a ⟨Y.ss, Y.dss, Y.ck, Y.sk, k, m, n, rfl, hs, S, n1, hz, kN, kS⟩
/-- a file put, a file taken away -/
def spYPut (T : Txt K mg) : Sp := fun vs H Q _ => Hd (∃ (x dx : Addr) (Y : YA) (v : V) (k l : List Nat) (m : SMap) (n : Nat), vs = [.ref x, .str (SX.S k), .str (SX.S l)] ∧ H x = some (.ins T.C_Yard dx (fYd Y)) ∧ H Y.fs = some (.ins T.C_Store Y.dfs (fSt Y.ck Y.fk)) ∧ H Y.ck = some (.ins T.C_Clock Y.dck [("shown", v)]) ∧ StAt T.C_Written H Y.fk m n ∧ 1 ≤ n ∧ l.length ≤ 100000 ∧ m.length + 1 ≤ 1000 ∧
  ∀ H' wr pa, StAt T.C_Written H' Y.fk (putM m k ⟨wr, pa, l⟩) n → H wr = none → H pa = none → FrS [Y.fk] H H' → Q .non H')
theorem ok_yput (T : Txt K mg) : FnOk P w K mg base CX0 4 T.a_Yard_put_file T.fd_Yard_put_file ["self", "name", "text"] (spYPut T) := by
  have G_Store_put : FnOk P w K mg base CX0 3 _ _ _ (spPut T.C_Store T.C_Written T.C_Clock) := ok_put T
  refine T.F_Yard_put_file.ok sc_Yard_put_file (fun vs H Q E h => ?_) (fun cdv A outer s H vs Q E hr h => ?_)
  · obtain ⟨x, dx, Y, v, k, l, m, n, rfl, _⟩ := h.out
    rfl
  · obtain ⟨x, dx, Y, v, k, l, m, n, rfl, hx, hs, hc, S, n1, hl, hm, kQ⟩ := h.out
    refine ⟨_, (pss_one (ps_expr (pe_meth (pe_fld (pv 0) rfl) T.o_Store.cl T.Me_Store_put G_Store_put (hr.mono (by first | decide | omega)) T.b_Store_put .nil pass0 (pa_cons (pv 1) (pa_cons (pv 2) pa_nil))))), ?_⟩
    walk_at "st"
    refine ⟨x, T.C_Yard, dx, _, .ref Y.fs, rfl, hx, T.o_Yard.cl, T.o_Yard.na _ (by decide), rfl, ?_⟩
    refine ⟨Y.fs, Y.dfs, _, rfl, hs, rfl, ?_⟩
    walk_at "st"
    exact .a ⟨Y.fs, Y.dfs, Y.ck, Y.dck, Y.fk, v, k, l, m, n, rfl, hs, hc, S, n1, hl, hm, kQ⟩
def spYTake (T : Txt K mg) : Sp := fun vs H Q _ => Hd (∃ (x dx : Addr) (Y : YA) (k : List Nat) (m : SMap) (n : Nat), vs = [.ref x, .str (SX.S k)] ∧ H x = some (.ins T.C_Yard dx (fYd Y)) ∧ H Y.fs = some (.ins T.C_Store Y.dfs (fSt Y.ck Y.fk)) ∧ StAt T.C_Written H Y.fk m n ∧ ∀ H', StAt T.C_Written H' Y.fk (dropM m k) n → FrS [Y.fk] H H' → Q .non H')
theorem ok_ytake (T : Txt K mg) : FnOk P w K mg base CX0 2 T.a_Yard_remove_file T.fd_Yard_remove_file ["self", "name"] (spYTake T) := by
  have G_Store_take_away : FnOk P w K mg base CX0 1 _ _ _ (spTake T.C_Store T.C_Written) := ok_take T
  refine T.F_Yard_remove_file.ok sc_Yard_remove_file (fun vs H Q E h => ?_) (fun cdv A outer s H vs Q E hr h => ?_)
  · obtain ⟨x, dx, Y, k, m, n, rfl, _⟩ := h.out
    rfl
  · obtain ⟨x, dx, Y, k, m, n, rfl, hx, hs, S, kQ⟩ := h.out
    refine ⟨_, (pss_one (ps_expr (pe_meth (pe_fld (pv 0) rfl) T.o_Store.cl T.Me_Store_take_away G_Store_take_away (hr.mono (by first | decide | omega)) T.b_Store_take_away .nil pass0 (pa_cons (pv 1) pa_nil)))), ?_⟩
    walk_at "st"
    refine ⟨x, T.C_Yard, dx, _, .ref Y.fs, rfl, hx, T.o_Yard.cl, T.o_Yard.na _ (by decide), rfl, ?_⟩
    refine ⟨Y.fs, Y.dfs, _, rfl, hs, rfl, ?_⟩
    walk_at "st"
    exact .a ⟨Y.fs, Y.dfs, Y.ck, Y.fk, k, m, n, rfl, hs, S, kQ⟩
/-! ### the end of lines, over super() -/
def spHTerm (K : PySem.W.Frag) : Sp := fun vs H Q _ => Hd (∃ (x dx C : Addr) (v : V) (fs : List (Str × V)), vs = [.ref x, v] ∧ H x = some (.ins C dx fs) ∧ OC K C hF ∧ fs.length < 1000 ∧ Q .non (upd H x (.ins C dx (putF "terminator" v fs))))
theorem ok_hterm (T : Txt K mg) : FnOk P w K mg base CX0 1 T.a_Handler_setTerminator T.fd_Handler_setTerminator ["self", "text"] (spHTerm K) := by
  refine T.F_Handler_setTerminator.ok sc_Handler_setTerminator (fun vs H Q E h => ?_) (fun cdv A outer s H vs Q E hr h => ?_)
  · obtain ⟨x, dx, C, v, fs, rfl, _⟩ := h.out
    rfl
  · obtain ⟨x, dx, C, v, fs, rfl, hx, oC, hz, k⟩ := h.out
    refine ⟨_, (pss_one (ps_fld (pv 0) (pv 1) rfl)), ?_⟩
    walk_at "st"
    exact ⟨x, C, dx, _, rfl, hx, oC.cl, oC.na _ (by decide), hz, k⟩
def spSTerm (C : Addr) : Sp := fun vs H Q _ => Hd (∃ (x dx : Addr) (v : V) (fs : List (Str × V)), vs = [.ref x, v] ∧ H x = some (.ins C dx fs) ∧ fs.length < 1000 ∧ Q .non (upd H x (.ins C dx (putF "terminator" v fs))))
theorem ok_sterm (T : Txt K mg) (Z : Dct P w K mg T) : FnOk P w K mg base CX0 2 T.a_StreamHandler_setTerminator T.fd_StreamHandler_setTerminator ["self", "text"] (spSTerm T.C_StreamHandler) := by
  have G_super : FnOk P w K mg base CX0 1 _ _ _ (spHTerm K) := ok_hterm T
  refine T.F_StreamHandler_setTerminator.ok0 (sf := "self") Z.top sc_StreamHandler_setTerminator rfl rfl rfl rfl rfl (fun vs H Q E h => ?_) (fun cc cda A outer s H vs Q E hr h => ?_)
  · obtain ⟨x, dx, v, fs, rfl, _⟩ := h.out
    rfl
  · obtain ⟨x, dx, v, fs, rfl, hx, hz, k⟩ := h.out
    have oC : OC K T.C_StreamHandler hF := ⟨T.o_StreamHandler.cl, fun f hf => T.o_StreamHandler.na f (List.mem_append_left (as := hF) ["stream"] hf)⟩
    refine ⟨_, fun SD => (SuX.pssA_one (SuX.psA_expr (SuX.peA_sup (i := 0) SD T.SM_StreamHandler_setTerminator G_super (hr.mono (by first | decide | omega)) T.b_Handler_setTerminator .nil pass0 rfl (pa_cons (pv 1) pa_nil)))), ?_⟩
    refine ⟨x, dx, fs, rfl, hx, ?_⟩
    walk_at "st"
    exact .a ⟨x, dx, T.C_StreamHandler, v, fs, rfl, hx, oC, hz, k⟩
end
end My

namespace My
open PySem PySem.Spec PyProof.Rows L2 SuX
local macro_rules | `(tactic| walk_at "hp") => `(tactic| first | assumption | exact upd_same | (refine Eq.trans (upd_ne (by first | assumption | (apply Ne.symm; assumption))) ?_; walk_at "hp"))
local macro_rules | `(tactic| walk_at "ixl") => `(tactic| (refine' ⟨_, ?xs, _, ?vv, rfl, rfl, SqL.of ?hh, ?aa, ?qq⟩; (case hh => walk_at "hp"); (case aa => rfl)))
local macro_rules | `(tactic| walk_at "setl") => `(tactic| (refine' ⟨_, ?xs, _, ?jj, rfl, rfl, ?hh, ?aa, ?qq⟩; (case hh => walk_at "hp"); (case aa => rfl)))
local macro_rules | `(tactic| walk_at "cond") => `(tactic| first | exact ⟨_, rfl⟩ | exact Nat.le_of_lt (small1000 (Nat.le_of_ble_eq_true rfl)) | decide | omega | (dsimp only; omega) | exact ⟨by decide, by decide⟩ | exact Or.inr ⟨by decide, by decide⟩ | exact Or.inl ⟨by decide, by decide⟩ | exact ⟨by decide, by decide, by decide⟩ | exact ⟨by omega, by omega⟩ | exact ⟨by omega, by omega, by omega⟩ | (simp only [List.length_cons, List.length_nil, List.length_append, List.length_take, List.length_drop]; omega) | (refine ⟨?_, ?_, ?_⟩ <;> first | decide | omega | (simp only [List.length_cons, List.length_nil, List.length_append, List.length_take, List.length_drop, Option.getD_some, Option.getD_none]; omega)))
local macro_rules | `(tactic| walk_at "st") => `(tactic| repeat (first | refine ⟨_, rfl, ?_⟩ | refine ⟨_, _, rfl, rfl, ?_⟩ | walk_at "ixl" | walk_at "setl" | refine ⟨rfl, ?_⟩ | refine Or.inl ⟨_, rfl, ?_⟩ | refine And.intro (by walk_at "cond") ?_))
theorem for_list {K : PySem.W.Frag} {a : Addr} {xs : List V} {g : TG} {tb : TS} {D : Ends} {σ : L2.St} {H : Hp} (W : Nat → L2.St → Hp → Prop) (hst : ∀ i σ H, W i σ H → H a = some (.lst xs)) (h0 : W 0 σ H) (hend : ∀ σ H, W xs.length σ H → D.nx σ H)
    (hs : ∀ (R : L2.St → Hp → Prop) (i : Nat) σ H x, W i σ H → xs[i]? = some x → ∀ N : L2.St → Hp → Prop, N = (fun σ' H' => Hd (W (i + 1) σ' H')) → g x σ H fun σ2 H2 => tb { D with nx := N, ct := N, bk := D.nx } σ2 H2) :
    ∃ W : Nat → Nat → L2.St → Hp → Prop, (∃ m, W 0 m σ H) ∧ ∀ i m σ H, W i m σ H →
      ((Itl K a).stop i H ∧ D.nx σ H) ∨ ((Itl K a).go i H ∧ ∃ N : L2.St → Hp → Prop, (∀ σ' H', N σ' H' → ∃ m', m' < m ∧ W (i + 1) m' σ' H') ∧ ∀ x H', (Itl K a).yld i H x H' → g x σ H' fun σ2 H2 => tb { D with nx := N, ct := N, bk := D.nx } σ2 H2) := by
  refine ⟨fun i m σ H => W i σ H ∧ m = xs.length - i ∧ i ≤ xs.length, ⟨_, h0, rfl, Nat.zero_le _⟩, ?_⟩
  rintro i m σ H ⟨hw, rfl, hi⟩
  have hl := hst i σ H hw
  by_cases hlt : i < xs.length
  · refine .inr ⟨⟨xs, xs[i], SqL.of hl, List.getElem?_eq_getElem hlt⟩, fun σ' H' => Hd (W (i + 1) σ' H'), fun σ' H' z => ⟨xs.length - (i + 1), by omega, z.out, rfl, by omega⟩, ?_⟩
    rintro x H' ⟨rfl, hx⟩
    exact hs D.nx i σ H' x hw (hx xs (SqL.of hl)) _ rfl
  · have e : i = xs.length := by omega
    subst e
    exact .inl ⟨⟨xs, SqL.of hl, Nat.le_refl _⟩, hend σ H hw⟩
section
variable {P : Program} {w : World} {K : PySem.W.Frag} {mg : Str → Option Value} {base : Heap}
def spNo : Sp := fun _ _ _ _ => False
theorem ok_no {x qual : Str} {st : Stmt} {f : Addr} {fd : FuncData} {N ps : List Str} (F : Fun K x qual st f fd) (S : FnScope N ps (defScope st)) : FnOk P w K mg base CX0 1 f fd ps spNo :=
  F.ok (k := 0) S (fun _ _ _ _ h => h.elim) fun _ _ _ _ _ _ _ _ _ h => h.elim
theorem ok_noX {x qual : Str} {st : Stmt} {f : Addr} {fd : FuncData} {N ps : List Str} (F : Fun K x qual st f fd) (S : FnScope N ps (defScope st)) : FnOk P w K mg base (L2.CX P w) 1 f fd ps spNo :=
  F.okX (k := 0) S (fun _ _ _ _ h => h.elim) fun _ _ _ _ _ _ _ _ _ h => h.elim
/-- no filters: the record itself -/
def spThrough : Sp := fun vs H Q _ => Hd (∃ (a r : Addr), vs = [.ref a, .ref r] ∧ H a = some (.lst []) ∧ Q (.ref r) H)
theorem ok_through (T : Txt K mg) : FnOk P w K mg base CX0 2 T.f_through_all T.fd_through_all ["filters", "record"] spThrough := by
  have G_through_one : FnOk P w K mg base CX0 1 _ _ ["one", "record"] spNo := ok_no T.D_through_one.F sc_through_one
  refine T.D_through_all.F.ok sc_through_all (fun vs H Q E h => ?_) (fun cdv A outer s H vs Q E hr h => ?_)
  · obtain ⟨a, r, rfl, _⟩ := h.out
    rfl
  · obtain ⟨a, r, rfl, ha, k⟩ := h.out
    refine ⟨_, (pss_cons (ps_for PassesOwn.never rfl (pi_list (pv 0)) (pg_name (i := 2) sc_through_all.nd rfl (by first | exact Or.inl rfl | exact Or.inr rfl))
    (pss_cons (ps_set (i := 1) sc_through_all.nd rfl (by first | exact Or.inl rfl | exact Or.inr rfl) (pe_call G_through_one (hr.mono (by first | decide | omega)) rfl T.D_through_one.g T.D_through_one.F.kp T.D_through_one.b .nil pass0 (pa_cons (pv 2) (pa_cons (pv 1) pa_nil))))
  (pss_one (ps_if (pt_cmpR op_isN (pv 1) pe_non (nomark _))
    (pss_one (ps_ret pe_non))
    pss_nil))))
  (pss_one (ps_ret (pv 1)))), ?_⟩
    walk_at "st"
    refine ⟨⟨_, SqL.of ha⟩, ?_⟩
    refine for_list (xs := []) (fun i σ H1 => H1 = H ∧ σ = [some (.ref a), some (.ref r), none]) ?_ ⟨rfl, rfl⟩ ?_ ?_
    · rintro i σ H1 ⟨rfl, rfl⟩
      exact ha
    · rintro σ H1 ⟨rfl, rfl⟩
      walk_at "st"
      exact k
    · rintro R i σ H1 x ⟨rfl, rfl⟩ hx
      cases i <;> cases hx
/-- a record's message without args -/
def fLr (n l ln : V) (m : List Nat) (g : Addr) (c : V) (e : Addr) : List (Str × V) := [("name", n), ("levelno", l), ("levelname", ln), ("msg", .str (SX.S m)), ("given", .ref g), ("created", c), ("extra", .ref e)]
def spMsg (C : Addr) (K : PySem.W.Frag) : Sp := fun vs H Q _ => Hd (∃ (x dx g e : Addr) (n l ln c : V) (m : List Nat), vs = [.ref x] ∧ H x = some (.ins C dx (fLr n l ln m g c e)) ∧ SqT K H g [] ∧ Q (.str (SX.S m)) H)
theorem ok_msg (T : Txt K mg) : FnOk P w K mg base (L2.CX P w) 2 T.a_LogRecord_message T.fd_LogRecord_message ["self"] (spMsg T.C_LogRecord K) := by
  have G_filled : FnOk P w K mg base (L2.CX P w) 1 _ _ ["msg", "given"] spNo := ok_noX T.D_filled.F sc_filled
  refine T.F_LogRecord_message.okX sc_LogRecord_message (fun vs H Q E h => ?_) (fun cdv A outer s H vs Q E hr h => ?_)
  · obtain ⟨x, dx, g, e, n, l, ln, c, m, rfl, _⟩ := h.out
    rfl
  · obtain ⟨x, dx, g, e, n, l, ln, c, m, rfl, hx, hg, k⟩ := h.out
    refine ⟨_, (pss_cons (ps_if (pt_not (pt_truth (pe_fld (pv 0) rfl) (fun _ => rfl)))
    (pss_one (ps_ret (pe_fld (pv 0) rfl)))
    pss_nil)
  (pss_one (ps_ret (pe_call G_filled (hr.mono (by first | decide | omega)) rfl T.D_filled.g T.D_filled.F.kp T.D_filled.b .nil (passes_call (takes_of rfl rfl rfl rfl) (fun _ _ _ _ h => h)) (pa_cons (pe_fld (pv 0) rfl) (pa_cons (pe_fld (pv 0) rfl) pa_nil)))))), ?_⟩
    walk_at "st"
    refine ⟨x, T.C_LogRecord, dx, _, .ref g, rfl, hx, T.o_LogRecord.cl, T.o_LogRecord.na _ (by decide), rfl, ?_⟩
    refine ⟨_, .inr (.inl ⟨_, hg, rfl⟩), ?_⟩
    refine if_true_of rfl ?_
    walk_at "st"
    exact ⟨x, T.C_LogRecord, dx, _, .str (SX.S m), rfl, hx, T.o_LogRecord.cl, T.o_LogRecord.na _ (by decide), rfl, k⟩
/-! ### a handler's filters, none -/
def spHFilt (K : PySem.W.Frag) : Sp := fun vs H Q _ => Hd (∃ (x dx C fl r : Addr) (fs : List (Str × V)), vs = [.ref x, .ref r] ∧ H x = some (.ins C dx fs) ∧ OC K C hF ∧ fs.lookup ("filters" : Str) = some (V.ref fl) ∧ H fl = some (.lst []) ∧ Q (.ref r) H)
theorem ok_hfilt (T : Txt K mg) : FnOk P w K mg base CX0 3 T.a_Handler_filtered T.fd_Handler_filtered ["self", "record"] (spHFilt K) := by
  have G_through_all : FnOk P w K mg base CX0 2 _ _ _ spThrough := ok_through T
  refine T.F_Handler_filtered.ok sc_Handler_filtered (fun vs H Q E h => ?_) (fun cdv A outer s H vs Q E hr h => ?_)
  · obtain ⟨x, dx, C, fl, r, fs, rfl, _⟩ := h.out
    rfl
  · obtain ⟨x, dx, C, fl, r, fs, rfl, hx, oC, lf, hf, k⟩ := h.out
    refine ⟨_, (pss_one (ps_ret (pe_call G_through_all (hr.mono (by first | decide | omega)) rfl T.D_through_all.g T.D_through_all.F.kp T.D_through_all.b .nil pass0 (pa_cons (pe_fld (pv 0) rfl) (pa_cons (pv 1) pa_nil))))), ?_⟩
    walk_at "st"
    refine ⟨x, C, dx, _, .ref fl, rfl, hx, oC.cl, oC.na _ (by decide), lf, ?_⟩
    walk_at "st"
    exact .a ⟨fl, r, rfl, hf, k⟩
def spSFilt (C : Addr) : Sp := fun vs H Q _ => Hd (∃ (x dx fl r : Addr) (fs : List (Str × V)), vs = [.ref x, .ref r] ∧ H x = some (.ins C dx fs) ∧ fs.lookup ("filters" : Str) = some (V.ref fl) ∧ H fl = some (.lst []) ∧ Q (.ref r) H)
theorem ok_sfilt (T : Txt K mg) (Z : Dct P w K mg T) : FnOk P w K mg base CX0 4 T.a_StreamHandler_filtered T.fd_StreamHandler_filtered ["self", "record"] (spSFilt T.C_StreamHandler) := by
  have G_super : FnOk P w K mg base CX0 3 _ _ _ (spHFilt K) := ok_hfilt T
  refine T.F_StreamHandler_filtered.ok0 (sf := "self") Z.top sc_StreamHandler_filtered rfl rfl rfl rfl rfl (fun vs H Q E h => ?_) (fun cc cda A outer s H vs Q E hr h => ?_)
  · obtain ⟨x, dx, fl, r, fs, rfl, _⟩ := h.out
    rfl
  · obtain ⟨x, dx, fl, r, fs, rfl, hx, lf, hf, k⟩ := h.out
    have oC : OC K T.C_StreamHandler hF := ⟨T.o_StreamHandler.cl, fun f hf => T.o_StreamHandler.na f (List.mem_append_left (as := hF) ["stream"] hf)⟩
    refine ⟨_, fun SD => (SuX.pssA_one (SuX.psA_ret (SuX.peA_sup (i := 0) SD T.SM_StreamHandler_filtered G_super (hr.mono (by first | decide | omega)) T.b_Handler_filtered .nil pass0 rfl (pa_cons (pv 1) pa_nil)))), ?_⟩
    refine ⟨x, dx, fs, rfl, hx, ?_⟩
    walk_at "st"
    exact .a ⟨x, dx, T.C_StreamHandler, fl, r, fs, rfl, hx, oC, lf, hf, k⟩
end
end My

namespace My
open PySem PySem.Spec PyProof.Rows L2 SuX
local macro_rules | `(tactic| walk_at "hp") => `(tactic| first | assumption | exact upd_same | (refine Eq.trans (upd_ne (by first | assumption | (apply Ne.symm; assumption))) ?_; walk_at "hp"))
local macro_rules | `(tactic| walk_at "ixl") => `(tactic| (refine' ⟨_, ?xs, _, ?vv, rfl, rfl, SqL.of ?hh, ?aa, ?qq⟩; (case hh => walk_at "hp"); (case aa => rfl)))
local macro_rules | `(tactic| walk_at "setl") => `(tactic| (refine' ⟨_, ?xs, _, ?jj, rfl, rfl, ?hh, ?aa, ?qq⟩; (case hh => walk_at "hp"); (case aa => rfl)))
local macro_rules | `(tactic| walk_at "cond") => `(tactic| first | exact ⟨_, rfl⟩ | exact Nat.le_of_lt (small1000 (Nat.le_of_ble_eq_true rfl)) | decide | omega | (dsimp only; omega) | exact ⟨by decide, by decide⟩ | exact Or.inr ⟨by decide, by decide⟩ | exact Or.inl ⟨by decide, by decide⟩ | exact ⟨by decide, by decide, by decide⟩ | exact ⟨by omega, by omega⟩ | exact ⟨by omega, by omega, by omega⟩ | (simp only [List.length_cons, List.length_nil, List.length_append, List.length_take, List.length_drop]; omega) | (refine ⟨?_, ?_, ?_⟩ <;> first | decide | omega | (simp only [List.length_cons, List.length_nil, List.length_append, List.length_take, List.length_drop, Option.getD_some, Option.getD_none]; omega)))
local macro_rules | `(tactic| walk_at "st") => `(tactic| repeat (first | refine ⟨_, rfl, ?_⟩ | refine ⟨_, _, rfl, rfl, ?_⟩ | walk_at "ixl" | walk_at "setl" | refine ⟨rfl, ?_⟩ | refine Or.inl ⟨_, rfl, ?_⟩ | refine And.intro (by walk_at "cond") ?_))
section
variable {P : Program} {w : World} {K : PySem.W.Frag} {mg : Str → Option Value} {base : Heap}
theorem ok_noS {file m qual sf : Str} {st : Stmt} {f D : Addr} {fd : FuncData} {N ps : List Str} {ar : Arg} (F : SupF K file m qual st f fd D) (hP : TopS P mg file) (S : NdefX.NScope N ps ["__class__"] (defScope st))
    (har : ((defArgs st).posonlyargs ++ (defArgs st).args).head? = some ar) (hsf : ar.arg = sf) (hks : (defScope st).names.lookup ("super" : Str) = some .globalImplicit) (hkc : (defScope st).names.lookup ("__class__" : Str) = some .free)
    (hkf : (defScope st).names.lookup sf = some .local) : FnOk P w K mg base (L2.CX P w) 1 f fd ps spNo := F.ok (k := 0) hP S har hsf hks hkc hkf (fun _ _ _ _ h => h.elim) fun _ _ _ _ _ _ _ _ _ _ h => h.elim
/-- what a record writes where there is no formatter -/
def spHFmt (CL : Addr) (K : PySem.W.Frag) : Sp := fun vs H Q _ => Hd (∃ (x dx C r dr g e : Addr) (n l ln c : V) (m : List Nat) (fs : List (Str × V)), vs = [.ref x, .ref r] ∧ H x = some (.ins C dx fs) ∧ OC K C hF ∧ fs.lookup ("formatter" : Str) = some V.non ∧ H r = some (.ins CL dr (fLr n l ln m g c e)) ∧ SqT K H g [] ∧ Q (.str (SX.S m)) H)
theorem ok_hfmt (T : Txt K mg) (Z : Dct P w K mg T) : FnOk P w K mg base (L2.CX P w) 3 T.a_Handler_formatted T.fd_Handler_formatted ["self", "record"] (spHFmt T.C_LogRecord K) := by
  have G_LogRecord_message : FnOk P w K mg base (L2.CX P w) 2 _ _ _ (spMsg T.C_LogRecord K) := ok_msg T
  have G_StreamHandler_formatted : FnOk P w K mg base (L2.CX P w) 1 _ _ ["self", "record"] spNo := ok_noS (sf := "self") T.F_StreamHandler_formatted Z.top sc_StreamHandler_formatted rfl rfl rfl rfl rfl
  refine T.F_Handler_formatted.okX sc_Handler_formatted (fun vs H Q E h => ?_) (fun cdv A outer s H vs Q E hr h => ?_)
  · obtain ⟨x, dx, C, r, dr, g, e, n, l, ln, c, m, fs, rfl, _⟩ := h.out
    rfl
  · obtain ⟨x, dx, C, r, dr, g, e, n, l, ln, c, m, fs, rfl, hx, oC, lf, hr1, hg, k⟩ := h.out
    refine ⟨_, (pss_cons (ps_if (pt_cmpR op_isN (pe_fld (pv 0) rfl) pe_non (nomark _))
    (pss_one (ps_ret (pe_meth0 (pv 1) T.o_LogRecord.cl T.Me_LogRecord_message G_LogRecord_message (hr.mono (by first | decide | omega)) T.b_LogRecord_message .nil (passes_call (takes_of rfl rfl rfl rfl) (fun _ _ _ _ h => h)))))
    pss_nil)
  (pss_one (ps_ret (pe_meth (pe_fld (pv 0) rfl) T.o_StreamHandler.cl T.Me_StreamHandler_formatted G_StreamHandler_formatted (hr.mono (by first | decide | omega)) T.b_StreamHandler_formatted .nil (passes_call (takes_of rfl rfl rfl rfl) (fun _ _ _ _ h => h)) (pa_cons (pv 1) pa_nil))))), ?_⟩
    walk_at "st"
    refine ⟨x, C, dx, _, .non, rfl, hx, oC.cl, oC.na _ (by decide), lf, ?_⟩
    walk_at "st"
    refine ⟨r, dr, _, rfl, hr1, rfl, ?_⟩
    walk_at "st"
    exact .a ⟨r, dr, g, e, n, l, ln, c, m, rfl, hr1, hg, k⟩
def spSFmt (C CL : Addr) (K : PySem.W.Frag) : Sp := fun vs H Q _ => Hd (∃ (x dx r dr g e : Addr) (n l ln c : V) (m : List Nat) (fs : List (Str × V)), vs = [.ref x, .ref r] ∧ H x = some (.ins C dx fs) ∧ fs.lookup ("formatter" : Str) = some V.non ∧ H r = some (.ins CL dr (fLr n l ln m g c e)) ∧ SqT K H g [] ∧ Q (.str (SX.S m)) H)
theorem ok_sfmt (T : Txt K mg) (Z : Dct P w K mg T) : FnOk P w K mg base (L2.CX P w) 4 T.a_StreamHandler_formatted T.fd_StreamHandler_formatted ["self", "record"] (spSFmt T.C_StreamHandler T.C_LogRecord K) := by
  have G_super : FnOk P w K mg base (L2.CX P w) 3 _ _ _ (spHFmt T.C_LogRecord K) := ok_hfmt T Z
  refine T.F_StreamHandler_formatted.ok (sf := "self") Z.top sc_StreamHandler_formatted rfl rfl rfl rfl rfl (fun vs H Q E h => ?_) (fun cc cda A outer s H vs Q E hr h => ?_)
  · obtain ⟨x, dx, r, dr, g, e, n, l, ln, c, m, fs, rfl, _⟩ := h.out
    rfl
  · obtain ⟨x, dx, r, dr, g, e, n, l, ln, c, m, fs, rfl, hx, lf, hr1, hg, k⟩ := h.out
    have oC : OC K T.C_StreamHandler hF := ⟨T.o_StreamHandler.cl, fun f hf => T.o_StreamHandler.na f (List.mem_append_left (as := hF) ["stream"] hf)⟩
    refine ⟨_, fun SD => (SuX.pssA_one (SuX.psA_ret (SuX.peA_sup (i := 0) SD T.SM_StreamHandler_formatted G_super (hr.mono (by first | decide | omega)) T.b_Handler_formatted .nil (passes_call (takes_of rfl rfl rfl rfl) (fun _ _ _ _ h => h)) rfl (pa_cons (pv 1) pa_nil)))), ?_⟩
    refine ⟨x, dx, fs, rfl, hx, ?_⟩
    walk_at "st"
    exact .a ⟨x, dx, T.C_StreamHandler, r, dr, g, e, n, l, ln, c, m, fs, rfl, hx, oC, lf, hr1, hg, k⟩
/-- a stream's handler with the end of lines z -/
def fSz (y fl : Addr) (z l : List Nat) : List (Str × V) := [("yard", .ref y), ("level", .int 0), ("formatter", .non), ("filters", .ref fl), ("name", .non), ("terminator", .str (SX.S z)), ("closed", .bl false), ("stream", .str (SX.S l))]
theorem fSz_put (y fl : Addr) (z z' l : List Nat) : putF "terminator" (.str (SX.S z')) (fSz y fl z l) = fSz y fl z' l := rfl
theorem fSh_z (y fl : Addr) (l : List Nat) : fSh y fl l = fSz y fl [10] l := rfl
/-- a line -/
def spLine (C CL : Addr) (K : PySem.W.Frag) : Sp := fun vs H Q _ => Hd (∃ (x dx y fl r dr g e : Addr) (n l ln c : V) (m z st : List Nat), vs = [.ref x, .ref r] ∧ H x = some (.ins C dx (fSz y fl z st)) ∧ H r = some (.ins CL dr (fLr n l ln m g c e)) ∧ SqT K H g [] ∧ (m ++ z).length ≤ 100000 ∧ Q (.str (SX.S (m ++ z))) H)
theorem ok_line (T : Txt K mg) (Z : Dct P w K mg T) : FnOk P w K mg base (L2.CX P w) 5 T.a_Handler_line T.fd_Handler_line ["self", "record"] (spLine T.C_StreamHandler T.C_LogRecord K) := by
  have G_StreamHandler_formatted : FnOk P w K mg base (L2.CX P w) 4 _ _ _ (spSFmt T.C_StreamHandler T.C_LogRecord K) := ok_sfmt T Z
  refine T.F_Handler_line.okX sc_Handler_line (fun vs H Q E h => ?_) (fun cdv A outer s H vs Q E hr h => ?_)
  · obtain ⟨x, dx, y, fl, r, dr, g, e, n, l, ln, c, m, z, st, rfl, _⟩ := h.out
    rfl
  · obtain ⟨x, dx, y, fl, r, dr, g, e, n, l, ln, c, m, z, st, rfl, hx, hr1, hg, hz, k⟩ := h.out
    refine ⟨_, (pss_one (ps_ret (pe_op SL.op_addL (pe_meth (pv 0) T.o_StreamHandler.cl T.Me_StreamHandler_formatted G_StreamHandler_formatted (hr.mono (by first | decide | omega)) T.b_StreamHandler_formatted .nil (passes_call (takes_of rfl rfl rfl rfl) (fun _ _ _ _ h => h)) (pa_cons (pv 1) pa_nil)) (pe_fld (pv 0) rfl)))), ?_⟩
    walk_at "st"
    refine ⟨x, dx, _, rfl, hx, rfl, ?_⟩
    walk_at "st"
    refine .a ⟨x, dx, r, dr, g, e, n, l, ln, c, m, _, rfl, hx, rfl, hr1, hg, ?_⟩
    walk_at "st"
    refine ⟨x, T.C_StreamHandler, dx, _, .str (SX.S z), rfl, hx, T.o_StreamHandler.cl, T.o_StreamHandler.na _ (by decide), rfl, ?_⟩
    exact ⟨m, z, rfl, rfl, by rw [List.length_append] at hz; omega, k⟩
/-- a record to a stream -/
def spEmit (T : Txt K mg) : Sp := fun vs H Q _ => Hd (∃ (x dx y dy fl r dr g e : Addr) (Y : YA) (n l ln c v : V) (m z st : List Nat) (ks : SMap) (b : Nat), vs = [.ref x, .ref r] ∧ H x = some (.ins T.C_StreamHandler dx (fSz y fl z st)) ∧ H y = some (.ins T.C_Yard dy (fYd Y)) ∧ H r = some (.ins T.C_LogRecord dr (fLr n l ln m g c e)) ∧ SqT K H g [] ∧ (m ++ z).length ≤ 100000 ∧
  H Y.ss = some (.ins T.C_Store Y.dss (fSt Y.ck Y.sk)) ∧ H Y.ck = some (.ins T.C_Clock Y.dck [("shown", v)]) ∧ StAt T.C_Written H Y.sk ks b ∧ 1 ≤ b ∧ b ≤ 100000 ∧ ks.length + 1 ≤ 1000 ∧
  ∀ H' wr pa, StAt T.C_Written H' Y.sk (putM ks st ⟨wr, pa, oldT ks st ++ (m ++ z)⟩) (b + 1) → (H wr = none ∨ wr ∈ ft ks) → (H pa = none ∨ pa ∈ ft ks) → FrS (Y.sk :: ft ks) H H' → Q .non H')
theorem ok_emit (T : Txt K mg) (Z : Dct P w K mg T) : FnOk P w K mg base (L2.CX P w) 6 T.a_StreamHandler_emit T.fd_StreamHandler_emit ["self", "record"] (spEmit T) := by
  have G_StreamHandler_line : FnOk P w K mg base (L2.CX P w) 5 _ _ _ (spLine T.C_StreamHandler T.C_LogRecord K) := ok_line T Z
  have G_Store_write : FnOk P w K mg base CX0 4 _ _ _ (spWrite T.C_Store T.C_Written T.C_Clock) := ok_write T
  refine T.F_StreamHandler_emit.okX sc_StreamHandler_emit (fun vs H Q E h => ?_) (fun cdv A outer s H vs Q E hr h => ?_)
  · obtain ⟨x, dx, y, dy, fl, r, dr, g, e, Y, n, l, ln, c, v, m, z, st, ks, b, rfl, _⟩ := h.out
    rfl
  · obtain ⟨x, dx, y, dy, fl, r, dr, g, e, Y, n, l, ln, c, v, m, z, st, ks, b, rfl, hx, hy, hr1, hg, hz, hs, hc, S, b1, b2, hl, k⟩ := h.out
    refine ⟨_, (pss_one (ps_expr (pe_meth (pe_fld (pe_fld (pv 0) rfl) rfl) T.o_Store.cl T.Me_Store_write G_Store_write (hr.mono (by first | decide | omega)) T.b_Store_write .nil pass0 (pa_cons (pe_fld (pv 0) rfl) (pa_cons (pe_meth (pv 0) T.o_StreamHandler.cl T.Me_StreamHandler_line G_StreamHandler_line (hr.mono (by first | decide | omega)) T.b_StreamHandler_line .nil (passes_call (takes_of rfl rfl rfl rfl) (fun _ _ _ _ h => h)) (pa_cons (pv 1) pa_nil)) pa_nil))))), ?_⟩
    walk_at "st"
    refine ⟨x, T.C_StreamHandler, dx, _, .ref y, rfl, hx, T.o_StreamHandler.cl, T.o_StreamHandler.na _ (by decide), rfl, ?_⟩
    refine ⟨y, T.C_Yard, dy, _, .ref Y.ss, rfl, hy, T.o_Yard.cl, T.o_Yard.na _ (by decide), rfl, ?_⟩
    refine ⟨Y.ss, Y.dss, _, rfl, hs, rfl, ?_⟩
    walk_at "st"
    refine ⟨x, T.C_StreamHandler, dx, _, .str (SX.S st), rfl, hx, T.o_StreamHandler.cl, T.o_StreamHandler.na _ (by decide), rfl, ?_⟩
    walk_at "st"
    refine ⟨x, dx, _, rfl, hx, rfl, ?_⟩
    walk_at "st"
    refine .a ⟨x, dx, y, fl, r, dr, g, e, n, l, ln, c, m, z, st, rfl, hx, hr1, hg, hz, ?_⟩
    walk_at "st"
    exact .a ⟨Y.ss, Y.dss, Y.ck, Y.dck, Y.sk, v, st, m ++ z, ks, b, rfl, hs, hc, S, b1, b2, hz, hl, k⟩
end
end My

namespace My
open PySem PySem.Spec PyProof.Rows L2 SuX
local macro_rules | `(tactic| walk_at "hp") => `(tactic| first | assumption | exact upd_same | (refine Eq.trans (upd_ne (by first | assumption | (apply Ne.symm; assumption))) ?_; walk_at "hp"))
local macro_rules | `(tactic| walk_at "ixl") => `(tactic| (refine' ⟨_, ?xs, _, ?vv, rfl, rfl, SqL.of ?hh, ?aa, ?qq⟩; (case hh => walk_at "hp"); (case aa => rfl)))
local macro_rules | `(tactic| walk_at "setl") => `(tactic| (refine' ⟨_, ?xs, _, ?jj, rfl, rfl, ?hh, ?aa, ?qq⟩; (case hh => walk_at "hp"); (case aa => rfl)))
local macro_rules | `(tactic| walk_at "cond") => `(tactic| first | exact ⟨_, rfl⟩ | exact Nat.le_of_lt (small1000 (Nat.le_of_ble_eq_true rfl)) | decide | omega | (dsimp only; omega) | exact ⟨by decide, by decide⟩ | exact Or.inr ⟨by decide, by decide⟩ | exact Or.inl ⟨by decide, by decide⟩ | exact ⟨by decide, by decide, by decide⟩ | exact ⟨by omega, by omega⟩ | exact ⟨by omega, by omega, by omega⟩ | (simp only [List.length_cons, List.length_nil, List.length_append, List.length_take, List.length_drop]; omega) | (refine ⟨?_, ?_, ?_⟩ <;> first | decide | omega | (simp only [List.length_cons, List.length_nil, List.length_append, List.length_take, List.length_drop, Option.getD_some, Option.getD_none]; omega)))
local macro_rules | `(tactic| walk_at "st") => `(tactic| repeat (first | refine ⟨_, rfl, ?_⟩ | refine ⟨_, _, rfl, rfl, ?_⟩ | walk_at "ixl" | walk_at "setl" | refine ⟨rfl, ?_⟩ | refine Or.inl ⟨_, rfl, ?_⟩ | refine And.intro (by walk_at "cond") ?_))
section
variable {P : Program} {w : World} {K : PySem.W.Frag} {mg : Str → Option Value} {base : Heap}
/-- a copy of an empty dict, of an empty tuple -/
def spCopy0 : Sp := fun vs H Q _ => Hd (∃ (a : Addr), vs = [.ref a] ∧ H a = some (.dK []) ∧ ∀ H' b, H b = none → H' b = some (.dK []) → FrS [] H H' → Q (.ref b) H')
theorem ok_copy0 (T : Txt K mg) : FnOk P w K mg base CX0 2 T.f_own_copy T.fd_own_copy ["thing"] spCopy0 := by
  have G_own_copy : FnOk P w K mg base CX0 1 _ _ ["thing"] spNo := ok_no T.D_own_copy.F sc_own_copy
  refine T.D_own_copy.F.ok sc_own_copy (fun vs H Q E h => ?_) (fun cdv A outer s H vs Q E hr h => ?_)
  · obtain ⟨a, rfl, _⟩ := h.out
    rfl
  · obtain ⟨a, rfl, ha, k⟩ := h.out
    have hu := hu_of hr
    refine ⟨_, (pss_cons (ps_if (pt_val (pe_callB call_isi (by rfl) T.B.n_isinstance (by decide +kernel) (pa_cons (pv 0) (pa_cons (pe_bltn (v := .ty "dict") (u := .type "dict") (by rfl) T.B.n_dict (by decide +kernel) rfl) pa_nil))))
    (pss_cons (ps_set (i := 1) sc_own_copy.nd rfl (by first | exact Or.inl rfl | exact Or.inr rfl) pe_dnewK)
  (pss_cons (ps_lock (ps_for PassesOwn.never rfl (pi_keys (pv 0)) (pg_name (i := 2) sc_own_copy.nd rfl (by first | exact Or.inl rfl | exact Or.inr rfl))
    (pss_one (ps_dput hu (pv 1) (pv 2) (pe_call G_own_copy (hr.mono (by first | decide | omega)) rfl T.D_own_copy.g T.D_own_copy.F.kp T.D_own_copy.b .nil pass0 (pa_cons (pe_dget hu (pv 0) (pv 2) (fun _ _ => rfl)) pa_nil)) rfl))))
  (pss_one (ps_ret (pv 1)))))
    pss_nil)
  (pss_cons (ps_if (pt_val (pe_callB call_isiT (by rfl) T.B.n_isinstance (by decide +kernel) (pa_cons (pv 0) (pa_cons (pe_tup (pa_cons (pe_bltn (v := .ty "list") (u := .type "list") (by rfl) T.B.n_list (by decide +kernel) rfl) (pa_cons (pe_bltn (v := .ty "tuple") (u := .type "tuple") (by rfl) T.B.n_tuple (by decide +kernel) rfl) pa_nil))) pa_nil))))
    (pss_cons (ps_set (i := 3) sc_own_copy.nd rfl (by first | exact Or.inl rfl | exact Or.inr rfl) (pe_lst pa_nil))
  (pss_cons (ps_for PassesOwn.never rfl (pi_tup (pv 0)) (pg_name (i := 4) sc_own_copy.nd rfl (by first | exact Or.inl rfl | exact Or.inr rfl))
    (pss_one (ps_expr (pe_bm PySem.F.plainAttrs_list PySem.F.slot_list_append PySem.F.type_list_append mt_append (pv 3) (pa_cons (pe_call G_own_copy (hr.mono (by first | decide | omega)) rfl T.D_own_copy.g T.D_own_copy.F.kp T.D_own_copy.b .nil pass0 (pa_cons (pv 4) pa_nil)) pa_nil)))))
  (pss_one (ps_ret (pe_ifExp (pt_val (pe_callB call_isi (by rfl) T.B.n_isinstance (by decide +kernel) (pa_cons (pv 0) (pa_cons (pe_bltn (v := .ty "list") (u := .type "list") (by rfl) T.B.n_list (by decide +kernel) rfl) pa_nil)))) (pv 3) (pe_callTy call_tuple_of (by rfl) T.B.n_tuple (by decide +kernel) (pa_cons (pv 3) pa_nil)))))))
    pss_nil)
  (pss_one (ps_ret (pv 0))))), ?_⟩
    walk_at "st"
    refine ⟨.ref a, .ty "dict", _, _, true, rfl, .ty "dict", .base (.dK ha), kit_ty (by decide +kernel), ?_⟩
    refine ⟨true, rfl, if_true_of rfl ?_⟩
    walk_at "st"
    intro b hb
    have ab : a ≠ b := ne_of_none ha hb
    walk_at "st"
    refine ⟨a, .dK [], by rw [upd_ne ab]; exact ha, ⟨⟩, fun od => ?_⟩
    walk_at "st"
    refine ⟨a, od, rfl, .inl ⟨[], upd_same, ?_⟩⟩
    refine ⟨fun i m σ H1 => i = 0 ∧ m = 0 ∧ σ = [some (.ref a), some (.ref b), none, none, none] ∧ H1 = upd (upd H b (.dK [])) a (.frz od (.dK [])), ⟨0, rfl, rfl, rfl, rfl⟩, ?_⟩
    rintro i m σ H1 ⟨rfl, rfl, rfl, rfl⟩
    refine .inl ⟨?_, upd_same, ?_⟩
    · exact ⟨upd_same, Nat.le_refl _⟩
    walk_at "st"
    refine k _ b hb ?_ ?_
    · rw [upd_ne ab.symm, upd_ne ab.symm]; exact upd_same
    · intro c u _ e
      have cb : c ≠ b := ne_of_none e hb
      by_cases ca : c = a
      · rw [ca, ha] at e
        rw [ca, ← e]; exact upd_same
      · rw [upd_ne ca, upd_ne ca, upd_ne cb]; exact e
/-- a copy of an empty tuple -/
def spCopyT (K : PySem.W.Frag) : Sp := fun vs H Q _ => Hd (∃ (a : Addr), vs = [.ref a] ∧ (∀ H', FrS [] H H' → SqT K H' a [] ∧ TyX K H' (.ref a) (.type "tuple")) ∧ ∀ H' b, H b = none → H' b = some (.tup []) → FrS [] H H' → Q (.ref b) H')
theorem ok_copyT (T : Txt K mg) : FnOk P w K mg base CX0 2 T.f_own_copy T.fd_own_copy ["thing"] (spCopyT K) := by
  have G_own_copy : FnOk P w K mg base CX0 1 _ _ ["thing"] spNo := ok_no T.D_own_copy.F sc_own_copy
  refine T.D_own_copy.F.ok sc_own_copy (fun vs H Q E h => ?_) (fun cdv A outer s H vs Q E hr h => ?_)
  · obtain ⟨a, rfl, _⟩ := h.out
    rfl
  · obtain ⟨a, rfl, ha, k⟩ := h.out
    have ty := (ha H (FrS.refl _ _)).2
    have hu := hu_of hr
    refine ⟨_, (pss_cons (ps_if (pt_val (pe_callB call_isi (by rfl) T.B.n_isinstance (by decide +kernel) (pa_cons (pv 0) (pa_cons (pe_bltn (v := .ty "dict") (u := .type "dict") (by rfl) T.B.n_dict (by decide +kernel) rfl) pa_nil))))
    (pss_cons (ps_set (i := 1) sc_own_copy.nd rfl (by first | exact Or.inl rfl | exact Or.inr rfl) pe_dnewK)
  (pss_cons (ps_lock (ps_for PassesOwn.never rfl (pi_keys (pv 0)) (pg_name (i := 2) sc_own_copy.nd rfl (by first | exact Or.inl rfl | exact Or.inr rfl))
    (pss_one (ps_dput hu (pv 1) (pv 2) (pe_call G_own_copy (hr.mono (by first | decide | omega)) rfl T.D_own_copy.g T.D_own_copy.F.kp T.D_own_copy.b .nil pass0 (pa_cons (pe_dget hu (pv 0) (pv 2) (fun _ _ => rfl)) pa_nil)) rfl))))
  (pss_one (ps_ret (pv 1)))))
    pss_nil)
  (pss_cons (ps_if (pt_val (pe_callB call_isiT (by rfl) T.B.n_isinstance (by decide +kernel) (pa_cons (pv 0) (pa_cons (pe_tup (pa_cons (pe_bltn (v := .ty "list") (u := .type "list") (by rfl) T.B.n_list (by decide +kernel) rfl) (pa_cons (pe_bltn (v := .ty "tuple") (u := .type "tuple") (by rfl) T.B.n_tuple (by decide +kernel) rfl) pa_nil))) pa_nil))))
    (pss_cons (ps_set (i := 3) sc_own_copy.nd rfl (by first | exact Or.inl rfl | exact Or.inr rfl) (pe_lst pa_nil))
  (pss_cons (ps_for PassesOwn.never rfl (pi_tup (pv 0)) (pg_name (i := 4) sc_own_copy.nd rfl (by first | exact Or.inl rfl | exact Or.inr rfl))
    (pss_one (ps_expr (pe_bm PySem.F.plainAttrs_list PySem.F.slot_list_append PySem.F.type_list_append mt_append (pv 3) (pa_cons (pe_call G_own_copy (hr.mono (by first | decide | omega)) rfl T.D_own_copy.g T.D_own_copy.F.kp T.D_own_copy.b .nil pass0 (pa_cons (pv 4) pa_nil)) pa_nil)))))
  (pss_one (ps_ret (pe_ifExp (pt_val (pe_callB call_isi (by rfl) T.B.n_isinstance (by decide +kernel) (pa_cons (pv 0) (pa_cons (pe_bltn (v := .ty "list") (u := .type "list") (by rfl) T.B.n_list (by decide +kernel) rfl) pa_nil)))) (pv 3) (pe_callTy call_tuple_of (by rfl) T.B.n_tuple (by decide +kernel) (pa_cons (pv 3) pa_nil)))))))
    pss_nil)
  (pss_one (ps_ret (pv 0))))), ?_⟩
    walk_at "st"
    refine ⟨.ref a, .ty "dict", _, _, false, rfl, .ty "dict", ty, kit_ty (by decide +kernel), ?_⟩
    refine ⟨false, rfl, if_false_of rfl ?_⟩
    walk_at "st"
    intro t ht
    have f1 : FrS [] H (upd H t (.tup [.ty "list", .ty "tuple"])) := (FrS.refl _ H).new ht
    refine ⟨.ref a, t, _, .type "tuple", _, true, rfl, upd_same, (.cons (.ty "list") (.cons (.ty "tuple") .nil)), (ha _ f1).2, (kitAny_cons (b := false) (kit_ty (by decide +kernel)) (fun _ => (kitAny_cons (b := true) (kit_ty (by decide +kernel)) (fun h => nomatch h) (fun _ => rfl))) (fun h => nomatch h)), ?_⟩
    refine ⟨true, rfl, if_true_of rfl ?_⟩
    walk_at "st"
    intro r hr0
    have f2 : FrS [] H (upd (upd H t (.tup [.ty "list", .ty "tuple"])) r (.lst [])) := fun c u n e => by rw [upd_ne (neN (f1 c u n e) hr0)]; exact f1 c u n e
    walk_at "st"
    refine ⟨⟨[], (ha _ f2).1⟩, ?_⟩
    refine ⟨fun i m σ H1 => i = 0 ∧ m = 0 ∧ σ = [some (.ref a), none, none, some (.ref r), none] ∧ H1 = upd (upd H t (.tup [.ty "list", .ty "tuple"])) r (.lst []), ⟨0, rfl, rfl, rfl, rfl⟩, ?_⟩
    rintro i m σ H1 ⟨rfl, rfl, rfl, rfl⟩
    refine .inl ⟨⟨[], (ha _ f2).1, Nat.le_refl _⟩, ?_⟩
    walk_at "st"
    refine ⟨.ref a, .ty "list", _, _, false, rfl, .ty "list", (ha _ f2).2, kit_ty (by decide +kernel), ?_⟩
    refine ⟨false, rfl, if_false_of rfl ?_⟩
    walk_at "st"
    refine ⟨r, [], rfl, .inl ⟨SqL.of upd_same, fun b hb => ?_⟩⟩
    have f3 : FrS [] H (upd (upd (upd H t (.tup [.ty "list", .ty "tuple"])) r (.lst [])) b (.tup [])) := fun c u n e => by rw [upd_ne (neN (f2 c u n e) hb)]; exact f2 c u n e
    have hb0 : H b = none := by
      cases e : H b with
      | none => rfl
      | some u => have z := f2 b u (by simp) e; rw [hb] at z; cases z
    exact k _ b hb0 upd_same f3
end
end My

namespace My
open PySem PySem.Spec PyProof.Rows L2 SuX
local macro_rules | `(tactic| walk_at "hp") => `(tactic| first | assumption | exact upd_same | (refine Eq.trans (upd_ne (by first | assumption | (apply Ne.symm; assumption))) ?_; walk_at "hp"))
local macro_rules | `(tactic| walk_at "ixl") => `(tactic| (refine' ⟨_, ?xs, _, ?vv, rfl, rfl, SqL.of ?hh, ?aa, ?qq⟩; (case hh => walk_at "hp"); (case aa => rfl)))
local macro_rules | `(tactic| walk_at "setl") => `(tactic| (refine' ⟨_, ?xs, _, ?jj, rfl, rfl, ?hh, ?aa, ?qq⟩; (case hh => walk_at "hp"); (case aa => rfl)))
local macro_rules | `(tactic| walk_at "cond") => `(tactic| first | exact ⟨_, rfl⟩ | exact Nat.le_of_lt (small1000 (Nat.le_of_ble_eq_true rfl)) | decide | omega | (dsimp only; omega) | exact ⟨by decide, by decide⟩ | exact Or.inr ⟨by decide, by decide⟩ | exact Or.inl ⟨by decide, by decide⟩ | exact ⟨by decide, by decide, by decide⟩ | exact ⟨by omega, by omega⟩ | exact ⟨by omega, by omega, by omega⟩ | (simp only [List.length_cons, List.length_nil, List.length_append, List.length_take, List.length_drop]; omega) | (refine ⟨?_, ?_, ?_⟩ <;> first | decide | omega | (simp only [List.length_cons, List.length_nil, List.length_append, List.length_take, List.length_drop, Option.getD_some, Option.getD_none]; omega)))
local macro_rules | `(tactic| walk_at "st") => `(tactic| repeat (first | refine ⟨_, rfl, ?_⟩ | refine ⟨_, _, rfl, rfl, ?_⟩ | walk_at "ixl" | walk_at "setl" | refine ⟨rfl, ?_⟩ | refine Or.inl ⟨_, rfl, ?_⟩ | refine And.intro (by walk_at "cond") ?_))
/-- two promises of one def -/
theorem FnOk.or {P : Program} {w : World} {K : PySem.W.Frag} {mg : Str → Option Value} {base : Heap} {CX : CXT} {k : Nat} {f : Addr} {fd : FuncData} {ps : List Str} {s1 s2 : Sp} (a : FnOk P w K mg base CX k f fd ps s1) (b : FnOk P w K mg base CX k f fd ps s2) :
    FnOk P w K mg base CX k f fd ps (fun vs H Q E => s1 vs H Q E ∨ s2 vs H Q E) :=
  ⟨fun vs H Q E h => h.elim (a.len vs H Q E) (b.len vs H Q E), fun A outer s H args us vs Q E hr he hb hv h => h.elim (a.run A outer s H args us vs Q E hr he hb hv) (b.run A outer s H args us vs Q E hr he hb hv)⟩
section
variable {P : Program} {w : World} {K : PySem.W.Frag} {mg : Str → Option Value} {base : Heap}
/-- a record without args and further values -/
def spRec (C : Addr) (K : PySem.W.Frag) : Sp := fun vs H Q _ => Hd (∃ (x dx g0 e0 : Addr) (n l ln c : V) (m : List Nat), vs = [.ref x, n, l, ln, .str (SX.S m), .ref g0, c, .ref e0] ∧ H x = some (.ins C dx []) ∧ (∀ H', FrS [x] H H' → SqT K H' g0 [] ∧ TyX K H' (.ref g0) (.type "tuple")) ∧ H e0 = some (.dK []) ∧
  ∀ H' g e, H' x = some (.ins C dx (fLr n l ln m g c e)) → H' g = some (.tup []) → H' e = some (.dK []) → H g = none → H e = none → FrS [x] H H' → Q .non H')
theorem ok_rec (T : Txt K mg) : FnOk P w K mg base CX0 3 T.a_LogRecord_init T.fd_LogRecord_init ["self", "name", "levelno", "levelname", "msg", "given", "created", "extra"] (spRec T.C_LogRecord K) := by
  have G_own_copy : FnOk P w K mg base CX0 2 _ _ ["thing"] (fun vs H Q E => spCopyT K vs H Q E ∨ spCopy0 vs H Q E) := FnOk.or (ok_copyT T) (ok_copy0 T)
  refine T.F_LogRecord_init.ok sc_LogRecord___init__ (fun vs H Q E h => ?_) (fun cdv A outer s H vs Q E hr h => ?_)
  · obtain ⟨x, dx, g0, e0, n, l, ln, c, m, rfl, _⟩ := h.out
    rfl
  · obtain ⟨x, dx, g0, e0, n, l, ln, c, m, rfl, hx, hg, he, k⟩ := h.out
    refine ⟨_, (pss_cons (ps_fld (pv 0) (pv 1) rfl)
  (pss_cons (ps_fld (pv 0) (pv 2) rfl)
  (pss_cons (ps_fld (pv 0) (pv 3) rfl)
  (pss_cons (ps_fld (pv 0) (pv 4) rfl)
  (pss_cons (ps_fld (pv 0) (pe_call G_own_copy (hr.mono (by first | decide | omega)) rfl T.D_own_copy.g T.D_own_copy.F.kp T.D_own_copy.b .nil pass0 (pa_cons (pe_callTy call_tuple_of (by rfl) T.B.n_tuple (by decide +kernel) (pa_cons (pv 5) pa_nil)) pa_nil)) rfl)
  (pss_cons (ps_fld (pv 0) (pv 6) rfl)
  (pss_one (ps_fld (pv 0) (pe_call G_own_copy (hr.mono (by first | decide | omega)) rfl T.D_own_copy.g T.D_own_copy.F.kp T.D_own_copy.b .nil pass0 (pa_cons (pv 7) pa_nil)) rfl)))))))), ?_⟩
    walk_at "st"
    refine ⟨x, T.C_LogRecord, dx, _, rfl, hx, T.o_LogRecord.cl, T.o_LogRecord.na _ (by decide), Nat.le_of_ble_eq_true rfl, ?_⟩
    walk_at "st"
    refine ⟨x, T.C_LogRecord, dx, _, rfl, upd_same, T.o_LogRecord.cl, T.o_LogRecord.na _ (by decide), Nat.le_of_ble_eq_true rfl, ?_⟩
    walk_at "st"
    refine ⟨x, T.C_LogRecord, dx, _, rfl, upd_same, T.o_LogRecord.cl, T.o_LogRecord.na _ (by decide), Nat.le_of_ble_eq_true rfl, ?_⟩
    walk_at "st"
    refine ⟨x, T.C_LogRecord, dx, _, rfl, upd_same, T.o_LogRecord.cl, T.o_LogRecord.na _ (by decide), Nat.le_of_ble_eq_true rfl, ?_⟩
    have f4 : FrS [x] H (upd (upd (upd (upd H x (.ins T.C_LogRecord dx (putF "name" n []))) x (.ins T.C_LogRecord dx (putF "levelno" l (putF "name" n [])))) x (.ins T.C_LogRecord dx (putF "levelname" ln (putF "levelno" l (putF "name" n []))))) x (.ins T.C_LogRecord dx (putF "msg" (.str (SX.S m)) (putF "levelname" ln (putF "levelno" l (putF "name" n [])))))) :=
      ((((FrS.refl _ H).put (by simp)).put (by simp)).put (by simp)).put (by simp)
    have x4 : (upd (upd (upd (upd H x (.ins T.C_LogRecord dx (putF "name" n []))) x (.ins T.C_LogRecord dx (putF "levelno" l (putF "name" n [])))) x (.ins T.C_LogRecord dx (putF "levelname" ln (putF "levelno" l (putF "name" n []))))) x (.ins T.C_LogRecord dx (putF "msg" (.str (SX.S m)) (putF "levelname" ln (putF "levelno" l (putF "name" n [])))))) x = some (.ins T.C_LogRecord dx (putF "msg" (.str (SX.S m)) (putF "levelname" ln (putF "levelno" l (putF "name" n []))))) := upd_same
    generalize upd (upd (upd (upd H x (.ins T.C_LogRecord dx (putF "name" n []))) x (.ins T.C_LogRecord dx (putF "levelno" l (putF "name" n [])))) x (.ins T.C_LogRecord dx (putF "levelname" ln (putF "levelno" l (putF "name" n []))))) x (.ins T.C_LogRecord dx (putF "msg" (.str (SX.S m)) (putF "levelname" ln (putF "levelno" l (putF "name" n []))))) = H4 at f4 x4 ⊢
    have none4 : ∀ b, H4 b = none → H b = none := fun b hb => by
      cases e : H b with
      | none => rfl
      | some u =>
        have bx : b ≠ x := fun z => by rw [z, x4] at hb; cases hb
        have z := f4 b u (by simp [bx]) e
        rw [hb] at z; cases z
    walk_at "st"
    refine ⟨g0, [], rfl, .inr ⟨(hg _ f4).1, ?_⟩⟩
    walk_at "st"
    refine .inl (.a ⟨g0, rfl, fun H' q => hg H' (f4.trans (q.mono fun b hb => absurd hb List.not_mem_nil)), fun H5 g gn hg5 f5 => ?_⟩)
    have x5 := f5 x _ (by simp) x4
    have gx : g ≠ x := (neN x4 gn).symm
    walk_at "st"
    refine ⟨x, T.C_LogRecord, dx, _, rfl, x5, T.o_LogRecord.cl, T.o_LogRecord.na _ (by decide), Nat.le_of_ble_eq_true rfl, ?_⟩
    walk_at "st"
    refine ⟨x, T.C_LogRecord, dx, _, rfl, upd_same, T.o_LogRecord.cl, T.o_LogRecord.na _ (by decide), Nat.le_of_ble_eq_true rfl, ?_⟩
    walk_at "st"
    have ex : e0 ≠ x := fun z => by rw [z, hx] at he; cases he
    have he5 := f5 e0 _ (by simp) (f4 e0 _ (by simp [ex]) he)
    refine .inr (.a ⟨e0, rfl, by rw [upd_ne ex, upd_ne ex]; exact he5, fun H6 e en he6 f6 => ?_⟩)
    have x6 := f6 x _ (by simp) upd_same
    have e5 : e ≠ x := fun z => by rw [z, upd_same] at en; cases en
    have en5 : H5 e = none := by rw [upd_ne e5, upd_ne e5] at en; exact en
    have en4 : H4 e = none := by
      cases q : H4 e with
      | none => rfl
      | some u => have z := f5 e u (by simp) q; rw [en5] at z; cases z
    have f46 : FrS [x] H H6 := fun c u n q => f6 c u (by simp) (by
      have cx : c ≠ x := fun z => n (by rw [z]; exact List.mem_singleton.mpr rfl)
      rw [upd_ne cx, upd_ne cx]; exact f5 c u (by simp) (f4 c u n q))
    have g6 := f6 g _ (by simp) (by rw [upd_ne gx, upd_ne gx]; exact hg5)
    walk_at "st"
    refine ⟨x, T.C_LogRecord, dx, _, rfl, x6, T.o_LogRecord.cl, T.o_LogRecord.na _ (by decide), Nat.le_of_ble_eq_true rfl, ?_⟩
    exact k _ g e upd_same (by rw [upd_ne gx]; exact g6) (by rw [upd_ne e5]; exact he6) (none4 g gn) (none4 e en4) (f46.put (by simp))
end
end My

namespace My
open PySem PySem.Spec PyProof.Rows L2 SuX
local macro_rules | `(tactic| walk_at "hp") => `(tactic| first | assumption | exact upd_same | (refine Eq.trans (upd_ne (by first | assumption | (apply Ne.symm; assumption))) ?_; walk_at "hp"))
local macro_rules | `(tactic| walk_at "ixl") => `(tactic| (refine' ⟨_, ?xs, _, ?vv, rfl, rfl, SqL.of ?hh, ?aa, ?qq⟩; (case hh => walk_at "hp"); (case aa => rfl)))
local macro_rules | `(tactic| walk_at "setl") => `(tactic| (refine' ⟨_, ?xs, _, ?jj, rfl, rfl, ?hh, ?aa, ?qq⟩; (case hh => walk_at "hp"); (case aa => rfl)))
local macro_rules | `(tactic| walk_at "cond") => `(tactic| first | exact ⟨_, rfl⟩ | exact Nat.le_of_lt (small1000 (Nat.le_of_ble_eq_true rfl)) | decide | omega | (dsimp only; omega) | exact ⟨by decide, by decide⟩ | exact Or.inr ⟨by decide, by decide⟩ | exact Or.inl ⟨by decide, by decide⟩ | exact ⟨by decide, by decide, by decide⟩ | exact ⟨by omega, by omega⟩ | exact ⟨by omega, by omega, by omega⟩ | (simp only [List.length_cons, List.length_nil, List.length_append, List.length_take, List.length_drop]; omega) | (refine ⟨?_, ?_, ?_⟩ <;> first | decide | omega | (simp only [List.length_cons, List.length_nil, List.length_append, List.length_take, List.length_drop, Option.getD_some, Option.getD_none]; omega)))
local macro_rules | `(tactic| walk_at "st") => `(tactic| repeat (first | refine ⟨_, rfl, ?_⟩ | refine ⟨_, _, rfl, rfl, ?_⟩ | walk_at "ixl" | walk_at "setl" | refine ⟨rfl, ?_⟩ | refine Or.inl ⟨_, rfl, ?_⟩ | refine And.intro (by walk_at "cond") ?_))
theorem for_tupK {K : PySem.W.Frag} {a : Addr} {xs : List V} {g : TG} {tb : TS} {D : Ends} {σ : L2.St} {H : Hp} (W : Nat → L2.St → Hp → Prop) (hst : ∀ (_ : L2.St) H, SqT K H a xs) (h0 : W 0 σ H) (hend : ∀ σ H, W xs.length σ H → D.nx σ H)
    (hs : ∀ (R : L2.St → Hp → Prop) (i : Nat) σ H x, W i σ H → xs[i]? = some x → ∀ N : L2.St → Hp → Prop, N = (fun σ' H' => Hd (W (i + 1) σ' H')) → g x σ H fun σ2 H2 => tb { D with nx := N, ct := N, bk := D.nx } σ2 H2) :
    ∃ W : Nat → Nat → L2.St → Hp → Prop, (∃ m, W 0 m σ H) ∧ ∀ i m σ H, W i m σ H →
      ((Itt K a).stop i H ∧ D.nx σ H) ∨ ((Itt K a).go i H ∧ ∃ N : L2.St → Hp → Prop, (∀ σ' H', N σ' H' → ∃ m', m' < m ∧ W (i + 1) m' σ' H') ∧ ∀ x H', (Itt K a).yld i H x H' → g x σ H' fun σ2 H2 => tb { D with nx := N, ct := N, bk := D.nx } σ2 H2) := by
  refine ⟨fun i m σ H => W i σ H ∧ m = xs.length - i ∧ i ≤ xs.length, ⟨_, h0, rfl, Nat.zero_le _⟩, ?_⟩
  rintro i m σ H ⟨hw, rfl, hi⟩
  have hl := hst σ H
  by_cases hlt : i < xs.length
  · refine .inr ⟨⟨xs, xs[i], hl, List.getElem?_eq_getElem hlt⟩, fun σ' H' => Hd (W (i + 1) σ' H'), fun σ' H' z => ⟨xs.length - (i + 1), by omega, z.out, rfl, by omega⟩, ?_⟩
    rintro x H' ⟨rfl, hx⟩
    exact hs D.nx i σ H' x hw (hx xs hl) _ rfl
  · have e : i = xs.length := by omega
    subst e
    exact .inl ⟨⟨xs, hl, Nat.le_refl _⟩, hend σ H hw⟩
section
variable {P : Program} {w : World} {K : PySem.W.Frag} {mg : Str → Option Value} {base : Heap}
/-- a record without args and further values, by a level's number that has a name -/
def spMade (T : Txt K mg) : Sp := fun vs H Q _ => Hd (∃ (lv dlv a b g0 : Addr) (c n : V) (i : Int) (ln m : List Nat) (kvs : List (Key × V)), vs = [.ref lv, c, n, .int i, .str (SX.S m), .ref g0, .non] ∧ H lv = some (.ins T.C_LevelTable dlv (fLv a b)) ∧ H a = some (.dK kvs) ∧ i.natAbs.log2 < 1920 ∧
  (Str.empty ++ SX.S [76, 101, 118, 101, 108, 32] ++ Str.ofString (toString i)).length ≤ sizeLine ∧ valV kvs (Sum.inl i) = some (.str (SX.S ln)) ∧ (∀ H', FrS [] H H' → SqT K H' g0 [] ∧ TyX K H' (.ref g0) (.type "tuple")) ∧
  ∀ H' r dr g e, H' r = some (.ins T.C_LogRecord dr (fLr n (.int i) (.str (SX.S ln)) m g c e)) → H' g = some (.tup []) → H r = none → FrS [] H H' → Q (.ref r) H')
theorem ok_made (T : Txt K mg) : FnOk P w K mg base (L2.CX P w) 5 T.f_made_record T.fd_made_record ["levels", "created", "name", "level", "msg", "args", "extra"] (spMade T) := by
  have G_LevelTable_number : FnOk P w K mg base (L2.CX P w) 3 _ _ _ (spNumber T.C_LevelTable) := ok_number T
  have G_LevelTable_level_name : FnOk P w K mg base CX0 1 _ _ _ (spLevelName T.C_LevelTable) := ok_levelname T
  have G_LogRecord : FnOk P w K mg base CX0 3 _ _ _ (spRec T.C_LogRecord K) := ok_rec T
  refine T.D_made_record.F.ok sc_made_record (fun vs H Q E h => ?_) (fun cdv A outer s H vs Q E hr h => ?_)
  · obtain ⟨lv, dlv, a, b, g0, c, n, i, ln, m, kvs, rfl, _⟩ := h.out
    rfl
  · obtain ⟨lv, dlv, a, b, g0, c, n, i, ln, m, kvs, rfl, hl, ha, hi, hj, hv, hg, k⟩ := h.out
    have hu := hu_of hr
    refine ⟨_, (pss_cons (ps_set (i := 7) sc_made_record.nd rfl (by first | exact Or.inl rfl | exact Or.inr rfl) (pe_meth (pv 0) T.o_LevelTable.cl T.Me_LevelTable_number G_LevelTable_number (hr.mono (by first | decide | omega)) T.b_LevelTable_number .nil (passes_call (takes_of rfl rfl rfl rfl) (fun _ _ _ _ h => h)) (pa_cons (pv 3) pa_nil)))
  (pss_cons (ps_set (i := 8) sc_made_record.nd rfl (by first | exact Or.inl rfl | exact Or.inr rfl) (pe_ifExp (pt_cmpR op_isN (pv 6) pe_non (nomark _)) pe_dnewK (pv 6)))
  (pss_cons (ps_for (passes_of rfl) rfl (pi_tup (C8.pe_gc rfl T.k_KEPT_NAMES)) (pg_name (i := 9) sc_made_record.nd rfl (by first | exact Or.inl rfl | exact Or.inr rfl))
    (pss_one (ps_if (pt_cmp (pc_din hu (pv 9) (pv 8)))
    (pss_one (ps_raise rfl (takes_of rfl rfl rfl rfl) (pmk_err T.E_BadExtra hr (pa_cons (pv 9) pa_nil) rfl)))
    pss_nil)))
  (pss_one (ps_ret (pe_make T.M_LogRecord G_LogRecord (hr.mono (by first | decide | omega)) rfl T.g_LogRecord T.b_LogRecord_init .nil pass0 (pa_cons (pv 2) (pa_cons (pv 7) (pa_cons (pe_meth (pv 0) T.o_LevelTable.cl T.Me_LevelTable_level_name G_LevelTable_level_name (hr.mono (by first | decide | omega)) T.b_LevelTable_level_name .nil pass0 (pa_cons (pv 7) pa_nil)) (pa_cons (pv 4) (pa_cons (pv 5) (pa_cons (pv 1) (pa_cons (pv 8) pa_nil))))))))))))), ?_⟩
    walk_at "st"
    refine ⟨lv, dlv, _, rfl, hl, rfl, ?_⟩
    walk_at "st"
    refine .a ⟨lv, dlv, i, _, rfl, hl, rfl, ?_⟩
    walk_at "st"
    intro d hd
    walk_at "st"
    have fd0 : FrS [] H (upd H d (.dK [])) := (FrS.refl _ H).new hd
    have ld : lv ≠ d := neN hl hd
    have ad : a ≠ d := neN ha hd
    refine ⟨⟨_, T.t_KEPT_NAMES _⟩, ?_⟩
    refine for_tupK (xs := keptNames.map fun l => V.str (SX.S l)) (fun j σ H1 => H1 = upd H d (.dK []) ∧ ∃ y, σ = [some (.ref lv), some c, some n, some (.int i), some (.str (SX.S m)), some (.ref g0), some .non, some (.int i), some (.ref d), y]) (fun _ H1 => T.t_KEPT_NAMES H1) ⟨rfl, none, rfl⟩ ?_ ?_
    · rintro σ H1 ⟨rfl, y, rfl⟩
      walk_at "st"
      refine ⟨lv, dlv, _, rfl, by rw [upd_ne ld]; exact hl, rfl, ?_⟩
      walk_at "st"
      refine .a ⟨lv, dlv, a, b, i, ln, kvs, rfl, by rw [upd_ne ld]; exact hl, by rw [upd_ne ad]; exact ha, hi, hj, hv, ?_⟩
      walk_at "st"
      intro r dr r0 d0 dn
      have r00 : H r = none := by
        cases q : H r with
        | none => rfl
        | some u => have z := fd0 r u (by simp) q; rw [r0] at z; cases z
      have old : ∀ b u, upd H d (.dK []) b = some u → mkH (upd H d (.dK [])) T.C_LogRecord r dr b = some u := fun b u e => mkH_old r0 d0 e
      have f1 : FrS [] H (mkH (upd H d (.dK [])) T.C_LogRecord r dr) := fun c u n e => old c u (fd0 c u n e)
      refine .a ⟨r, dr, g0, d, n, .int i, .str (SX.S ln), c, m, rfl, upd_same, fun H' q => hg H' fun b u n e => q b u (by simp; exact neN e r00) (f1 b u n e), old _ _ upd_same, fun H' g e h1 h2 h3 h4 h5 fr => ?_⟩
      walk_at "st"
      exact k H' r dr g e h1 h2 r00 fun b u n e => fr b u (by simp; exact neN e r00) (f1 b u n e)
    · rintro R j σ H1 x ⟨rfl, y, rfl⟩ hx N hN
      obtain ⟨l, hl', rfl⟩ : ∃ l, keptNames[j]? = some l ∧ V.str (SX.S l) = x := by
        rw [List.getElem?_map] at hx
        cases q : keptNames[j]? with
        | none => rw [q] at hx; cases hx
        | some l => rw [q] at hx; exact ⟨l, rfl, Option.some.inj hx⟩
      walk_at "st"
      refine ⟨d, none, rfl, DGet.k (k := Sum.inr (SX.S l)) upd_same, ?_⟩
      refine ⟨false, rfl, if_false_of rfl ?_⟩
      rw [hN]
      exact .a ⟨rfl, _, rfl⟩
end
end My

namespace My
open PySem PySem.Spec PyProof.Rows L2 SuX
local macro_rules | `(tactic| walk_at "hp") => `(tactic| first | assumption | exact upd_same | (refine Eq.trans (upd_ne (by first | assumption | (apply Ne.symm; assumption))) ?_; walk_at "hp"))
local macro_rules | `(tactic| walk_at "ixl") => `(tactic| (refine' ⟨_, ?xs, _, ?vv, rfl, rfl, SqL.of ?hh, ?aa, ?qq⟩; (case hh => walk_at "hp"); (case aa => rfl)))
local macro_rules | `(tactic| walk_at "setl") => `(tactic| (refine' ⟨_, ?xs, _, ?jj, rfl, rfl, ?hh, ?aa, ?qq⟩; (case hh => walk_at "hp"); (case aa => rfl)))
local macro_rules | `(tactic| walk_at "cond") => `(tactic| first | exact ⟨_, rfl⟩ | exact Nat.le_of_lt (small1000 (Nat.le_of_ble_eq_true rfl)) | decide | omega | (dsimp only; omega) | exact ⟨by decide, by decide⟩ | exact Or.inr ⟨by decide, by decide⟩ | exact Or.inl ⟨by decide, by decide⟩ | exact ⟨by decide, by decide, by decide⟩ | exact ⟨by omega, by omega⟩ | exact ⟨by omega, by omega, by omega⟩ | (simp only [List.length_cons, List.length_nil, List.length_append, List.length_take, List.length_drop]; omega) | (refine ⟨?_, ?_, ?_⟩ <;> first | decide | omega | (simp only [List.length_cons, List.length_nil, List.length_append, List.length_take, List.length_drop, Option.getD_some, Option.getD_none]; omega)))
local macro_rules | `(tactic| walk_at "st") => `(tactic| repeat (first | refine ⟨_, rfl, ?_⟩ | refine ⟨_, _, rfl, rfl, ?_⟩ | walk_at "ixl" | walk_at "setl" | refine ⟨rfl, ?_⟩ | refine Or.inl ⟨_, rfl, ?_⟩ | refine And.intro (by walk_at "cond") ?_))
section
variable {P : Program} {w : World} {K : PySem.W.Frag} {mg : Str → Option Value} {base : Heap}
def spYMade (T : Txt K mg) : Sp := fun vs H Q _ => Hd (∃ (y dy g0 : Addr) (Y : YA) (c n : V) (i : Int) (ln m : List Nat) (kvs : List (Key × V)), vs = [.ref y, n, .int i, .str (SX.S m), .ref g0, .non] ∧ H y = some (.ins T.C_Yard dy (fYd Y)) ∧ H Y.ck = some (.ins T.C_Clock Y.dck [("shown", c)]) ∧ H Y.lv = some (.ins T.C_LevelTable Y.dlv (fLv Y.n1 Y.n2)) ∧ H Y.n1 = some (.dK kvs) ∧ i.natAbs.log2 < 1920 ∧
  (Str.empty ++ SX.S [76, 101, 118, 101, 108, 32] ++ Str.ofString (toString i)).length ≤ sizeLine ∧ valV kvs (Sum.inl i) = some (.str (SX.S ln)) ∧ (∀ H', FrS [] H H' → SqT K H' g0 [] ∧ TyX K H' (.ref g0) (.type "tuple")) ∧
  ∀ H' r dr g e, H' r = some (.ins T.C_LogRecord dr (fLr n (.int i) (.str (SX.S ln)) m g c e)) → H' g = some (.tup []) → H r = none → FrS [] H H' → Q (.ref r) H')
theorem ok_ymade (T : Txt K mg) : FnOk P w K mg base (L2.CX P w) 6 T.a_Yard_make_record T.fd_Yard_make_record ["self", "name", "level", "msg", "args", "extra"] (spYMade T) := by
  have G_Clock_now : FnOk P w K mg base CX0 1 _ _ _ (spNow T.C_Clock) := ok_now T
  have G_made_record : FnOk P w K mg base (L2.CX P w) 5 _ _ _ (spMade T) := ok_made T
  refine T.F_Yard_make_record.ok sc_Yard_make_record (fun vs H Q E h => ?_) (fun cdv A outer s H vs Q E hr h => ?_)
  · obtain ⟨y, dy, g0, Y, c, n, i, ln, m, kvs, rfl, _⟩ := h.out
    rfl
  · obtain ⟨y, dy, g0, Y, c, n, i, ln, m, kvs, rfl, hy, hc, hl, ha, hi, hj, hv, hg, k⟩ := h.out
    refine ⟨_, (pss_one (ps_ret (pe_call G_made_record (hr.mono (by first | decide | omega)) rfl T.D_made_record.g T.D_made_record.F.kp T.D_made_record.b .nil (passes_call (takes_of rfl rfl rfl rfl) (fun _ _ _ _ h => h)) (pa_cons (pe_fld (pv 0) rfl) (pa_cons (pe_meth0 (pe_fld (pv 0) rfl) T.o_Clock.cl T.Me_Clock_now G_Clock_now (hr.mono (by first | decide | omega)) T.b_Clock_now .nil pass0) (pa_cons (pv 1) (pa_cons (pv 2) (pa_cons (pv 3) (pa_cons (pv 4) (pa_cons (pv 5) pa_nil)))))))))), ?_⟩
    walk_at "st"
    refine ⟨y, T.C_Yard, dy, _, .ref Y.lv, rfl, hy, T.o_Yard.cl, T.o_Yard.na _ (by decide), rfl, ?_⟩
    walk_at "st"
    refine ⟨y, T.C_Yard, dy, _, .ref Y.ck, rfl, hy, T.o_Yard.cl, T.o_Yard.na _ (by decide), rfl, ?_⟩
    refine ⟨Y.ck, Y.dck, _, rfl, hc, rfl, ?_⟩
    walk_at "st"
    refine .a ⟨Y.ck, Y.dck, c, rfl, hc, ?_⟩
    walk_at "st"
    exact .a ⟨Y.lv, Y.dlv, Y.n1, Y.n2, g0, c, n, i, ln, m, kvs, rfl, hl, ha, hi, hj, hv, hg, k⟩
end
end My

namespace My
open PySem PySem.Spec PyProof.Rows L2 SuX
theorem na_of {K : PySem.W.Frag} {C : Addr} {fs : List Str} {f : Str} (o : OC K C fs) (h : f ∈ fs) : NoAttr K C f := o.na f h
local macro_rules | `(tactic| walk_at "hp") => `(tactic| first | assumption | exact upd_same | (refine Eq.trans (upd_ne (by first | assumption | (apply Ne.symm; assumption))) ?_; walk_at "hp"))
local macro_rules | `(tactic| walk_at "ixl") => `(tactic| (refine' ⟨_, ?xs, _, ?vv, rfl, rfl, SqL.of ?hh, ?aa, ?qq⟩; (case hh => walk_at "hp"); (case aa => rfl)))
local macro_rules | `(tactic| walk_at "setl") => `(tactic| (refine' ⟨_, ?xs, _, ?jj, rfl, rfl, ?hh, ?aa, ?qq⟩; (case hh => walk_at "hp"); (case aa => rfl)))
local macro_rules | `(tactic| walk_at "cond") => `(tactic| first | exact ⟨_, rfl⟩ | exact Nat.le_of_lt (small1000 (Nat.le_of_ble_eq_true rfl)) | decide | omega | (dsimp only; omega) | exact ⟨by decide, by decide⟩ | exact Or.inr ⟨by decide, by decide⟩ | exact Or.inl ⟨by decide, by decide⟩ | exact ⟨by decide, by decide, by decide⟩ | exact ⟨by omega, by omega⟩ | exact ⟨by omega, by omega, by omega⟩ | (simp only [List.length_cons, List.length_nil, List.length_append, List.length_take, List.length_drop]; omega) | (refine ⟨?_, ?_, ?_⟩ <;> first | decide | omega | (simp only [List.length_cons, List.length_nil, List.length_append, List.length_take, List.length_drop, Option.getD_some, Option.getD_none]; omega)))
local macro_rules | `(tactic| walk_at "st") => `(tactic| repeat (first | refine ⟨_, rfl, ?_⟩ | refine ⟨_, _, rfl, rfl, ?_⟩ | walk_at "ixl" | walk_at "setl" | refine ⟨rfl, ?_⟩ | refine Or.inl ⟨_, rfl, ?_⟩ | refine And.intro (by walk_at "cond") ?_))
local macro_rules | `(tactic| walk_at "cls") => `(tactic| first | exact OC.cl (by assumption) | exact (‹Txt _ _›).o_Clock.cl | exact (‹Txt _ _›).o_LevelTable.cl | exact (‹Txt _ _›).o_Store.cl | exact (‹Txt _ _›).o_Written.cl | exact (‹Txt _ _›).o_Roster.cl | exact (‹Txt _ _›).o_Handler.cl | exact (‹Txt _ _›).o_Logger.cl | exact (‹Txt _ _›).o_LoggerTree.cl | exact (‹Txt _ _›).o_StreamHandler.cl | exact (‹Txt _ _›).o_FileHandler.cl | exact (‹Txt _ _›).o_LogRecord.cl | exact (‹Txt _ _›).o_Yard.cl)
local macro_rules | `(tactic| walk_at "na") => `(tactic| first | (refine na_of (by assumption) ?_; decide) | (refine na_of (‹Txt _ _›).o_Clock ?_; decide) | (refine na_of (‹Txt _ _›).o_LevelTable ?_; decide) | (refine na_of (‹Txt _ _›).o_Store ?_; decide) | (refine na_of (‹Txt _ _›).o_Written ?_; decide) | (refine na_of (‹Txt _ _›).o_Roster ?_; decide) | (refine na_of (‹Txt _ _›).o_Handler ?_; decide) | (refine na_of (‹Txt _ _›).o_Logger ?_; decide) | (refine na_of (‹Txt _ _›).o_LoggerTree ?_; decide) | (refine na_of (‹Txt _ _›).o_StreamHandler ?_; decide) | (refine na_of (‹Txt _ _›).o_FileHandler ?_; decide) | (refine na_of (‹Txt _ _›).o_LogRecord ?_; decide) | (refine na_of (‹Txt _ _›).o_Yard ?_; decide))
local macro_rules | `(tactic| walk_at "fld") => `(tactic| (refine' ⟨_, _, _, _, ?vv, rfl, ?hh, ?cc, ?nn, ?ll, ?qq⟩; (case hh => walk_at "hp"); (case cc => walk_at "cls"); (case nn => walk_at "na"); (case ll => exact rfl)))
local macro_rules | `(tactic| walk_at "sto") => `(tactic| (refine' ⟨_, _, _, _, rfl, ?hh, ?cc, ?nn, ?ll, ?qq⟩; (case hh => walk_at "hp"); (case cc => walk_at "cls"); (case nn => walk_at "na"); (case ll => first | exact Nat.le_of_ble_eq_true rfl | assumption)))
local macro_rules | `(tactic| walk_at "mth") => `(tactic| (refine' ⟨_, _, _, rfl, ?hh, ?ll, ?qq⟩; (case hh => walk_at "hp"); (case ll => exact rfl)))
local macro_rules | `(tactic| walk_at "sx") => `(tactic| repeat (first | refine ⟨_, rfl, ?_⟩ | refine ⟨_, _, rfl, rfl, ?_⟩ | walk_at "ixl" | walk_at "setl" | refine ⟨rfl, ?_⟩ | refine Or.inl ⟨_, rfl, ?_⟩ | walk_at "fld" | walk_at "sto" | walk_at "mth" | refine And.intro (by walk_at "cond") ?_))
section
variable {P : Program} {w : World} {K : PySem.W.Frag} {mg : Str → Option Value} {base : Heap}
/-! ### lengths, names, contents -/
def spLen (CS CW : Addr) : Sp := fun vs H Q _ => Hd (∃ (x dx ck kp : Addr) (k : List Nat) (m : SMap) (n : Nat), vs = [.ref x, .str (SX.S k)] ∧ H x = some (.ins CS dx (fSt ck kp)) ∧ StAt CW H kp m n ∧ Q (.int ((oldT m k).length : Int)) H)
theorem ok_len (T : Txt K mg) : FnOk P w K mg base CX0 1 T.a_Store_length T.fd_Store_length ["self", "name"] (spLen T.C_Store T.C_Written) := by
  refine T.F_Store_length.ok sc_Store_length (fun vs H Q E h => ?_) (fun cdv A outer s H vs Q E hr h => ?_)
  · obtain ⟨x, dx, ck, kp, k, m, n, rfl, _⟩ := h.out
    rfl
  · obtain ⟨x, dx, ck, kp, k, m, n, rfl, hx, S, kQ⟩ := h.out
    have hu := hu_of hr
    refine ⟨_, (pss_one (ps_ret (pe_ifExp (pt_cmp (pc_din hu (pv 1) (pe_fld (pv 0) rfl))) (pe_fld (pe_dget hu (pe_fld (pv 0) rfl) (pv 1) (fun _ _ => rfl)) rfl) pe_int))), ?_⟩
    walk_at "sx"
    refine ⟨kp, _, rfl, DGet.k (k := Sum.inr (SX.S k)) S.hk, ?_⟩
    rw [valV_kvS]
    cases e : getM m k with
    | none =>
      have eo : oldT m k = [] := by unfold oldT; rw [e]
      rw [eo] at kQ
      refine ⟨false, rfl, if_false_of rfl ?_⟩
      walk_at "sx"
      exact kQ
    | some y =>
      have eo : oldT m k = y.l := by unfold oldT; rw [e]
      rw [eo] at kQ
      have hm := getM_mem e
      obtain ⟨dw, tw, ts, hw1, hw2, _, _⟩ := (S.hw _ hm).ex
      refine ⟨true, rfl, if_true_of rfl ?_⟩
      walk_at "sx"
      refine ⟨kp, .ref y.wr, rfl, by have g := DGet.k (k := Sum.inr (SX.S k)) S.hk; rw [valV_kvS, e] at g; exact g, ?_⟩
      walk_at "sx"
      exact kQ
def spNames (CS : Addr) : Sp := fun vs H Q _ => Hd (∃ (x dx ck kp : Addr) (m : SMap), vs = [.ref x] ∧ H x = some (.ins CS dx (fSt ck kp)) ∧ H kp = some (.dK (kvS m)) ∧ m.length < 64 ∧ ∀ (ls : List (List Nat)) p, ls.Perm (m.map (·.1)) → sortedS (ls.map SX.S) = true → H p = none → Q (.ref p) (upd H p (.lst (txS ls))))
theorem perm_map_inj {α β : Type} [DecidableEq α] [DecidableEq β] {f : α → β} (hf : ∀ a b, f a = f b → a = b) {l r : List α} (h : (l.map f).Perm (r.map f)) : l.Perm r := by
  rw [List.perm_iff_count] at h ⊢
  intro a
  have q : ∀ l : List α, (l.map f).count (f a) = l.count a := fun l => by
    induction l with
    | nil => rfl
    | cons b t ih =>
      rw [List.map_cons, List.count_cons, List.count_cons, ih]
      by_cases e : b = a
      · rw [e]; simp
      · have : f b ≠ f a := fun z => e (hf _ _ z)
        simp [e, this]
  have := h (f a)
  rwa [q, q] at this
theorem perm_S : ∀ {ls : List (List Nat)} {ys : List Str}, ys.Perm (ls.map SX.S) → ∃ ks : List (List Nat), ks.Perm ls ∧ ys = ks.map SX.S := fun {ls ys} h => by
  have q : ∀ y ∈ ys, ∃ k, y = SX.S k := fun y hy => by
    obtain ⟨k, _, e⟩ := List.mem_map.mp (h.mem_iff.mp hy)
    exact ⟨k, e.symm⟩
  obtain ⟨ks, hk⟩ : ∃ ks : List (List Nat), ys = ks.map SX.S := by
    clear h
    induction ys with
    | nil => exact ⟨[], rfl⟩
    | cons y r ih =>
      obtain ⟨k, e⟩ := q y List.mem_cons_self
      obtain ⟨ks, e2⟩ := ih fun z hz => q z (List.mem_cons_of_mem _ hz)
      exact ⟨k :: ks, by rw [e, e2]; rfl⟩
  refine ⟨ks, ?_, hk⟩
  rw [hk] at h
  exact perm_map_inj (fun a b => SX.S_inj) h
theorem ok_names (T : Txt K mg) : FnOk P w K mg base CX0 1 T.a_Store_all_names T.fd_Store_all_names ["self"] (spNames T.C_Store) := by
  refine T.F_Store_all_names.ok sc_Store_all_names (fun vs H Q E h => ?_) (fun cdv A outer s H vs Q E hr h => ?_)
  · obtain ⟨x, dx, ck, kp, m, rfl, _⟩ := h.out
    rfl
  · obtain ⟨x, dx, ck, kp, m, rfl, hx, hk, hz, kQ⟩ := h.out
    have hu := hu_of hr
    refine ⟨_, (pss_one (ps_ret (pe_callB (call_sortedD rfl) (by rfl) T.B.n_sorted (by decide +kernel) (pa_cons (pe_fld (pv 0) rfl) pa_nil)))), ?_⟩
    walk_at "sx"
    refine ⟨kp, kvS m, (m.map (·.1)).map SX.S, rfl, .inl hk, ?_, by simpa using hz, fun ys p hp hs hn => ?_⟩
    · unfold kvS; rw [List.map_map, List.map_map, List.map_map]; rfl
    obtain ⟨ks, pk, rfl⟩ := perm_S hp
    rw [← txS_S]
    exact kQ ks p pk hs hn
end
end My

namespace My
open PySem PySem.Spec PyProof.Rows L2 SuX
local macro_rules | `(tactic| walk_at "hp") => `(tactic| first | assumption | exact upd_same | (refine Eq.trans (upd_ne (by first | assumption | (apply Ne.symm; assumption))) ?_; walk_at "hp"))
local macro_rules | `(tactic| walk_at "ixl") => `(tactic| (refine' ⟨_, ?xs, _, ?vv, rfl, rfl, SqL.of ?hh, ?aa, ?qq⟩; (case hh => walk_at "hp"); (case aa => rfl)))
local macro_rules | `(tactic| walk_at "setl") => `(tactic| (refine' ⟨_, ?xs, _, ?jj, rfl, rfl, ?hh, ?aa, ?qq⟩; (case hh => walk_at "hp"); (case aa => rfl)))
local macro_rules | `(tactic| walk_at "cond") => `(tactic| first | exact ⟨_, rfl⟩ | exact Nat.le_of_lt (small1000 (Nat.le_of_ble_eq_true rfl)) | decide | omega | (dsimp only; omega) | exact ⟨by decide, by decide⟩ | exact Or.inr ⟨by decide, by decide⟩ | exact Or.inl ⟨by decide, by decide⟩ | exact ⟨by decide, by decide, by decide⟩ | exact ⟨by omega, by omega⟩ | exact ⟨by omega, by omega, by omega⟩ | (simp only [List.length_cons, List.length_nil, List.length_append, List.length_take, List.length_drop]; omega) | (refine ⟨?_, ?_, ?_⟩ <;> first | decide | omega | (simp only [List.length_cons, List.length_nil, List.length_append, List.length_take, List.length_drop, Option.getD_some, Option.getD_none]; omega)))
local macro_rules | `(tactic| walk_at "st") => `(tactic| repeat (first | refine ⟨_, rfl, ?_⟩ | refine ⟨_, _, rfl, rfl, ?_⟩ | walk_at "ixl" | walk_at "setl" | refine ⟨rfl, ?_⟩ | refine Or.inl ⟨_, rfl, ?_⟩ | refine And.intro (by walk_at "cond") ?_))
local macro_rules | `(tactic| walk_at "cls") => `(tactic| first | exact OC.cl (by assumption) | exact (‹Txt _ _›).o_Clock.cl | exact (‹Txt _ _›).o_LevelTable.cl | exact (‹Txt _ _›).o_Store.cl | exact (‹Txt _ _›).o_Written.cl | exact (‹Txt _ _›).o_Roster.cl | exact (‹Txt _ _›).o_Handler.cl | exact (‹Txt _ _›).o_Logger.cl | exact (‹Txt _ _›).o_LoggerTree.cl | exact (‹Txt _ _›).o_StreamHandler.cl | exact (‹Txt _ _›).o_FileHandler.cl | exact (‹Txt _ _›).o_LogRecord.cl | exact (‹Txt _ _›).o_Yard.cl)
local macro_rules | `(tactic| walk_at "na") => `(tactic| first | (refine na_of (by assumption) ?_; decide) | (refine na_of (‹Txt _ _›).o_Clock ?_; decide) | (refine na_of (‹Txt _ _›).o_LevelTable ?_; decide) | (refine na_of (‹Txt _ _›).o_Store ?_; decide) | (refine na_of (‹Txt _ _›).o_Written ?_; decide) | (refine na_of (‹Txt _ _›).o_Roster ?_; decide) | (refine na_of (‹Txt _ _›).o_Handler ?_; decide) | (refine na_of (‹Txt _ _›).o_Logger ?_; decide) | (refine na_of (‹Txt _ _›).o_LoggerTree ?_; decide) | (refine na_of (‹Txt _ _›).o_StreamHandler ?_; decide) | (refine na_of (‹Txt _ _›).o_FileHandler ?_; decide) | (refine na_of (‹Txt _ _›).o_LogRecord ?_; decide) | (refine na_of (‹Txt _ _›).o_Yard ?_; decide))
local macro_rules | `(tactic| walk_at "fld") => `(tactic| (refine' ⟨_, _, _, _, ?vv, rfl, ?hh, ?cc, ?nn, ?ll, ?qq⟩; (case hh => walk_at "hp"); (case cc => walk_at "cls"); (case nn => walk_at "na"); (case ll => exact rfl)))
local macro_rules | `(tactic| walk_at "sto") => `(tactic| (refine' ⟨_, _, _, _, rfl, ?hh, ?cc, ?nn, ?ll, ?qq⟩; (case hh => walk_at "hp"); (case cc => walk_at "cls"); (case nn => walk_at "na"); (case ll => first | exact Nat.le_of_ble_eq_true rfl | assumption)))
local macro_rules | `(tactic| walk_at "mth") => `(tactic| (refine' ⟨_, _, _, rfl, ?hh, ?ll, ?qq⟩; (case hh => walk_at "hp"); (case ll => exact rfl)))
local macro_rules | `(tactic| walk_at "sx") => `(tactic| repeat (first | refine ⟨_, rfl, ?_⟩ | refine ⟨_, _, rfl, rfl, ?_⟩ | walk_at "ixl" | walk_at "setl" | refine ⟨rfl, ?_⟩ | refine Or.inl ⟨_, rfl, ?_⟩ | walk_at "fld" | walk_at "sto" | walk_at "mth" | refine And.intro (by walk_at "cond") ?_))
/-! ### what a store tells: keys, objects, texts -/
def sg (m : SMap) : List (List Nat × Addr × List Nat) := m.map fun e => (e.1, e.2.wr, e.2.l)
theorem sg_keys (m : SMap) : m.map (·.1) = (sg m).map (·.1) := by unfold sg; rw [List.map_map]; rfl
theorem sg_wrs (m : SMap) : m.map (·.2.wr) = (sg m).map (·.2.1) := by unfold sg; rw [List.map_map]; rfl
theorem getM_sg {k : List Nat} : ∀ {m m' : SMap}, sg m = sg m' → (getM m k).map (fun y => (y.wr, y.l)) = (getM m' k).map (fun y => (y.wr, y.l))
  | [], [], _ => rfl
  | [], _ :: _, h => by cases h
  | _ :: _, [], h => by cases h
  | a :: r, b :: q, h => by
    have h1 : (a.1, a.2.wr, a.2.l) = (b.1, b.2.wr, b.2.l) ∧ sg r = sg q := List.cons.inj h
    have ea : a.1 = b.1 := congrArg (fun x => x.1) h1.1
    have ew : a.2.wr = b.2.wr := congrArg (fun x => x.2.1) h1.1
    have el : a.2.l = b.2.l := congrArg (fun x => x.2.2) h1.1
    unfold getM
    by_cases e : a.1 = k
    · rw [if_pos e, if_pos (ea ▸ e)]
      show some (a.2.wr, a.2.l) = some (b.2.wr, b.2.l)
      rw [ew, el]
    · rw [if_neg e, if_neg (ea ▸ e)]
      exact getM_sg h1.2
theorem oldT_sg {k : List Nat} {m m' : SMap} (h : sg m = sg m') : oldT m k = oldT m' k := by
  have q := getM_sg (k := k) h
  unfold oldT
  cases e : getM m k <;> cases e' : getM m' k <;> rw [e, e'] at q
  · cases q
  · cases q
  · exact congrArg Prod.snd (Option.some.inj q)
theorem putM_sg {k : List Nat} {y : Wn} {pa' : Addr} : ∀ {m : SMap}, getM m k = some y → sg (putM m k ⟨y.wr, pa', y.l⟩) = sg m
  | [], e => by cases e
  | a :: r, e => by
    unfold getM at e
    unfold putM
    by_cases q : a.1 = k
    · rw [if_pos q] at e ⊢
      cases e
      rfl
    · rw [if_neg q] at e ⊢
      exact congrArg (List.cons (a.1, a.2.wr, a.2.l)) (putM_sg e)
theorem ft_put {k : List Nat} {y : Wn} {m : SMap} (nd : (m.map (·.1)).Nodup) : ∀ a ∈ ft (putM m k y), a = y.wr ∨ a = y.pa ∨ a ∈ ft m := fun a ha => by
  rcases List.mem_append.mp ha with h | h
  · obtain ⟨e, he, rfl⟩ := List.mem_map.mp h
    rcases putM_mem nd e he with z | ⟨z, _⟩
    · rw [z]; exact .inl rfl
    · exact .inr (.inr (ft_wr z))
  · obtain ⟨e, he, rfl⟩ := List.mem_map.mp h
    rcases putM_mem nd e he with z | ⟨z, _⟩
    · rw [z]; exact .inr (.inl rfl)
    · exact .inr (.inr (ft_pa z))
theorem dc_list {K : PySem.W.Frag} {a : Addr} {xs : List V} {g : TG} {tt : TT} {tk tv : TE} {vs : List Nat} {σ : L2.St} {H1 : Hp} {D : Addr} {Qd : Hp → Prop} (Pv : Nat → Hp → Prop) (h0 : Pv 0 (upd H1 D (.dK []))) (hl : ∀ i H, i ≤ xs.length → Pv i H → SqL K H a xs)
    (hs : ∀ i x H, xs[i]? = some x → Pv i H → ∀ N : Hp → Prop, N = Pv (i + 1) → g x (wipe σ vs) H fun σ2 H2 => wipe σ2 vs = wipe σ vs ∧ tt σ2 H2 fun b H3 =>
      if b = true then tk σ2 H3 fun y H4 => tv σ2 H4 fun z H5 => ∃ kvs k, y = kV k ∧ H5 D = some (.dK kvs) ∧ kvs.length < sizeLine ∧ N (upd H5 D (.dK (putK kvs k z))) else N H3) (hd : ∀ H, Pv xs.length H → Qd H) :
    ∃ W : Nat → Nat → Hp → Prop, (∃ m, W 0 m (upd H1 D (.dK []))) ∧ ∀ i m H, W i m H →
      ((Itl K a).stop i H ∧ Qd H) ∨ ((Itl K a).go i H ∧ ∃ Nx : Hp → Prop, (∀ H', Nx H' → ∃ m', m' < m ∧ W (i + 1) m' H') ∧ ∀ x H', (Itl K a).yld i H x H' → g x (wipe σ vs) H' fun σ2 H2 => wipe σ2 vs = wipe σ vs ∧ tt σ2 H2 fun b H3 =>
        if b = true then tk σ2 H3 fun y H4 => tv σ2 H4 fun z H5 => ∃ kvs k, y = kV k ∧ H5 D = some (.dK kvs) ∧ kvs.length < sizeLine ∧ Nx (upd H5 D (.dK (putK kvs k z))) else Nx H3) := by
  refine ⟨fun i m H => m = xs.length - i ∧ i ≤ xs.length ∧ Pv i H, ⟨xs.length, by simp, Nat.zero_le _, h0⟩, ?_⟩
  rintro i m H ⟨rfl, hi, p⟩
  have q := hl i H hi p
  by_cases hlt : i < xs.length
  · refine .inr ⟨⟨xs, xs[i], q, by simp [hlt]⟩, Pv (i + 1), fun H' p' => ⟨xs.length - (i + 1), by omega, rfl, hlt, p'⟩, fun x H' y => ?_⟩
    obtain ⟨e, y⟩ := y
    subst e
    exact hs i x _ (y xs q) p _ rfl
  · have e : i = xs.length := by omega
    subst e
    exact .inl ⟨⟨xs, q, Nat.le_refl _⟩, hd H p⟩
theorem putK_new {kvs : List (Key × V)} {k : Key} {v : V} (h : ∀ p ∈ kvs, p.1 ≠ k) : putK kvs k v = kvs ++ [(k, v)] := by
  unfold putK
  rw [if_neg]
  rw [List.any_eq_true]
  rintro ⟨p, hp, e⟩
  exact h p hp (of_decide_eq_true e)
/-- a dict of texts by names -/
def kvT (f : List Nat → List Nat) (ls : List (List Nat)) : List (Key × V) := ls.map fun k => ((Sum.inr (SX.S k) : Key), V.str (SX.S (f k)))
theorem FrS.inv {S : List Addr} {H H' : Hp} {a : Addr} (f : FrS S H H') (h : H' a = none) (n : a ∉ S) : H a = none := by
  cases e : H a with
  | none => rfl
  | some u => rw [f a u n e] at h; cases h
section
variable {P : Program} {w : World} {K : PySem.W.Frag} {mg : Str → Option Value} {base : Heap}
/-- since H0 the texts of m have been looked at -/
structure Seen (CW : Addr) (H0 : Hp) (kp : Addr) (m : SMap) (n : Nat) (H : Hp) (m' : SMap) : Prop where
  st : StAt CW H kp m' n
  sge : sg m' = sg m
  fr : FrS (m.map (·.2.wr)) H0 H
  fts : ∀ a ∈ ft m', a ∈ ft m ∨ H0 a = none
theorem Seen.refl {CW kp : Addr} {H : Hp} {m : SMap} {n : Nat} (s : StAt CW H kp m n) : Seen CW H kp m n H m := ⟨s, rfl, FrS.refl _ _, fun a h => .inl h⟩
theorem Seen.tk {CW kp : Addr} {H0 H : Hp} {m m' : SMap} {n : Nat} (s : Seen CW H0 kp m n H m') : ∀ {a : Addr}, a ∈ m.map (·.2.wr) → ∃ u, H a = some u := fun {a} h => by
  rw [sg_wrs, ← s.sge, ← sg_wrs] at h
  obtain ⟨e, he, rfl⟩ := List.mem_map.mp h
  obtain ⟨d, t, ts, h1, _⟩ := (s.st.hw e he).ex
  exact ⟨_, h1⟩
/-- something new -/
theorem Seen.new {CW kp a : Addr} {H0 H : Hp} {m m' : SMap} {n : Nat} {o : HO} (s : Seen CW H0 kp m n H m') (h : H a = none) : Seen CW H0 kp m n (upd H a o) m' := by
  have nw : a ∉ m.map (·.2.wr) := fun z => by obtain ⟨u, e⟩ := s.tk z; rw [h] at e; cases e
  have ne : ∀ {b u}, H b = some u → b ≠ a := fun {b u} e z => by rw [z, h] at e; cases e
  refine ⟨⟨by rw [upd_ne (ne s.st.hk)]; exact s.st.hk, fun e he => (s.st.hw e he).keep (fun u q => by rw [upd_ne (ne q)]; exact q) (fun u q => by rw [upd_ne (ne q)]; exact q), s.st.nw, s.st.np, s.st.kd, s.st.len⟩, s.sge, s.fr.new (s.fr.inv h nw), s.fts⟩
theorem Seen.put {CW kp a : Addr} {H0 H : Hp} {m m' : SMap} {n : Nat} {o o' : HO} (s : Seen CW H0 kp m n H m') (h : H a = some o) (h0 : H0 a = none) (nk : a ≠ kp) (nf : a ∉ ft m') : Seen CW H0 kp m n (upd H a o') m' := by
  refine ⟨⟨by rw [upd_ne nk.symm]; exact s.st.hk, fun e he => (s.st.hw e he).keep (fun u q => by rw [upd_ne (fun z => nf (by rw [← z]; exact ft_wr he))]; exact q) (fun u q => by rw [upd_ne (fun z => nf (by rw [← z]; exact ft_pa he))]; exact q), s.st.nw, s.st.np, s.st.kd, s.st.len⟩, s.sge, s.fr.new h0, s.fts⟩
/-- a text looked at -/
theorem Seen.look {CW kp pa' : Addr} {H0 H H' : Hp} {m m' : SMap} {n : Nat} {k : List Nat} {y : Wn} (s : Seen CW H0 kp m n H m') (e : getM m' k = some y) (S' : StAt CW H' kp (putM m' k ⟨y.wr, pa', y.l⟩) n) (h0 : H pa' = none) (fr : FrS [y.wr] H H') : Seen CW H0 kp m n H' (putM m' k ⟨y.wr, pa', y.l⟩) := by
  have hy : y.wr ∈ m.map (·.2.wr) := by rw [sg_wrs, ← s.sge, ← sg_wrs]; exact List.mem_map_of_mem (f := fun e => e.2.wr) (getM_mem e)
  have nw : pa' ∉ m.map (·.2.wr) := fun z => by obtain ⟨u, e⟩ := s.tk z; rw [h0] at e; cases e
  refine ⟨S', by rw [putM_sg e]; exact s.sge, s.fr.trans (fr.mono fun b hb => .inl (by rw [List.mem_singleton.mp hb]; exact hy)), fun a ha => ?_⟩
  rcases ft_put s.st.kd a ha with z | z | z
  · exact .inl (by rw [z]; exact List.mem_append_left _ hy)
  · exact .inr (by rw [z]; exact s.fr.inv h0 nw)
  · exact s.fts a z
def spCont (CS CW : Addr) : Sp := fun vs H Q _ => Hd (∃ (x dx ck kp : Addr) (m : SMap) (n : Nat), vs = [.ref x] ∧ H x = some (.ins CS dx (fSt ck kp)) ∧ StAt CW H kp m n ∧ 1 ≤ n ∧ (∀ e ∈ m, e.2.l.length ≤ 100000) ∧ m.length < 64 ∧
  ∀ H' D (ls : List (List Nat)) m', ls.Perm (m.map (·.1)) → H' D = some (.dK (kvT (oldT m) ls)) → H D = none → Seen CW H kp m n H' m' → Q (.ref D) H')
theorem ok_cont (T : Txt K mg) : FnOk P w K mg base CX0 3 T.a_Store_contents T.fd_Store_contents ["self"] (spCont T.C_Store T.C_Written) := by
  have G_Store_text : FnOk P w K mg base CX0 2 _ _ _ (spStText T.C_Store T.C_Written) := ok_sttext T
  have G_Store_all_names : FnOk P w K mg base CX0 1 _ _ _ (spNames T.C_Store) := ok_names T
  refine T.F_Store_contents.ok sc_Store_contents (fun vs H Q E h => ?_) (fun cdv A outer s H vs Q E hr h => ?_)
  · obtain ⟨x, dx, ck, kp, m, n, rfl, _⟩ := h.out
    rfl
  · obtain ⟨x, dx, ck, kp, m, n, rfl, hx, S, n1, hz, h64, kQ⟩ := h.out
    have hu := hu_of hr
    refine ⟨_, (pss_one (ps_ret (pe_dc (own := [("name", 1)]) (g := gName 1) rfl sc_Store_contents.nd (pi_list (pe_meth0 (pv 0) T.o_Store.cl T.Me_Store_all_names G_Store_all_names (hr.mono (by first | decide | omega)) T.b_Store_all_names .nil pass0)) (blkOk_by (N := ["self", "name"]) (sc := defScope s_Store_contents) (by decide +kernel)) (fun _ _ _ _ _ => (pg_name (i := 1) sc_Store_contents.nd rfl (by first | exact Or.inl rfl | exact Or.inr rfl))) (fun _ _ _ _ _ => pts_nil) (fun _ _ _ _ _ => (pv 1)) (fun _ _ _ _ _ => (pe_meth (pv 0) T.o_Store.cl T.Me_Store_text G_Store_text (hr.mono (by first | decide | omega)) T.b_Store_text .nil pass0 (pa_cons (pv 1) pa_nil)))))), ?_⟩
    walk_at "sx"
    refine .a ⟨x, dx, ck, kp, m, rfl, hx, S.hk, h64, fun ls p pk hs hp => ?_⟩
    have ndl : ls.Nodup := pk.nodup_iff.mpr S.kd
    refine ⟨p, rfl, ⟨_, SqL.of upd_same⟩, fun D hD => ?_⟩
    have s1 := (Seen.refl S).new (o := .lst (txS ls)) hp
    have s2 := s1.new (o := .dK []) hD
    have pD : p ≠ D := ne_of_none upd_same hD
    have hD0 : H D = none := by rw [upd_ne pD.symm] at hD; exact hD
    have xp : x ≠ p := neN hx hp
    have xD : x ≠ D := neN hx hD0
    have hwr : ∀ b ∈ m.map (·.2.wr), b ≠ x ∧ b ≠ p ∧ b ≠ D := fun b hb => by
      obtain ⟨e, he, rfl⟩ := List.mem_map.mp hb
      obtain ⟨d, t, ts, h1, _⟩ := (S.hw e he).ex
      refine ⟨fun z => ?_, neN h1 hp, neN h1 hD0⟩
      rw [z, hx] at h1
      have := congrArg (fun o => match o with | HO.ins _ _ fs => fs.length | _ => 0) (Option.some.inj h1)
      simp [fSt, fWr] at this
    refine dc_list (xs := txS ls) (fun i H' => ∃ m', Seen T.C_Written H kp m n H' m' ∧ H' D = some (.dK (kvT (oldT m) (ls.take i))) ∧ H' p = some (.lst (txS ls)) ∧ H' x = some (.ins T.C_Store dx (fSt ck kp))) ?_ (fun i H' _ ⟨m', s, _, hp', _⟩ => SqL.of hp') ?_ ?_
    · exact ⟨m, s2, upd_same, by rw [upd_ne pD]; exact upd_same, by rw [upd_ne xD, upd_ne xp]; exact hx⟩
    · rintro i v H' hv ⟨m', s, hD', hp', hx'⟩ N hN
      obtain ⟨k, hk, rfl⟩ : ∃ k, ls[i]? = some k ∧ V.str (SX.S k) = v := by
        unfold txS at hv
        rw [List.getElem?_map] at hv
        cases q : ls[i]? with
        | none => rw [q] at hv; cases hv
        | some l => rw [q] at hv; exact ⟨l, rfl, Option.some.inj hv⟩
      have hi : i < ls.length := (List.getElem?_eq_some_iff.mp hk).1
      walk_at "sx"
      refine .a ⟨x, dx, ck, kp, k, m', n, rfl, hx', s.st, n1, fun e he => ?_, fun e => ?_, fun y e H2 pa' S' h0 fr => ?_⟩
      · have : e.2.l.length ≤ 100000 := by
          have : (e.1, e.2.wr, e.2.l) ∈ sg m := by rw [← s.sge]; exact List.mem_map_of_mem (f := fun e : List Nat × Wn => (e.1, e.2.wr, e.2.l)) he
          obtain ⟨e', he', q⟩ := List.mem_map.mp this
          have := hz e' he'
          have q : e'.2.l = e.2.l := congrArg (fun x => x.2.2) q
          rw [← q]; exact this
        exact this
      all_goals
        have et : ls.take (i + 1) = ls.take i ++ [k] := by rw [List.take_succ, hk]; rfl
        have fresh : ∀ q ∈ kvT (oldT m) (ls.take i), q.1 ≠ (Sum.inr (SX.S k) : Key) := fun q hq z => by
          obtain ⟨k', hk', rfl⟩ := List.mem_map.mp hq
          have e1 : k' = k := (key_iff k' k).mp z
          rw [e1] at hk'
          have q1 : ls.take i ++ [k] = ls.take (i + 1) := et.symm
          have q2 : (ls.take (i + 1)).Nodup := ndl.sublist (List.take_sublist _ _)
          rw [← q1, List.nodup_append] at q2
          exact q2.2.2 k hk' k (List.mem_singleton.mpr rfl) rfl
        have hlen : (kvT (oldT m) (ls.take i)).length < sizeLine := by
          have : (kvT (oldT m) (ls.take i)).length ≤ m.length := by
            unfold kvT
            rw [List.length_map, List.length_take]
            have := pk.length_eq
            rw [List.length_map] at this
            omega
          exact Nat.lt_of_le_of_lt (show _ ≤ 64 by omega) (by decide)
      · refine ⟨_, Sum.inr (SX.S k), rfl, hD', hlen, ?_⟩
        rw [hN, putK_new fresh]
        have eo : oldT m k = [] := by rw [← oldT_sg s.sge]; unfold oldT; rw [e]
        refine ⟨m', s.put hD' hD0 (fun z => ?_) (fun z => ?_), ?_, by rw [upd_ne pD]; exact hp', by rw [upd_ne xD]; exact hx'⟩
        · rw [z, S.hk] at hD0; cases hD0
        · rcases s.fts D z with q | q
          · rcases List.mem_append.mp q with q | q
            · exact (hwr D q).2.2 rfl
            · obtain ⟨e', he', z'⟩ := List.mem_map.mp q
              obtain ⟨d, t, ts, _, h2, _⟩ := (S.hw e' he').ex
              rw [z', hD0] at h2; cases h2
          · rcases List.mem_append.mp z with z | z
            · obtain ⟨e', he', z'⟩ := List.mem_map.mp z
              obtain ⟨d, t, ts, h1, _⟩ := (s.st.hw e' he').ex
              rw [z', hD'] at h1; cases h1
            · obtain ⟨e', he', z'⟩ := List.mem_map.mp z
              obtain ⟨d, t, ts, _, h2, _⟩ := (s.st.hw e' he').ex
              rw [z', hD'] at h2; cases h2
        · rw [upd_same, et]; unfold kvT; rw [List.map_append]; simp [eo]
      · have s3 := s.look e S' h0 fr
        have yw : y.wr ∈ m.map (·.2.wr) := by rw [sg_wrs, ← s.sge, ← sg_wrs]; exact List.mem_map_of_mem (f := fun e => e.2.wr) (getM_mem e)
        have hD2 := fr D _ (by simp only [List.mem_singleton]; exact (hwr _ yw).2.2.symm) hD'
        have hp2 := fr p _ (by simp only [List.mem_singleton]; exact (hwr _ yw).2.1.symm) hp'
        have hx2 := fr x _ (by simp only [List.mem_singleton]; exact (hwr _ yw).1.symm) hx'
        refine ⟨_, Sum.inr (SX.S k), rfl, hD2, hlen, ?_⟩
        rw [hN, putK_new fresh]
        have eo : oldT m k = y.l := by rw [← oldT_sg s.sge]; unfold oldT; rw [e]
        refine ⟨_, s3.put hD2 hD0 (fun z => ?_) (fun z => ?_), ?_, by rw [upd_ne pD]; exact hp2, by rw [upd_ne xD]; exact hx2⟩
        · rw [z, S.hk] at hD0; cases hD0
        · rcases List.mem_append.mp z with z | z
          · obtain ⟨e', he', z'⟩ := List.mem_map.mp z
            obtain ⟨d, t, ts, h1, _⟩ := (s3.st.hw e' he').ex
            rw [z', hD2] at h1; cases h1
          · obtain ⟨e', he', z'⟩ := List.mem_map.mp z
            obtain ⟨d, t, ts, _, h2, _⟩ := (s3.st.hw e' he').ex
            rw [z', hD2] at h2; cases h2
        · rw [upd_same, et]; unfold kvT; rw [List.map_append]; simp [eo]
    · rintro H' ⟨m', s, hD', _, _⟩
      have e : ls.take (txS ls).length = ls := by unfold txS; rw [List.length_map, List.take_length]
      rw [e] at hD'
      exact kQ H' D ls m' pk hD' hD0 s
end
end My

namespace My
open PySem PySem.Spec PyProof.Rows L2 SuX
local macro_rules | `(tactic| walk_at "hp") => `(tactic| first | assumption | exact upd_same | (refine Eq.trans (upd_ne (by first | assumption | (apply Ne.symm; assumption))) ?_; walk_at "hp"))
local macro_rules | `(tactic| walk_at "ixl") => `(tactic| (refine' ⟨_, ?xs, _, ?vv, rfl, rfl, SqL.of ?hh, ?aa, ?qq⟩; (case hh => walk_at "hp"); (case aa => rfl)))
local macro_rules | `(tactic| walk_at "setl") => `(tactic| (refine' ⟨_, ?xs, _, ?jj, rfl, rfl, ?hh, ?aa, ?qq⟩; (case hh => walk_at "hp"); (case aa => rfl)))
local macro_rules | `(tactic| walk_at "cond") => `(tactic| first | exact ⟨_, rfl⟩ | exact Nat.le_of_lt (small1000 (Nat.le_of_ble_eq_true rfl)) | decide | omega | (dsimp only; omega) | exact ⟨by decide, by decide⟩ | exact Or.inr ⟨by decide, by decide⟩ | exact Or.inl ⟨by decide, by decide⟩ | exact ⟨by decide, by decide, by decide⟩ | exact ⟨by omega, by omega⟩ | exact ⟨by omega, by omega, by omega⟩ | (simp only [List.length_cons, List.length_nil, List.length_append, List.length_take, List.length_drop]; omega) | (refine ⟨?_, ?_, ?_⟩ <;> first | decide | omega | (simp only [List.length_cons, List.length_nil, List.length_append, List.length_take, List.length_drop, Option.getD_some, Option.getD_none]; omega)))
local macro_rules | `(tactic| walk_at "st") => `(tactic| repeat (first | refine ⟨_, rfl, ?_⟩ | refine ⟨_, _, rfl, rfl, ?_⟩ | walk_at "ixl" | walk_at "setl" | refine ⟨rfl, ?_⟩ | refine Or.inl ⟨_, rfl, ?_⟩ | refine And.intro (by walk_at "cond") ?_))
local macro_rules | `(tactic| walk_at "cls") => `(tactic| first | exact OC.cl (by assumption) | exact (‹Txt _ _›).o_Clock.cl | exact (‹Txt _ _›).o_LevelTable.cl | exact (‹Txt _ _›).o_Store.cl | exact (‹Txt _ _›).o_Written.cl | exact (‹Txt _ _›).o_Roster.cl | exact (‹Txt _ _›).o_Handler.cl | exact (‹Txt _ _›).o_Logger.cl | exact (‹Txt _ _›).o_LoggerTree.cl | exact (‹Txt _ _›).o_StreamHandler.cl | exact (‹Txt _ _›).o_FileHandler.cl | exact (‹Txt _ _›).o_LogRecord.cl | exact (‹Txt _ _›).o_Yard.cl)
local macro_rules | `(tactic| walk_at "na") => `(tactic| first | (refine na_of (by assumption) ?_; decide) | (refine na_of (‹Txt _ _›).o_Clock ?_; decide) | (refine na_of (‹Txt _ _›).o_LevelTable ?_; decide) | (refine na_of (‹Txt _ _›).o_Store ?_; decide) | (refine na_of (‹Txt _ _›).o_Written ?_; decide) | (refine na_of (‹Txt _ _›).o_Roster ?_; decide) | (refine na_of (‹Txt _ _›).o_Handler ?_; decide) | (refine na_of (‹Txt _ _›).o_Logger ?_; decide) | (refine na_of (‹Txt _ _›).o_LoggerTree ?_; decide) | (refine na_of (‹Txt _ _›).o_StreamHandler ?_; decide) | (refine na_of (‹Txt _ _›).o_FileHandler ?_; decide) | (refine na_of (‹Txt _ _›).o_LogRecord ?_; decide) | (refine na_of (‹Txt _ _›).o_Yard ?_; decide))
local macro_rules | `(tactic| walk_at "fld") => `(tactic| (refine' ⟨_, _, _, _, ?vv, rfl, ?hh, ?cc, ?nn, ?ll, ?qq⟩; (case hh => walk_at "hp"); (case cc => walk_at "cls"); (case nn => walk_at "na"); (case ll => exact rfl)))
local macro_rules | `(tactic| walk_at "sto") => `(tactic| (refine' ⟨_, _, _, _, rfl, ?hh, ?cc, ?nn, ?ll, ?qq⟩; (case hh => walk_at "hp"); (case cc => walk_at "cls"); (case nn => walk_at "na"); (case ll => first | exact Nat.le_of_ble_eq_true rfl | assumption)))
local macro_rules | `(tactic| walk_at "mth") => `(tactic| (refine' ⟨_, _, _, rfl, ?hh, ?ll, ?qq⟩; (case hh => walk_at "hp"); (case ll => exact rfl)))
local macro_rules | `(tactic| walk_at "sx") => `(tactic| repeat (first | refine ⟨_, rfl, ?_⟩ | refine ⟨_, _, rfl, rfl, ?_⟩ | walk_at "ixl" | walk_at "setl" | refine ⟨rfl, ?_⟩ | refine Or.inl ⟨_, rfl, ?_⟩ | walk_at "fld" | walk_at "sto" | walk_at "mth" | refine And.intro (by walk_at "cond") ?_))
theorem pe_fldK {X : Cx} {K : PySem.W.Frag} {e : Expr} {f : Str} {pos : Pos} {ta : TE} (hK : X.K = K) (he : PE X e ta) (hb : attributeBase e f X.env (eval e X.env) = eval e X.env) : PE X (.Attribute e f pos) (tFld K ta f) := by
  subst hK
  exact pe_fld he hb
theorem lc_listN {K : PySem.W.Frag} {a : Addr} {xs : List V} {g : TG} {tt : TT} {te : TE} {vs : List Nat} {σ : L2.St} {H1 : Hp} {D : Addr} {Qd : Hp → Prop} (Pv : Nat → Hp → Prop) (h0 : Pv 0 (upd H1 D (.lst []))) (hl : ∀ i H, i ≤ xs.length → Pv i H → SqL K H a xs)
    (hs : ∀ i x H, xs[i]? = some x → Pv i H → ∀ N : Hp → Prop, N = Pv (i + 1) → g x (wipe σ vs) H fun σ2 H2 => wipe σ2 vs = wipe σ vs ∧ tt σ2 H2 fun b H3 =>
      if b = true then te σ2 H3 fun y H4 => ∃ acc, H4 D = some (.lst acc) ∧ acc.length < sizeLine ∧ N (upd H4 D (.lst (acc ++ [y]))) else N H3) (hd : ∀ H, Pv xs.length H → Qd H) :
    ∃ W : Nat → Nat → Hp → Prop, (∃ m, W 0 m (upd H1 D (.lst []))) ∧ ∀ i m H, W i m H →
      ((Itl K a).stop i H ∧ Qd H) ∨ ((Itl K a).go i H ∧ ∃ Nx : Hp → Prop, (∀ H', Nx H' → ∃ m', m' < m ∧ W (i + 1) m' H') ∧ ∀ x H', (Itl K a).yld i H x H' → g x (wipe σ vs) H' fun σ2 H2 => wipe σ2 vs = wipe σ vs ∧ tt σ2 H2 fun b H3 =>
        if b = true then te σ2 H3 fun y H4 => ∃ acc, H4 D = some (.lst acc) ∧ acc.length < sizeLine ∧ Nx (upd H4 D (.lst (acc ++ [y]))) else Nx H3) := by
  refine ⟨fun i m H => m = xs.length - i ∧ i ≤ xs.length ∧ Pv i H, ⟨xs.length, by simp, Nat.zero_le _, h0⟩, ?_⟩
  rintro i m H ⟨rfl, hi, p⟩
  have q := hl i H hi p
  by_cases hlt : i < xs.length
  · refine .inr ⟨⟨xs, xs[i], q, by simp [hlt]⟩, Pv (i + 1), fun H' p' => ⟨xs.length - (i + 1), by omega, rfl, hlt, p'⟩, fun x H' y => ?_⟩
    obtain ⟨e, y⟩ := y
    subst e
    exact hs i x _ (y xs q) p _ rfl
  · have e : i = xs.length := by omega
    subst e
    exact .inl ⟨⟨xs, q, Nat.le_refl _⟩, hd H p⟩
theorem txS_at {ls : List (List Nat)} {i : Nat} {v : V} (h : (txS ls)[i]? = some v) : ∃ k, ls[i]? = some k ∧ V.str (SX.S k) = v := by
  unfold txS at h
  rw [List.getElem?_map] at h
  cases q : ls[i]? with
  | none => rw [q] at h; cases h
  | some l => rw [q] at h; exact ⟨l, rfl, Option.some.inj h⟩
theorem StAt.new {CW kp a : Addr} {H : Hp} {m : SMap} {n : Nat} {o : HO} (s : StAt CW H kp m n) (h : H a = none) : StAt CW (upd H a o) kp m n := by
  have ne : ∀ {b u}, H b = some u → b ≠ a := fun {b u} e z => by rw [z, h] at e; cases e
  exact ⟨by rw [upd_ne (ne s.hk)]; exact s.hk, fun e he => (s.hw e he).keep (fun u q => by rw [upd_ne (ne q)]; exact q) (fun u q => by rw [upd_ne (ne q)]; exact q), s.nw, s.np, s.kd, s.len⟩
theorem StAt.put' {CW kp a : Addr} {H : Hp} {m : SMap} {n : Nat} {o : HO} (s : StAt CW H kp m n) (nk : a ≠ kp) (nf : a ∉ ft m) : StAt CW (upd H a o) kp m n :=
  ⟨by rw [upd_ne nk.symm]; exact s.hk, fun e he => (s.hw e he).keep (fun u q => by rw [upd_ne (fun z => nf (by rw [← z]; exact ft_wr he))]; exact q) (fun u q => by rw [upd_ne (fun z => nf (by rw [← z]; exact ft_pa he))]; exact q), s.nw, s.np, s.kd, s.len⟩
theorem StAt.old {CW kp a : Addr} {H : Hp} {m : SMap} {n : Nat} (s : StAt CW H kp m n) (h : H a = none) : a ≠ kp ∧ a ∉ ft m := by
  refine And.intro (fun z => (by rw [z, s.hk] at h; cases h)) (fun z => ?_)
  rcases List.mem_append.mp z with z | z
  · obtain ⟨e', he', z'⟩ := List.mem_map.mp z
    obtain ⟨d, t, ts, h1, _⟩ := (s.hw e' he').ex
    rw [z', h] at h1; cases h1
  · obtain ⟨e', he', z'⟩ := List.mem_map.mp z
    obtain ⟨d, t, ts, _, h2, _⟩ := (s.hw e' he').ex
    rw [z', h] at h2; cases h2
section
variable {P : Program} {w : World} {K : PySem.W.Frag} {mg : Str → Option Value} {base : Heap}
def spYFiles (T : Txt K mg) : Sp := fun vs H Q _ => Hd (∃ (x dx : Addr) (Y : YA) (m : SMap) (n : Nat), vs = [.ref x] ∧ H x = some (.ins T.C_Yard dx (fYd Y)) ∧ H Y.fs = some (.ins T.C_Store Y.dfs (fSt Y.ck Y.fk)) ∧ StAt T.C_Written H Y.fk m n ∧ 1 ≤ n ∧ (∀ e ∈ m, e.2.l.length ≤ 100000) ∧ m.length < 64 ∧
  ∀ H' D (ls : List (List Nat)) m', ls.Perm (m.map (·.1)) → H' D = some (.dK (kvT (oldT m) ls)) → H D = none → Seen T.C_Written H Y.fk m n H' m' → Q (.ref D) H')
theorem ok_yfiles (T : Txt K mg) : FnOk P w K mg base CX0 4 T.a_Yard_files T.fd_Yard_files ["self"] (spYFiles T) := by
  have G_Store_contents : FnOk P w K mg base CX0 3 _ _ _ (spCont T.C_Store T.C_Written) := ok_cont T
  refine T.F_Yard_files.ok sc_Yard_files (fun vs H Q E h => ?_) (fun cdv A outer s H vs Q E hr h => ?_)
  · obtain ⟨x, dx, Y, m, n, rfl, _⟩ := h.out
    rfl
  · obtain ⟨x, dx, Y, m, n, rfl, hx, hs, S, n1, hz, h64, kQ⟩ := h.out
    refine ⟨_, (pss_one (ps_ret (pe_meth0 (pe_fld (pv 0) rfl) T.o_Store.cl T.Me_Store_contents G_Store_contents (hr.mono (by first | decide | omega)) T.b_Store_contents .nil pass0))), ?_⟩
    walk_at "sx"
    exact .a ⟨Y.fs, Y.dfs, Y.ck, Y.fk, m, n, rfl, hs, S, n1, hz, h64, kQ⟩
/-- the names of the streams that have something -/
def fullK (m : SMap) (k : List Nat) : Bool := decide ((0 : Int) < ((oldT m k).length : Int))
def spYStreams (T : Txt K mg) : Sp := fun vs H Q _ => Hd (∃ (x dx : Addr) (Y : YA) (m : SMap) (n : Nat), vs = [.ref x] ∧ H x = some (.ins T.C_Yard dx (fYd Y)) ∧ H Y.ss = some (.ins T.C_Store Y.dss (fSt Y.ck Y.sk)) ∧ StAt T.C_Written H Y.sk m n ∧ m.length < 64 ∧
  ∀ H' D (ls : List (List Nat)), ls.Perm (m.map (·.1)) → sortedS (ls.map SX.S) = true → H' D = some (.lst (txS (ls.filter (fullK m)))) → H D = none → FrS [] H H' → Q (.ref D) H')
theorem ok_ystreams (T : Txt K mg) : FnOk P w K mg base CX0 2 T.a_Yard_streams T.fd_Yard_streams ["self"] (spYStreams T) := by
  have G_Store_all_names : FnOk P w K mg base CX0 1 _ _ _ (spNames T.C_Store) := ok_names T
  have G_Store_length : FnOk P w K mg base CX0 1 _ _ _ (spLen T.C_Store T.C_Written) := ok_len T
  refine T.F_Yard_streams.ok sc_Yard_streams (fun vs H Q E h => ?_) (fun cdv A outer s H vs Q E hr h => ?_)
  · obtain ⟨x, dx, Y, m, n, rfl, _⟩ := h.out
    rfl
  · obtain ⟨x, dx, Y, m, n, rfl, hx, hs, S, h64, kQ⟩ := h.out
    refine ⟨_, (pss_one (ps_ret (pe_lc (own := [("name", 1)]) (g := gName 1) rfl sc_Yard_streams.nd (pi_list (pe_meth0 (pe_fld (pv 0) rfl) T.o_Store.cl T.Me_Store_all_names G_Store_all_names (hr.mono (by first | decide | omega)) T.b_Store_all_names .nil pass0)) (blkOk_by (N := ["self", "name"]) (sc := defScope s_Yard_streams) (by decide +kernel)) (fun _ _ _ _ _ => (pg_name (i := 1) sc_Yard_streams.nd rfl (by first | exact Or.inl rfl | exact Or.inr rfl))) (fun _ _ _ _ _ => (pts_one (pt_cmpR op_gt (pe_meth (pe_fldK (K := K) rfl (pv 0) rfl) T.o_Store.cl T.Me_Store_length G_Store_length (hr.mono (by first | decide | omega)) T.b_Store_length .nil pass0 (pa_cons (pv 1) pa_nil)) pe_int (nomark _)))) (fun _ _ _ _ _ => (pv 1))))), ?_⟩
    walk_at "sx"
    refine .a ⟨Y.ss, Y.dss, Y.ck, Y.sk, m, rfl, hs, S.hk, h64, fun ls p pk hs0 hp => ?_⟩
    refine ⟨p, rfl, ⟨_, SqL.of upd_same⟩, fun D hD => ?_⟩
    have pD : p ≠ D := ne_of_none upd_same hD
    have hD0 : H D = none := by rw [upd_ne pD.symm] at hD; exact hD
    have f1 : FrS [] H (upd H p (.lst (txS ls))) := (FrS.refl _ _).new hp
    refine lc_listN (xs := txS ls) (fun i H' => FrS [] H H' ∧ StAt T.C_Written H' Y.sk m n ∧ H' D = some (.lst (txS ((ls.take i).filter (fullK m)))) ∧ H' p = some (.lst (txS ls))) ?_ (fun i H' _ ⟨_, _, _, hp'⟩ => SqL.of hp') ?_ ?_
    · exact ⟨f1.new hD0, (S.new hp).new hD, upd_same, by rw [upd_ne pD]; exact upd_same⟩
    · rintro i v H' hv ⟨f, S', hD', hp'⟩ N hN
      obtain ⟨k, hk, rfl⟩ := txS_at hv
      have hx' := f x _ (by simp) hx
      have hs' := f Y.ss _ (by simp) hs
      have et : ls.take (i + 1) = ls.take i ++ [k] := by rw [List.take_succ, hk]; rfl
      walk_at "sx"
      refine .a ⟨Y.ss, Y.dss, Y.ck, Y.sk, k, m, n, rfl, hs', S', ?_⟩
      refine ⟨_, _, rfl, rfl, _, rfl, ?_⟩
      have ed : decide ((0 : Int) < ((oldT m k).length : Int)) = fullK m k := rfl
      rw [ed]
      cases e : fullK m k with
      | true =>
        refine if_true_of rfl ?_
        walk_at "sx"
        refine ⟨_, hD', ?_, ?_⟩
        · have : (txS ((ls.take i).filter (fullK m))).length ≤ m.length := by
            unfold txS
            rw [List.length_map]
            have q := List.length_filter_le (fullK m) (ls.take i)
            have r := pk.length_eq
            rw [List.length_map] at r
            rw [List.length_take] at q
            omega
          exact Nat.lt_of_le_of_lt (show _ ≤ 64 by omega) (by decide)
        · rw [hN]
          have dd := S.old hD0
          refine ⟨f.new hD0, S'.put' dd.1 dd.2, ?_, by rw [upd_ne pD]; exact hp'⟩
          rw [upd_same, et, List.filter_append]
          unfold txS
          rw [List.map_append]
          simp [e]
      | false =>
        refine if_false_of rfl ?_
        rw [hN]
        refine ⟨f, S', ?_, hp'⟩
        rw [hD', et, List.filter_append]
        simp [e]
    · rintro H' ⟨f, S', hD', _⟩
      have e : ls.take (txS ls).length = ls := by unfold txS; rw [List.length_map, List.take_length]
      rw [e] at hD'
      exact kQ H' D ls pk hs0 hD' hD0 f
end
end My

namespace My
open PySem PySem.Spec PyProof.Rows L2 SuX
local macro_rules | `(tactic| walk_at "hp") => `(tactic| first | assumption | exact upd_same | (refine Eq.trans (upd_ne (by first | assumption | (apply Ne.symm; assumption))) ?_; walk_at "hp"))
local macro_rules | `(tactic| walk_at "ixl") => `(tactic| (refine' ⟨_, ?xs, _, ?vv, rfl, rfl, SqL.of ?hh, ?aa, ?qq⟩; (case hh => walk_at "hp"); (case aa => rfl)))
local macro_rules | `(tactic| walk_at "setl") => `(tactic| (refine' ⟨_, ?xs, _, ?jj, rfl, rfl, ?hh, ?aa, ?qq⟩; (case hh => walk_at "hp"); (case aa => rfl)))
local macro_rules | `(tactic| walk_at "cond") => `(tactic| first | exact ⟨_, rfl⟩ | exact Nat.le_of_lt (small1000 (Nat.le_of_ble_eq_true rfl)) | decide | omega | (dsimp only; omega) | exact ⟨by decide, by decide⟩ | exact Or.inr ⟨by decide, by decide⟩ | exact Or.inl ⟨by decide, by decide⟩ | exact ⟨by decide, by decide, by decide⟩ | exact ⟨by omega, by omega⟩ | exact ⟨by omega, by omega, by omega⟩ | (simp only [List.length_cons, List.length_nil, List.length_append, List.length_take, List.length_drop]; omega) | (refine ⟨?_, ?_, ?_⟩ <;> first | decide | omega | (simp only [List.length_cons, List.length_nil, List.length_append, List.length_take, List.length_drop, Option.getD_some, Option.getD_none]; omega)))
local macro_rules | `(tactic| walk_at "st") => `(tactic| repeat (first | refine ⟨_, rfl, ?_⟩ | refine ⟨_, _, rfl, rfl, ?_⟩ | walk_at "ixl" | walk_at "setl" | refine ⟨rfl, ?_⟩ | refine Or.inl ⟨_, rfl, ?_⟩ | refine And.intro (by walk_at "cond") ?_))
local macro_rules | `(tactic| walk_at "cls") => `(tactic| first | exact OC.cl (by assumption) | exact (‹Txt _ _›).o_Clock.cl | exact (‹Txt _ _›).o_LevelTable.cl | exact (‹Txt _ _›).o_Store.cl | exact (‹Txt _ _›).o_Written.cl | exact (‹Txt _ _›).o_Roster.cl | exact (‹Txt _ _›).o_Handler.cl | exact (‹Txt _ _›).o_Logger.cl | exact (‹Txt _ _›).o_LoggerTree.cl | exact (‹Txt _ _›).o_StreamHandler.cl | exact (‹Txt _ _›).o_FileHandler.cl | exact (‹Txt _ _›).o_LogRecord.cl | exact (‹Txt _ _›).o_Yard.cl)
local macro_rules | `(tactic| walk_at "na") => `(tactic| first | (refine na_of (by assumption) ?_; decide) | (refine na_of (‹Txt _ _›).o_Clock ?_; decide) | (refine na_of (‹Txt _ _›).o_LevelTable ?_; decide) | (refine na_of (‹Txt _ _›).o_Store ?_; decide) | (refine na_of (‹Txt _ _›).o_Written ?_; decide) | (refine na_of (‹Txt _ _›).o_Roster ?_; decide) | (refine na_of (‹Txt _ _›).o_Handler ?_; decide) | (refine na_of (‹Txt _ _›).o_Logger ?_; decide) | (refine na_of (‹Txt _ _›).o_LoggerTree ?_; decide) | (refine na_of (‹Txt _ _›).o_StreamHandler ?_; decide) | (refine na_of (‹Txt _ _›).o_FileHandler ?_; decide) | (refine na_of (‹Txt _ _›).o_LogRecord ?_; decide) | (refine na_of (‹Txt _ _›).o_Yard ?_; decide))
local macro_rules | `(tactic| walk_at "fld") => `(tactic| (refine' ⟨_, _, _, _, ?vv, rfl, ?hh, ?cc, ?nn, ?ll, ?qq⟩; (case hh => walk_at "hp"); (case cc => walk_at "cls"); (case nn => walk_at "na"); (case ll => exact rfl)))
local macro_rules | `(tactic| walk_at "sto") => `(tactic| (refine' ⟨_, _, _, _, rfl, ?hh, ?cc, ?nn, ?ll, ?qq⟩; (case hh => walk_at "hp"); (case cc => walk_at "cls"); (case nn => walk_at "na"); (case ll => first | exact Nat.le_of_ble_eq_true rfl | assumption)))
local macro_rules | `(tactic| walk_at "mth") => `(tactic| (refine' ⟨_, _, _, rfl, ?hh, ?ll, ?qq⟩; (case hh => walk_at "hp"); (case ll => exact rfl)))
local macro_rules | `(tactic| walk_at "sx") => `(tactic| repeat (first | refine ⟨_, rfl, ?_⟩ | refine ⟨_, _, rfl, rfl, ?_⟩ | walk_at "ixl" | walk_at "setl" | refine ⟨rfl, ?_⟩ | refine Or.inl ⟨_, rfl, ?_⟩ | walk_at "fld" | walk_at "sto" | walk_at "mth" | refine And.intro (by walk_at "cond") ?_))
theorem passes_no {X : Cx} : Passes (L2.CX X.prog X.w) X (fun _ _ _ => False) := fun _ _ _ _ _ _ _ h => by
  obtain ⟨_, _, _, _, _, _, _, _, _, _, _, _, z⟩ := h
  exact z.elim
def cont (m : SMap) (k : List Nat) : Option (List Nat) := (getM m k).map (·.l)
theorem cont_put {k : List Nat} {y : Wn} (k' : List Nat) : ∀ (m : SMap), cont (putM m k y) k' = if k' = k then some y.l else cont m k'
  | [] => by
    unfold cont putM
    by_cases e : k' = k
    · rw [if_pos e]; unfold getM; rw [if_pos e.symm]; rfl
    · rw [if_neg e]; unfold getM; rw [if_neg (fun z => e z.symm)]; rfl
  | a :: r => by
    have ih := cont_put (k := k) (y := y) k' r
    unfold cont at ih ⊢
    unfold putM
    by_cases q : a.1 = k
    · rw [if_pos q]
      unfold getM
      by_cases e : k' = k
      · rw [if_pos (q.trans e.symm), if_pos e]; rfl
      · rw [if_neg (fun z => e (z.symm.trans q)), if_neg e, if_neg (fun z => e (z.symm.trans q))]
    · rw [if_neg q]
      unfold getM
      by_cases e : a.1 = k'
      · rw [if_pos e, if_pos e, if_neg (fun z => q (e.trans z))]
      · rw [if_neg e, if_neg e]
        exact ih
theorem oldT_cont (m : SMap) (k : List Nat) : oldT m k = (cont m k).getD [] := by
  unfold oldT cont
  cases getM m k <;> rfl
theorem cont_sg {m m' : SMap} (h : sg m = sg m') (k : List Nat) : cont m k = cont m' k := by
  have q := getM_sg (k := k) h
  unfold cont
  cases e : getM m k <;> cases e' : getM m' k <;> rw [e, e'] at q
  · cases q
  · cases q
  · exact congrArg some (congrArg Prod.snd (Option.some.inj q))
section
variable {P : Program} {w : World} {K : PySem.W.Frag} {mg : Str → Option Value} {base : Heap}
/-! ### handlers of streams -/
def spHandleS (T : Txt K mg) : Sp := fun vs H Q _ => Hd (∃ (x dx y dy fl r dr g e : Addr) (Y : YA) (n l ln c v : V) (m z st : List Nat) (ks : SMap) (b : Nat), vs = [.ref x, .ref r] ∧ H x = some (.ins T.C_StreamHandler dx (fSz y fl z st)) ∧ H fl = some (.lst []) ∧ H y = some (.ins T.C_Yard dy (fYd Y)) ∧ H r = some (.ins T.C_LogRecord dr (fLr n l ln m g c e)) ∧ SqT K H g [] ∧ (m ++ z).length ≤ 100000 ∧
  H Y.ss = some (.ins T.C_Store Y.dss (fSt Y.ck Y.sk)) ∧ H Y.ck = some (.ins T.C_Clock Y.dck [("shown", v)]) ∧ StAt T.C_Written H Y.sk ks b ∧ 1 ≤ b ∧ b ≤ 100000 ∧ ks.length + 1 ≤ 1000 ∧
  ∀ H' wr pa, StAt T.C_Written H' Y.sk (putM ks st ⟨wr, pa, oldT ks st ++ (m ++ z)⟩) (b + 1) → (H wr = none ∨ wr ∈ ft ks) → (H pa = none ∨ pa ∈ ft ks) → FrS (Y.sk :: ft ks) H H' → Q (.bl true) H')
theorem ok_handleS (T : Txt K mg) (Z : Dct P w K mg T) : FnOk P w K mg base CX0 7 T.a_Handler_handle T.fd_Handler_handle ["self", "record"] (spHandleS T) := by
  have G_StreamHandler_filtered : FnOk P w K mg base CX0 4 _ _ _ (spSFilt T.C_StreamHandler) := ok_sfilt T Z
  have G_StreamHandler_emit : FnOk P w K mg base (L2.CX P w) 6 _ _ _ (spEmit T) := ok_emit T Z
  refine T.F_Handler_handle.ok sc_Handler_handle (fun vs H Q E h => ?_) (fun cdv A outer s H vs Q E hr h => ?_)
  · obtain ⟨x, dx, y, dy, fl, r, dr, g, e, Y, n, l, ln, c, v, m, z, st, ks, b, rfl, _⟩ := h.out
    rfl
  · obtain ⟨x, dx, y, dy, fl, r, dr, g, e, Y, n, l, ln, c, v, m, z, st, ks, b, rfl, hx, hf, hy, hr1, hg, hz, hs, hc, S, b1, b2, hl, k⟩ := h.out
    refine ⟨_, (pss_cons (ps_set (i := 2) sc_Handler_handle.nd rfl (by first | exact Or.inl rfl | exact Or.inr rfl) (pe_meth (pv 0) T.o_StreamHandler.cl T.Me_StreamHandler_filtered G_StreamHandler_filtered (hr.mono (by first | decide | omega)) T.b_StreamHandler_filtered .nil pass0 (pa_cons (pv 1) pa_nil)))
  (pss_cons (ps_if (pt_cmpR op_isN (pv 2) pe_non (nomark _))
    (pss_one (ps_ret pe_bl))
    pss_nil)
  (pss_cons (ps_try_thru0 (pss_one (ps_expr (pe_meth (pv 0) T.o_StreamHandler.cl T.Me_StreamHandler_emit G_StreamHandler_emit (hr.mono (by first | decide | omega)) T.b_StreamHandler_emit .nil passes_no (pa_cons (pv 2) pa_nil)))))
  (pss_one (ps_ret pe_bl))))), ?_⟩
    walk_at "sx"
    refine .a ⟨x, dx, fl, r, _, rfl, hx, rfl, hf, ?_⟩
    walk_at "sx"
    refine .a ⟨x, dx, y, dy, fl, r, dr, g, e, Y, n, l, ln, c, v, m, z, st, ks, b, rfl, hx, hy, hr1, hg, hz, hs, hc, S, b1, b2, hl, fun H' wr pa S' w0 p0 fr => ?_⟩
    exact k H' wr pa S' w0 p0 fr
theorem ok_shandle (T : Txt K mg) (Z : Dct P w K mg T) : FnOk P w K mg base CX0 8 T.a_StreamHandler_handle T.fd_StreamHandler_handle ["self", "record"] (spHandleS T) := by
  have G_super : FnOk P w K mg base CX0 7 _ _ _ (spHandleS T) := ok_handleS T Z
  refine T.F_StreamHandler_handle.ok0 (sf := "self") Z.top sc_StreamHandler_handle rfl rfl rfl rfl rfl (fun vs H Q E h => ?_) (fun cc cda A outer s H vs Q E hr h => ?_)
  · obtain ⟨x, dx, y, dy, fl, r, dr, g, e, Y, n, l, ln, c, v, m, z, st, ks, b, rfl, _⟩ := h.out
    rfl
  · obtain ⟨x, dx, y, dy, fl, r, dr, g, e, Y, n, l, ln, c, v, m, z, st, ks, b, rfl, hx, rest⟩ := h.out
    refine ⟨_, fun SD => (SuX.pssA_one (SuX.psA_ret (SuX.peA_sup (i := 0) SD T.SM_StreamHandler_handle G_super (hr.mono (by first | decide | omega)) T.b_Handler_handle .nil pass0 rfl (pa_cons (pv 1) pa_nil)))), ?_⟩
    refine ⟨x, dx, _, rfl, hx, ?_⟩
    walk_at "sx"
    exact .a ⟨x, dx, y, dy, fl, r, dr, g, e, Y, n, l, ln, c, v, m, z, st, ks, b, rfl, hx, rest⟩
/-! ### handlers of files -/
def sA : List Nat := [97]
def fFh (y fl : Addr) (z l : List Nat) (o : Bool) : List (Str × V) := [("yard", .ref y), ("level", .int 0), ("formatter", .non), ("filters", .ref fl), ("name", .non), ("terminator", .str (SX.S z)), ("closed", .bl false), ("filename", .str (SX.S l)), ("mode", .str (SX.S sA)), ("delay", .bl true), ("opened", .bl o)]
theorem fFh_put (y fl : Addr) (z z' l : List Nat) (o : Bool) : putF "terminator" (.str (SX.S z')) (fFh y fl z l o) = fFh y fl z' l o := rfl
theorem fFh_open (y fl : Addr) (z l : List Nat) (o : Bool) : putF "opened" (.bl true) (fFh y fl z l o) = fFh y fl z l true := rfl
theorem ocF (T : Txt K mg) : OC K T.C_FileHandler hF := ⟨T.o_FileHandler.cl, fun f hf => T.o_FileHandler.na f (List.mem_append_left (as := hF) ["filename", "mode", "delay", "opened"] hf)⟩
def spMode : Sp := fun vs H Q _ => Hd (vs = [.str (SX.S sA)] ∧ Q (.bl true) H)
theorem ok_mode (T : Txt K mg) : FnOk P w K mg base CX0 1 T.f_is_mode T.fd_is_mode ["thing"] spMode := by
  refine T.D_is_mode.F.ok sc_is_mode (fun vs H Q E h => ?_) (fun cdv A outer s H vs Q E hr h => ?_)
  · obtain ⟨rfl, _⟩ := h.out
    rfl
  · obtain ⟨rfl, k⟩ := h.out
    refine ⟨_, (pss_one (ps_ret (pe_or (pe_cmpR SL.op_eqL (pv 0) (SL.pe_strL [97] (by decide +kernel)) (nomark _)) (pe_one (pe_cmpR SL.op_eqL (pv 0) (SL.pe_strL [119] (by decide +kernel)) (nomark _)))))), ?_⟩
    walk_at "sx"
    exact k
theorem ok_fterm (T : Txt K mg) (Z : Dct P w K mg T) : FnOk P w K mg base CX0 2 T.a_FileHandler_setTerminator T.fd_FileHandler_setTerminator ["self", "text"] (spSTerm T.C_FileHandler) := by
  have G_super : FnOk P w K mg base CX0 1 _ _ _ (spHTerm K) := ok_hterm T
  refine T.F_FileHandler_setTerminator.ok0 (sf := "self") Z.top sc_FileHandler_setTerminator rfl rfl rfl rfl rfl (fun vs H Q E h => ?_) (fun cc cda A outer s H vs Q E hr h => ?_)
  · obtain ⟨x, dx, v, fs, rfl, _⟩ := h.out
    rfl
  · obtain ⟨x, dx, v, fs, rfl, hx, hz, k⟩ := h.out
    refine ⟨_, fun SD => (SuX.pssA_one (SuX.psA_expr (SuX.peA_sup (i := 0) SD T.SM_FileHandler_setTerminator G_super (hr.mono (by first | decide | omega)) T.b_Handler_setTerminator .nil pass0 rfl (pa_cons (pv 1) pa_nil)))), ?_⟩
    refine ⟨x, dx, fs, rfl, hx, ?_⟩
    walk_at "st"
    exact .a ⟨x, dx, T.C_FileHandler, v, fs, rfl, hx, ocF T, hz, k⟩
theorem ok_ffilt (T : Txt K mg) (Z : Dct P w K mg T) : FnOk P w K mg base CX0 4 T.a_FileHandler_filtered T.fd_FileHandler_filtered ["self", "record"] (spSFilt T.C_FileHandler) := by
  have G_super : FnOk P w K mg base CX0 3 _ _ _ (spHFilt K) := ok_hfilt T
  refine T.F_FileHandler_filtered.ok0 (sf := "self") Z.top sc_FileHandler_filtered rfl rfl rfl rfl rfl (fun vs H Q E h => ?_) (fun cc cda A outer s H vs Q E hr h => ?_)
  · obtain ⟨x, dx, fl, r, fs, rfl, _⟩ := h.out
    rfl
  · obtain ⟨x, dx, fl, r, fs, rfl, hx, lf, hf, k⟩ := h.out
    refine ⟨_, fun SD => (SuX.pssA_one (SuX.psA_ret (SuX.peA_sup (i := 0) SD T.SM_FileHandler_filtered G_super (hr.mono (by first | decide | omega)) T.b_Handler_filtered .nil pass0 rfl (pa_cons (pv 1) pa_nil)))), ?_⟩
    refine ⟨x, dx, fs, rfl, hx, ?_⟩
    walk_at "st"
    exact .a ⟨x, dx, T.C_FileHandler, fl, r, fs, rfl, hx, ocF T, lf, hf, k⟩
theorem ok_ffmt (T : Txt K mg) (Z : Dct P w K mg T) : FnOk P w K mg base (L2.CX P w) 4 T.a_FileHandler_formatted T.fd_FileHandler_formatted ["self", "record"] (spSFmt T.C_FileHandler T.C_LogRecord K) := by
  have G_super : FnOk P w K mg base (L2.CX P w) 3 _ _ _ (spHFmt T.C_LogRecord K) := ok_hfmt T Z
  refine T.F_FileHandler_formatted.ok (sf := "self") Z.top sc_FileHandler_formatted rfl rfl rfl rfl rfl (fun vs H Q E h => ?_) (fun cc cda A outer s H vs Q E hr h => ?_)
  · obtain ⟨x, dx, r, dr, g, e, n, l, ln, c, m, fs, rfl, _⟩ := h.out
    rfl
  · obtain ⟨x, dx, r, dr, g, e, n, l, ln, c, m, fs, rfl, hx, lf, hr1, hg, k⟩ := h.out
    refine ⟨_, fun SD => (SuX.pssA_one (SuX.psA_ret (SuX.peA_sup (i := 0) SD T.SM_FileHandler_formatted G_super (hr.mono (by first | decide | omega)) T.b_Handler_formatted .nil (passes_call (takes_of rfl rfl rfl rfl) (fun _ _ _ _ h => h)) rfl (pa_cons (pv 1) pa_nil)))), ?_⟩
    refine ⟨x, dx, fs, rfl, hx, ?_⟩
    walk_at "st"
    exact .a ⟨x, dx, T.C_FileHandler, r, dr, g, e, n, l, ln, c, m, fs, rfl, hx, ocF T, lf, hr1, hg, k⟩
def spLineF (C CL : Addr) (K : PySem.W.Frag) : Sp := fun vs H Q _ => Hd (∃ (x dx y fl r dr g e : Addr) (n l ln c : V) (m z st : List Nat) (o : Bool), vs = [.ref x, .ref r] ∧ H x = some (.ins C dx (fFh y fl z st o)) ∧ H r = some (.ins CL dr (fLr n l ln m g c e)) ∧ SqT K H g [] ∧ (m ++ z).length ≤ 100000 ∧ Q (.str (SX.S (m ++ z))) H)
theorem ok_lineF (T : Txt K mg) (Z : Dct P w K mg T) : FnOk P w K mg base (L2.CX P w) 5 T.a_Handler_line T.fd_Handler_line ["self", "record"] (spLineF T.C_FileHandler T.C_LogRecord K) := by
  have G_FileHandler_formatted : FnOk P w K mg base (L2.CX P w) 4 _ _ _ (spSFmt T.C_FileHandler T.C_LogRecord K) := ok_ffmt T Z
  refine T.F_Handler_line.okX sc_Handler_line (fun vs H Q E h => ?_) (fun cdv A outer s H vs Q E hr h => ?_)
  · obtain ⟨x, dx, y, fl, r, dr, g, e, n, l, ln, c, m, z, st, o, rfl, _⟩ := h.out
    rfl
  · obtain ⟨x, dx, y, fl, r, dr, g, e, n, l, ln, c, m, z, st, o, rfl, hx, hr1, hg, hz, k⟩ := h.out
    refine ⟨_, (pss_one (ps_ret (pe_op SL.op_addL (pe_meth (pv 0) T.o_FileHandler.cl T.Me_FileHandler_formatted G_FileHandler_formatted (hr.mono (by first | decide | omega)) T.b_FileHandler_formatted .nil (passes_call (takes_of rfl rfl rfl rfl) (fun _ _ _ _ h => h)) (pa_cons (pv 1) pa_nil)) (pe_fld (pv 0) rfl)))), ?_⟩
    walk_at "sx"
    refine .a ⟨x, dx, r, dr, g, e, n, l, ln, c, m, _, rfl, hx, rfl, hr1, hg, ?_⟩
    walk_at "sx"
    exact ⟨by rw [List.length_append] at hz; omega, k⟩
/-- the file is opened -/
def spOpen (T : Txt K mg) : Sp := fun vs H Q _ => Hd (∃ (x dx y dy fl : Addr) (Y : YA) (v : V) (z st : List Nat) (o : Bool) (ks : SMap) (b : Nat), vs = [.ref x] ∧ H x = some (.ins T.C_FileHandler dx (fFh y fl z st o)) ∧ H y = some (.ins T.C_Yard dy (fYd Y)) ∧
  H Y.fs = some (.ins T.C_Store Y.dfs (fSt Y.ck Y.fk)) ∧ H Y.ck = some (.ins T.C_Clock Y.dck [("shown", v)]) ∧ StAt T.C_Written H Y.fk ks b ∧ 1 ≤ b ∧ ks.length + 1 ≤ 1000 ∧ x ∉ ft ks ∧
  ∀ H' ks', StAt T.C_Written H' Y.fk ks' b → ks'.length ≤ ks.length + 1 → (∀ k, cont ks' k = if k = st then some (oldT ks st) else cont ks k) → (∀ a ∈ ft ks', H a = none ∨ a ∈ ft ks) → H' x = some (.ins T.C_FileHandler dx (fFh y fl z st true)) → FrS [x, Y.fk] H H' → Q .non H')
theorem ok_open (T : Txt K mg) : FnOk P w K mg base CX0 4 T.a_FileHandler_open_file T.fd_FileHandler_open_file ["self"] (spOpen T) := by
  have G_Store_has : FnOk P w K mg base CX0 1 _ _ _ (spHas T.C_Store) := ok_has T
  have G_Store_put : FnOk P w K mg base CX0 3 _ _ _ (spPut T.C_Store T.C_Written T.C_Clock) := ok_put T
  refine T.F_FileHandler_open_file.ok sc_FileHandler_open_file (fun vs H Q E h => ?_) (fun cdv A outer s H vs Q E hr h => ?_)
  · obtain ⟨x, dx, y, dy, fl, Y, v, z, st, o, ks, b, rfl, _⟩ := h.out
    rfl
  · obtain ⟨x, dx, y, dy, fl, Y, v, z, st, o, ks, b, rfl, hx, hy, hs, hc, S, b1, hl, nf, k⟩ := h.out
    have xk : x ≠ Y.fk := fun z => by rw [z, S.hk] at hx; cases hx
    refine ⟨_, (pss_cons (ps_if (PW.pt (pw_or (pt_cmpR SL.op_eqL (pe_fld (pv 0) rfl) (SL.pe_strL [119] (by decide +kernel)) (nomark _)) (pw_or1 (pt_not (pt_val (pe_meth (pe_fld (pe_fld (pv 0) rfl) rfl) T.o_Store.cl T.Me_Store_has G_Store_has (hr.mono (by first | decide | omega)) T.b_Store_has .nil pass0 (pa_cons (pe_fld (pv 0) rfl) pa_nil)))))))
    (pss_one (ps_expr (pe_meth (pe_fld (pe_fld (pv 0) rfl) rfl) T.o_Store.cl T.Me_Store_put G_Store_put (hr.mono (by first | decide | omega)) T.b_Store_put .nil pass0 (pa_cons (pe_fld (pv 0) rfl) (pa_cons (SL.pe_strL [] (by decide +kernel)) pa_nil)))))
    pss_nil)
  (pss_one (ps_fld (pv 0) pe_bl rfl))), ?_⟩
    walk_at "sx"
    refine .a ⟨Y.fs, Y.dfs, Y.ck, Y.fk, st, ks, rfl, hs, S.hk, ?_⟩
    cases e : getM ks st with
    | some u =>
      walk_at "sx"
      refine k _ ks (S.put' xk nf) (Nat.le_succ _) (fun k' => ?_) (fun a ha => .inr ha) upd_same ((FrS.refl _ _).put (by simp))
      by_cases q : k' = st
      · rw [if_pos q, q]; unfold cont oldT; rw [e]; rfl
      · rw [if_neg q]
    | none =>
      walk_at "sx"
      refine .a ⟨Y.fs, Y.dfs, Y.ck, Y.dck, Y.fk, v, st, [], ks, b, rfl, hs, hc, S, b1, by simp, hl, fun H' wr pa S' w0 p0 fr => ?_⟩
      have hx' := fr x _ (by simp only [List.mem_singleton]; exact xk) hx
      have nf' : x ∉ ft (putM ks st ⟨wr, pa, []⟩) := fun z => by
        rcases ft_put S.kd x z with q | q | q
        · rw [q] at hx; rw [show H wr = none from w0] at hx; cases hx
        · rw [q] at hx; rw [show H pa = none from p0] at hx; cases hx
        · exact nf q
      walk_at "sx"
      refine k _ _ (S'.put' xk nf') putM_len (fun k' => ?_) (fun a ha => ?_) upd_same ((fr.mono (by simp)).put (by simp))
      · rw [cont_put, show oldT ks st = [] by unfold oldT; rw [e]]
      · rcases ft_put S.kd a ha with q | q | q
        · exact .inl (by rw [q]; exact w0)
        · exact .inl (by rw [q]; exact p0)
        · exact .inr q
end
end My

namespace My
open PySem PySem.Spec PyProof.Rows L2 SuX
local macro_rules | `(tactic| walk_at "hp") => `(tactic| first | assumption | exact upd_same | (refine Eq.trans (upd_ne (by first | assumption | (apply Ne.symm; assumption))) ?_; walk_at "hp"))
local macro_rules | `(tactic| walk_at "ixl") => `(tactic| (refine' ⟨_, ?xs, _, ?vv, rfl, rfl, SqL.of ?hh, ?aa, ?qq⟩; (case hh => walk_at "hp"); (case aa => rfl)))
local macro_rules | `(tactic| walk_at "setl") => `(tactic| (refine' ⟨_, ?xs, _, ?jj, rfl, rfl, ?hh, ?aa, ?qq⟩; (case hh => walk_at "hp"); (case aa => rfl)))
local macro_rules | `(tactic| walk_at "cond") => `(tactic| first | exact ⟨_, rfl⟩ | exact Nat.le_of_lt (small1000 (Nat.le_of_ble_eq_true rfl)) | decide | omega | (dsimp only; omega) | exact ⟨by decide, by decide⟩ | exact Or.inr ⟨by decide, by decide⟩ | exact Or.inl ⟨by decide, by decide⟩ | exact ⟨by decide, by decide, by decide⟩ | exact ⟨by omega, by omega⟩ | exact ⟨by omega, by omega, by omega⟩ | (simp only [List.length_cons, List.length_nil, List.length_append, List.length_take, List.length_drop]; omega) | (refine ⟨?_, ?_, ?_⟩ <;> first | decide | omega | (simp only [List.length_cons, List.length_nil, List.length_append, List.length_take, List.length_drop, Option.getD_some, Option.getD_none]; omega)))
local macro_rules | `(tactic| walk_at "st") => `(tactic| repeat (first | refine ⟨_, rfl, ?_⟩ | refine ⟨_, _, rfl, rfl, ?_⟩ | walk_at "ixl" | walk_at "setl" | refine ⟨rfl, ?_⟩ | refine Or.inl ⟨_, rfl, ?_⟩ | refine And.intro (by walk_at "cond") ?_))
local macro_rules | `(tactic| walk_at "cls") => `(tactic| first | exact OC.cl (by assumption) | exact (‹Txt _ _›).o_Clock.cl | exact (‹Txt _ _›).o_LevelTable.cl | exact (‹Txt _ _›).o_Store.cl | exact (‹Txt _ _›).o_Written.cl | exact (‹Txt _ _›).o_Roster.cl | exact (‹Txt _ _›).o_Handler.cl | exact (‹Txt _ _›).o_Logger.cl | exact (‹Txt _ _›).o_LoggerTree.cl | exact (‹Txt _ _›).o_StreamHandler.cl | exact (‹Txt _ _›).o_FileHandler.cl | exact (‹Txt _ _›).o_LogRecord.cl | exact (‹Txt _ _›).o_Yard.cl)
local macro_rules | `(tactic| walk_at "na") => `(tactic| first | (refine na_of (by assumption) ?_; decide) | (refine na_of (‹Txt _ _›).o_Clock ?_; decide) | (refine na_of (‹Txt _ _›).o_LevelTable ?_; decide) | (refine na_of (‹Txt _ _›).o_Store ?_; decide) | (refine na_of (‹Txt _ _›).o_Written ?_; decide) | (refine na_of (‹Txt _ _›).o_Roster ?_; decide) | (refine na_of (‹Txt _ _›).o_Handler ?_; decide) | (refine na_of (‹Txt _ _›).o_Logger ?_; decide) | (refine na_of (‹Txt _ _›).o_LoggerTree ?_; decide) | (refine na_of (‹Txt _ _›).o_StreamHandler ?_; decide) | (refine na_of (‹Txt _ _›).o_FileHandler ?_; decide) | (refine na_of (‹Txt _ _›).o_LogRecord ?_; decide) | (refine na_of (‹Txt _ _›).o_Yard ?_; decide))
local macro_rules | `(tactic| walk_at "fld") => `(tactic| (refine' ⟨_, _, _, _, ?vv, rfl, ?hh, ?cc, ?nn, ?ll, ?qq⟩; (case hh => walk_at "hp"); (case cc => walk_at "cls"); (case nn => walk_at "na"); (case ll => exact rfl)))
local macro_rules | `(tactic| walk_at "sto") => `(tactic| (refine' ⟨_, _, _, _, rfl, ?hh, ?cc, ?nn, ?ll, ?qq⟩; (case hh => walk_at "hp"); (case cc => walk_at "cls"); (case nn => walk_at "na"); (case ll => first | exact Nat.le_of_ble_eq_true rfl | assumption)))
local macro_rules | `(tactic| walk_at "mth") => `(tactic| (refine' ⟨_, _, _, rfl, ?hh, ?ll, ?qq⟩; (case hh => walk_at "hp"); (case ll => exact rfl)))
local macro_rules | `(tactic| walk_at "sx") => `(tactic| repeat (first | refine ⟨_, rfl, ?_⟩ | refine ⟨_, _, rfl, rfl, ?_⟩ | walk_at "ixl" | walk_at "setl" | refine ⟨rfl, ?_⟩ | refine Or.inl ⟨_, rfl, ?_⟩ | walk_at "fld" | walk_at "sto" | walk_at "mth" | refine And.intro (by walk_at "cond") ?_))
section
variable {P : Program} {w : World} {K : PySem.W.Frag} {mg : Str → Option Value} {base : Heap}
/-- a record to a file -/
def spFEmit (T : Txt K mg) : Sp := fun vs H Q _ => Hd (∃ (x dx y dy fl r dr g e : Addr) (Y : YA) (n l ln c v : V) (m z st : List Nat) (o : Bool) (ks : SMap) (b : Nat), vs = [.ref x, .ref r] ∧ H x = some (.ins T.C_FileHandler dx (fFh y fl z st o)) ∧ H y = some (.ins T.C_Yard dy (fYd Y)) ∧ H r = some (.ins T.C_LogRecord dr (fLr n l ln m g c e)) ∧ H g = some (.tup []) ∧ (m ++ z).length ≤ 100000 ∧
  H Y.fs = some (.ins T.C_Store Y.dfs (fSt Y.ck Y.fk)) ∧ H Y.ck = some (.ins T.C_Clock Y.dck [("shown", v)]) ∧ StAt T.C_Written H Y.fk ks b ∧ 1 ≤ b ∧ b ≤ 100000 ∧ ks.length + 2 ≤ 1000 ∧
  (∀ a ∈ ft ks, a ≠ x ∧ a ≠ y ∧ a ≠ r ∧ a ≠ Y.fs ∧ a ≠ Y.ck) ∧ (x ≠ y ∧ x ≠ r ∧ x ≠ Y.fs ∧ x ≠ Y.ck) ∧
  ∀ H' ks', StAt T.C_Written H' Y.fk ks' (b + 1) → ks'.length ≤ ks.length + 2 → (∀ k, cont ks' k = if k = st then some (oldT ks st ++ (m ++ z)) else cont ks k) → (∀ a ∈ ft ks', H a = none ∨ a ∈ ft ks) → H' x = some (.ins T.C_FileHandler dx (fFh y fl z st true)) → FrS (x :: Y.fk :: ft ks) H H' → Q .non H')
theorem ok_femit (T : Txt K mg) (Z : Dct P w K mg T) : FnOk P w K mg base (L2.CX P w) 6 T.a_FileHandler_emit T.fd_FileHandler_emit ["self", "record"] (spFEmit T) := by
  have G_FileHandler_line : FnOk P w K mg base (L2.CX P w) 5 _ _ _ (spLineF T.C_FileHandler T.C_LogRecord K) := ok_lineF T Z
  have G_FileHandler_open_file : FnOk P w K mg base CX0 4 _ _ _ (spOpen T) := ok_open T
  have G_Store_write : FnOk P w K mg base CX0 4 _ _ _ (spWrite T.C_Store T.C_Written T.C_Clock) := ok_write T
  refine T.F_FileHandler_emit.okX sc_FileHandler_emit (fun vs H Q E h => ?_) (fun cdv A outer s H vs Q E hr h => ?_)
  · obtain ⟨x, dx, y, dy, fl, r, dr, g, e, Y, n, l, ln, c, v, m, z, st, o, ks, b, rfl, _⟩ := h.out
    rfl
  · obtain ⟨x, dx, y, dy, fl, r, dr, g, e, Y, n, l, ln, c, v, m, z, st, o, ks, b, rfl, hx, hy, hr1, hg, hz, hs, hc, S, b1, b2, hl, ap, ⟨xy, xr, xs, xc⟩, k⟩ := h.out
    have xk : x ≠ Y.fk := fun q => by rw [q, S.hk] at hx; cases hx
    have nk : ∀ {a : Addr} {C d fs}, H a = some (HO.ins C d fs) → a ≠ Y.fk := fun {a C d fs} h q => by rw [q, S.hk] at h; cases h
    have gx : g ≠ x := fun q => by rw [q, hx] at hg; cases hg
    have gk : g ≠ Y.fk := fun q => by rw [q, S.hk] at hg; cases hg
    refine ⟨_, (pss_cons (ps_if (pt_not (pt_val (pe_fld (pv 0) rfl)))
    (pss_cons (ps_if (PW.pt (pw_and (pt_val (pe_fld (pv 0) rfl)) (pw_and1 (pt_cmpR SL.op_eqL (pe_fld (pv 0) rfl) (SL.pe_strL [119] (by decide +kernel)) (nomark _)))))
    (pss_one ps_retN)
    pss_nil)
  (pss_one (ps_expr (pe_meth0 (pv 0) T.o_FileHandler.cl T.Me_FileHandler_open_file G_FileHandler_open_file (hr.mono (by first | decide | omega)) T.b_FileHandler_open_file .nil pass0))))
    pss_nil)
  (pss_one (ps_expr (pe_meth (pe_fld (pe_fld (pv 0) rfl) rfl) T.o_Store.cl T.Me_Store_write G_Store_write (hr.mono (by first | decide | omega)) T.b_Store_write .nil pass0 (pa_cons (pe_fld (pv 0) rfl) (pa_cons (pe_meth (pv 0) T.o_FileHandler.cl T.Me_FileHandler_line G_FileHandler_line (hr.mono (by first | decide | omega)) T.b_FileHandler_line .nil (passes_call (takes_of rfl rfl rfl rfl) (fun _ _ _ _ h => h)) (pa_cons (pv 1) pa_nil)) pa_nil)))))), ?_⟩
    cases o with
    | true =>
      walk_at "sx"
      refine .a ⟨x, dx, y, fl, r, dr, g, e, n, l, ln, c, m, z, st, true, rfl, hx, hr1, SqT.of hg, hz, ?_⟩
      walk_at "sx"
      refine .a ⟨Y.fs, Y.dfs, Y.ck, Y.dck, Y.fk, v, st, m ++ z, ks, b, rfl, hs, hc, S, b1, b2, hz, by omega, fun H' wr pa S' w0 p0 fr => ?_⟩
      refine k H' _ S' (Nat.le_trans putM_len (by omega)) (fun k' => cont_put k' ks) (fun a ha => ?_) (fr x _ (by simp only [List.mem_cons, not_or]; exact ⟨xk, fun q => (ap x q).1 rfl⟩) hx) (fr.mono fun b hb => .inl (List.mem_cons_of_mem _ hb))
      rcases ft_put S.kd a ha with q | q | q
      · rw [q]; exact w0
      · rw [q]; exact p0
      · exact .inr q
    | false =>
      walk_at "sx"
      refine .a ⟨x, dx, y, dy, fl, Y, v, z, st, false, ks, b, rfl, hx, hy, hs, hc, S, b1, by omega, fun q => (ap x q).1 rfl, fun H1 ks1 S1 l1 c1 t1 x1 fr1 => ?_⟩
      have of1 : ∀ {a : Addr} {u : HO}, a ≠ x → a ≠ Y.fk → H a = some u → H1 a = some u := fun {a u} q1 q2 q => fr1 a u (by simp [q1, q2]) q
      have y1 := of1 xy.symm (nk hy) hy
      have r1 := of1 xr.symm (nk hr1) hr1
      have s1 := of1 xs.symm (nk hs) hs
      have cc1 := of1 xc.symm (nk hc) hc
      have g1 := of1 gx gk hg
      walk_at "sx"
      refine .a ⟨x, dx, y, fl, r, dr, g, e, n, l, ln, c, m, z, st, true, rfl, x1, r1, SqT.of g1, hz, ?_⟩
      walk_at "sx"
      refine .a ⟨Y.fs, Y.dfs, Y.ck, Y.dck, Y.fk, v, st, m ++ z, ks1, b, rfl, s1, cc1, S1, b1, b2, hz, by omega, fun H' wr pa S' w0 p0 fr => ?_⟩
      have eo : oldT ks1 st = oldT ks st := by rw [oldT_cont, c1, if_pos rfl]; rfl
      have nx1 : x ∉ ft ks1 := fun q => by
        rcases t1 x q with z | z
        · rw [z] at hx; cases hx
        · exact (ap x z).1 rfl
      have none0 : ∀ a, H1 a = none → H a = none := fun a ha => by
        cases q : H a with
        | none => rfl
        | some u =>
          by_cases q1 : a = x
          · rw [q1, x1] at ha; cases ha
          · by_cases q2 : a = Y.fk
            · rw [q2, S1.hk] at ha; cases ha
            · rw [of1 q1 q2 q] at ha; cases ha
      have ftn : ∀ a, a ∈ ft ks1 → H a = none ∨ a ∈ ft ks := t1
      refine k H' _ S' (Nat.le_trans putM_len (by omega)) (fun k' => ?_) (fun a ha => ?_) (fr x _ (by simp only [List.mem_cons, not_or]; exact ⟨xk, nx1⟩) x1) ?_
      · rw [cont_put]
        by_cases q : k' = st
        · rw [if_pos q, if_pos q, eo]
        · rw [if_neg q, if_neg q, c1, if_neg q]
      · rcases ft_put S1.kd a ha with q | q | q
        · rw [q]
          exact w0.elim (fun z => .inl (none0 _ z)) (ftn _)
        · rw [q]
          exact p0.elim (fun z => .inl (none0 _ z)) (ftn _)
        · exact ftn _ q
      · refine fun a u q e => fr a u (fun z => ?_) (of1 (fun z => q (by rw [z]; exact List.mem_cons_self)) (fun z => q (by rw [z]; exact List.mem_cons_of_mem _ List.mem_cons_self)) e)
        rcases List.mem_cons.mp z with z | z
        · exact q (by rw [z]; exact List.mem_cons_of_mem _ List.mem_cons_self)
        · rcases ftn a z with z | z
          · rw [z] at e; cases e
          · exact q (List.mem_cons_of_mem _ (List.mem_cons_of_mem _ z))
def spHandleF (T : Txt K mg) : Sp := fun vs H Q _ => Hd (∃ (x dx y dy fl r dr g e : Addr) (Y : YA) (n l ln c v : V) (m z st : List Nat) (o : Bool) (ks : SMap) (b : Nat), vs = [.ref x, .ref r] ∧ H x = some (.ins T.C_FileHandler dx (fFh y fl z st o)) ∧ H fl = some (.lst []) ∧ H y = some (.ins T.C_Yard dy (fYd Y)) ∧ H r = some (.ins T.C_LogRecord dr (fLr n l ln m g c e)) ∧ H g = some (.tup []) ∧ (m ++ z).length ≤ 100000 ∧
  H Y.fs = some (.ins T.C_Store Y.dfs (fSt Y.ck Y.fk)) ∧ H Y.ck = some (.ins T.C_Clock Y.dck [("shown", v)]) ∧ StAt T.C_Written H Y.fk ks b ∧ 1 ≤ b ∧ b ≤ 100000 ∧ ks.length + 2 ≤ 1000 ∧
  (∀ a ∈ ft ks, a ≠ x ∧ a ≠ y ∧ a ≠ r ∧ a ≠ Y.fs ∧ a ≠ Y.ck) ∧ (x ≠ y ∧ x ≠ r ∧ x ≠ Y.fs ∧ x ≠ Y.ck) ∧
  ∀ H' ks', StAt T.C_Written H' Y.fk ks' (b + 1) → ks'.length ≤ ks.length + 2 → (∀ k, cont ks' k = if k = st then some (oldT ks st ++ (m ++ z)) else cont ks k) → (∀ a ∈ ft ks', H a = none ∨ a ∈ ft ks) → H' x = some (.ins T.C_FileHandler dx (fFh y fl z st true)) → FrS (x :: Y.fk :: ft ks) H H' → Q (.bl true) H')
theorem ok_handleF (T : Txt K mg) (Z : Dct P w K mg T) : FnOk P w K mg base CX0 7 T.a_Handler_handle T.fd_Handler_handle ["self", "record"] (spHandleF T) := by
  have G_FileHandler_filtered : FnOk P w K mg base CX0 4 _ _ _ (spSFilt T.C_FileHandler) := ok_ffilt T Z
  have G_FileHandler_emit : FnOk P w K mg base (L2.CX P w) 6 _ _ _ (spFEmit T) := ok_femit T Z
  refine T.F_Handler_handle.ok sc_Handler_handle (fun vs H Q E h => ?_) (fun cdv A outer s H vs Q E hr h => ?_)
  · obtain ⟨x, dx, y, dy, fl, r, dr, g, e, Y, n, l, ln, c, v, m, z, st, o, ks, b, rfl, _⟩ := h.out
    rfl
  · obtain ⟨x, dx, y, dy, fl, r, dr, g, e, Y, n, l, ln, c, v, m, z, st, o, ks, b, rfl, hx, hf, rest⟩ := h.out
    refine ⟨_, (pss_cons (ps_set (i := 2) sc_Handler_handle.nd rfl (by first | exact Or.inl rfl | exact Or.inr rfl) (pe_meth (pv 0) T.o_FileHandler.cl T.Me_FileHandler_filtered G_FileHandler_filtered (hr.mono (by first | decide | omega)) T.b_FileHandler_filtered .nil pass0 (pa_cons (pv 1) pa_nil)))
  (pss_cons (ps_if (pt_cmpR op_isN (pv 2) pe_non (nomark _))
    (pss_one (ps_ret pe_bl))
    pss_nil)
  (pss_cons (ps_try_thru0 (pss_one (ps_expr (pe_meth (pv 0) T.o_FileHandler.cl T.Me_FileHandler_emit G_FileHandler_emit (hr.mono (by first | decide | omega)) T.b_FileHandler_emit .nil passes_no (pa_cons (pv 2) pa_nil)))))
  (pss_one (ps_ret pe_bl))))), ?_⟩
    walk_at "sx"
    refine .a ⟨x, dx, fl, r, _, rfl, hx, rfl, hf, ?_⟩
    walk_at "sx"
    exact .a ⟨x, dx, y, dy, fl, r, dr, g, e, Y, n, l, ln, c, v, m, z, st, o, ks, b, rfl, hx, rest⟩
theorem ok_fhandle (T : Txt K mg) (Z : Dct P w K mg T) : FnOk P w K mg base CX0 8 T.a_FileHandler_handle T.fd_FileHandler_handle ["self", "record"] (spHandleF T) := by
  have G_super : FnOk P w K mg base CX0 7 _ _ _ (spHandleF T) := ok_handleF T Z
  refine T.F_FileHandler_handle.ok0 (sf := "self") Z.top sc_FileHandler_handle rfl rfl rfl rfl rfl (fun vs H Q E h => ?_) (fun cc cda A outer s H vs Q E hr h => ?_)
  · obtain ⟨x, dx, y, dy, fl, r, dr, g, e, Y, n, l, ln, c, v, m, z, st, o, ks, b, rfl, _⟩ := h.out
    rfl
  · obtain ⟨x, dx, y, dy, fl, r, dr, g, e, Y, n, l, ln, c, v, m, z, st, o, ks, b, rfl, hx, rest⟩ := h.out
    refine ⟨_, fun SD => (SuX.pssA_one (SuX.psA_ret (SuX.peA_sup (i := 0) SD T.SM_FileHandler_handle G_super (hr.mono (by first | decide | omega)) T.b_Handler_handle .nil pass0 rfl (pa_cons (pv 1) pa_nil)))), ?_⟩
    refine ⟨x, dx, _, rfl, hx, ?_⟩
    walk_at "sx"
    exact .a ⟨x, dx, y, dy, fl, r, dr, g, e, Y, n, l, ln, c, v, m, z, st, o, ks, b, rfl, hx, rest⟩
/-- a handler of a file is made, with delay -/
def spFile (C CR : Addr) (K : PySem.W.Frag) : Sp := fun vs H Q _ => Hd (∃ (x dx y CY dy r dr a b c : Addr) (l : List Nat) (fy : List (Str × V)) (hs : List V), vs = [.ref x, .ref y, .str (SX.S l), .str (SX.S sA), .bl true] ∧ H x = some (.ins C dx []) ∧ H y = some (.ins CY dy fy) ∧ Cls K CY ∧ NoAttr K CY "roster" ∧ fy.lookup ("roster" : Str) = some (V.ref r) ∧ x ≠ y ∧
  H r = some (.ins CR dr (fRo a b c)) ∧ x ≠ r ∧ H a = some (.lst hs) ∧ hs.length < sizeLine ∧
  ∀ H' fl, H' x = some (.ins C dx (fFh y fl [10] l false)) → H' fl = some (.lst []) → H fl = none → H' a = some (.lst (hs ++ [.ref x])) → SameY x a H H' → Q .non H')
theorem ok_file (T : Txt K mg) (Z : Dct P w K mg T) : FnOk P w K mg base (L2.CX P w) 3 T.a_FileHandler_init T.fd_FileHandler_init ["self", "yard", "filename", "mode", "delay"] (spFile T.C_FileHandler T.C_Roster K) := by
  have G_super : FnOk P w K mg base CX0 2 _ _ _ (spHandler T.C_Roster K) := ok_handler T
  have G_is_mode : FnOk P w K mg base CX0 1 _ _ _ spMode := ok_mode T
  have G_FileHandler_open_file : FnOk P w K mg base CX0 1 _ _ ["self"] spNo := ok_no T.F_FileHandler_open_file sc_FileHandler_open_file
  refine T.F_FileHandler_init.ok (sf := "self") Z.top sc_FileHandler___init__ rfl rfl rfl rfl rfl (fun vs H Q E h => ?_) (fun cc cda A outer s H vs Q E hr h => ?_)
  · obtain ⟨x, dx, y, CY, dy, r, dr, a, b, c, l, fy, hs, rfl, _⟩ := h.out
    rfl
  · obtain ⟨x, dx, y, CY, dy, r, dr, a, b, c, l, fy, hs, rfl, hx, hy, cY, nY, ly, xy, hr1, xr, ha, hz, k⟩ := h.out
    have oC := ocF T
    have hu := hu_of hr
    refine ⟨_, fun SD => (SuX.pssA_cons (SuX.PSA.of (ps_if (pt_not (pt_val (pe_call G_is_mode (hr.mono (by first | decide | omega)) rfl T.D_is_mode.g T.D_is_mode.F.kp T.D_is_mode.b .nil pass0 (pa_cons (pv 3) pa_nil))))
    (pss_one (ps_raise rfl (takes_of rfl rfl rfl rfl) (pmk_err T.E_BadMode hr (pa_cons (pv 3) pa_nil) rfl)))
    pss_nil))
  (SuX.pssA_cons (SuX.psA_expr (SuX.peA_sup (i := 0) SD T.SM_FileHandler_init G_super (hr.mono (by first | decide | omega)) T.b_Handler_init .nil pass0 rfl (pa_cons (pv 1) pa_nil)))
  (SuX.PSsA.of (pss_cons (ps_fld (pv 0) (pv 2) rfl)
  (pss_cons (ps_fld (pv 0) (pv 3) rfl)
  (pss_cons (ps_fld (pv 0) (pv 4) rfl)
  (pss_cons (ps_fld (pv 0) pe_bl rfl)
  (pss_one (ps_if (pt_not (pt_val (pv 4)))
    (pss_one (ps_expr (pe_meth0 (pv 0) T.o_FileHandler.cl T.Me_FileHandler_open_file G_FileHandler_open_file (hr.mono (by first | decide | omega)) T.b_FileHandler_open_file .nil pass0)))
    pss_nil))))))))), ?_⟩
    walk_at "sx"
    refine .a ⟨rfl, ?_⟩
    refine ⟨true, rfl, ?_⟩
    show if (!true) = true then _ else _
    refine if_false_of rfl ?_
    refine ⟨x, dx, _, rfl, hx, ?_⟩
    walk_at "sx"
    refine .a ⟨x, dx, T.C_FileHandler, y, CY, dy, r, dr, a, b, c, fy, hs, rfl, hx, oC, hy, cY, nY, ly, xy, hr1, xr, ha, hz, fun H1 fl x1 f1 f0 a1 s1 => ?_⟩
    have xf : x ≠ fl := ne_of_none hx f0
    have xa : x ≠ a := fun z => by rw [z, ha] at hx; cases hx
    walk_at "sx"
    exact k _ fl upd_same (by rw [upd_ne xf.symm, upd_ne xf.symm, upd_ne xf.symm, upd_ne xf.symm]; exact f1) f0 (by rw [upd_ne xa.symm, upd_ne xa.symm, upd_ne xa.symm, upd_ne xa.symm]; exact a1) (((s1.put).put).put).put
end
end My

namespace My
open PySem PySem.Spec PyProof.Rows L2 SuX
local macro_rules | `(tactic| walk_at "hp") => `(tactic| first | assumption | exact upd_same | (refine Eq.trans (upd_ne (by first | assumption | (apply Ne.symm; assumption))) ?_; walk_at "hp"))
local macro_rules | `(tactic| walk_at "ixl") => `(tactic| (refine' ⟨_, ?xs, _, ?vv, rfl, rfl, SqL.of ?hh, ?aa, ?qq⟩; (case hh => walk_at "hp"); (case aa => rfl)))
local macro_rules | `(tactic| walk_at "setl") => `(tactic| (refine' ⟨_, ?xs, _, ?jj, rfl, rfl, ?hh, ?aa, ?qq⟩; (case hh => walk_at "hp"); (case aa => rfl)))
local macro_rules | `(tactic| walk_at "cond") => `(tactic| first | exact ⟨_, rfl⟩ | exact Nat.le_of_lt (small1000 (Nat.le_of_ble_eq_true rfl)) | decide | omega | (dsimp only; omega) | exact ⟨by decide, by decide⟩ | exact Or.inr ⟨by decide, by decide⟩ | exact Or.inl ⟨by decide, by decide⟩ | exact ⟨by decide, by decide, by decide⟩ | exact ⟨by omega, by omega⟩ | exact ⟨by omega, by omega, by omega⟩ | (simp only [List.length_cons, List.length_nil, List.length_append, List.length_take, List.length_drop]; omega) | (refine ⟨?_, ?_, ?_⟩ <;> first | decide | omega | (simp only [List.length_cons, List.length_nil, List.length_append, List.length_take, List.length_drop, Option.getD_some, Option.getD_none]; omega)))
local macro_rules | `(tactic| walk_at "st") => `(tactic| repeat (first | refine ⟨_, rfl, ?_⟩ | refine ⟨_, _, rfl, rfl, ?_⟩ | walk_at "ixl" | walk_at "setl" | refine ⟨rfl, ?_⟩ | refine Or.inl ⟨_, rfl, ?_⟩ | refine And.intro (by walk_at "cond") ?_))
theorem szl {n : Nat} (h : n ≤ 100000) : n < sizeLine := Nat.lt_of_le_of_lt h (by decide)
theorem keep_put {H : Hp} {p : Addr} {o : HO} : ∀ b, b ≠ p → ∀ u, H b = some u → upd H p o b = some u := fun b hb u e => by rw [upd_ne hb]; exact e
/-! ### the stream of draws -/
structure StmA (H : Hp) (p q : Addr) (n : Int) (cs : List Int) (a c : Int) : Prop where
  hp : H p = some (.lst [.ref q, .int a, .int n, .int c])
  hq : H q = some (.lst (cs.map V.int))
  a0 : 0 ≤ a
  c0 : 0 ≤ c
  c1 : c < 2147483647
structure Stm (H : Hp) (p q : Addr) (n : Int) : Prop where
  ex : ∃ (cs : List Int) (a c : Int), StmA H p q n cs a c
  n0 : 0 ≤ n
  n1 : n ≤ 100000
theorem StmA.ne {H : Hp} {p q : Addr} {a n c : Int} {cs : List Int} (S : StmA H p q n cs a c) : p ≠ q := by
  intro e
  have h2 := S.hq
  rw [← e, S.hp] at h2
  cases cs with
  | nil => cases h2
  | cons x r => simp at h2
/-- all but the stream's two lists -/
def off (H : Hp) (p q : Addr) : Hp := fun b => if b = p ∨ b = q then none else H b
theorem off_p {H : Hp} {p q : Addr} {o : HO} : off (upd H p o) p q = off H p q := by
  funext b
  unfold off
  by_cases h : b = p ∨ b = q
  · rw [if_pos h, if_pos h]
  · rw [if_neg h, if_neg h, upd_ne (fun e => h (.inl e))]
theorem off_q {H : Hp} {p q : Addr} {o : HO} : off (upd H q o) p q = off H p q := by
  funext b
  unfold off
  by_cases h : b = p ∨ b = q
  · rw [if_pos h, if_pos h]
  · rw [if_neg h, if_neg h, upd_ne (fun e => h (.inr e))]
/-- something new -/
theorem off_new {H : Hp} {p q x : Addr} {o : HO} (hx : H x = none) : Same (off H p q) (off (upd H x o) p q) := by
  intro b u e
  unfold off at e ⊢
  by_cases h : b = p ∨ b = q
  · rw [if_pos h] at e; cases e
  · rw [if_neg h] at e ⊢
    rw [upd_ne (ne_of_none e hx)]
    exact e
def spDraw : Sp := fun vs H Q _ => Hd (∃ (p q : Addr) (n m : Int), vs = [.ref p, .int m] ∧ Stm H p q n ∧ n + 1 ≤ 100000 ∧ 0 < m ∧ m < 1000000 ∧
  ∀ (d n' : Int) (H' : Hp), 0 ≤ d → d < m → n' ≤ n + 1 → Stm H' p q n' → Same (off H p q) (off H' p q) → Q (.int d) H')
theorem eqvAll_nil (cs : List Int) : PyData.eqv (.list (cs.map PyData.int)) (.list []) = cs.isEmpty := by
  cases cs with
  | nil => rfl
  | cons x r => rfl
theorem canLay_ints : ∀ (cs : List Int), PyData.canLayAll0 (cs.map PyData.int) = true
  | [] => rfl
  | x :: r => by
    show (PyData.canLay0 (.int x) && PyData.canLayAll0 (r.map PyData.int)) = true
    rw [canLay_ints r]
    rfl
theorem depth_ints : ∀ (cs : List Int), PyData.depthAll (cs.map PyData.int) = 0
  | [] => rfl
  | x :: r => by
    show max (PyData.depth (.int x)) (PyData.depthAll (r.map PyData.int)) = 0
    rw [depth_ints r]
    rfl
theorem shaped_ints (cs : List Int) : SeqAt.shaped (.list (cs.map PyData.int)) = true := by
  show (PyData.canLayAll0 (cs.map PyData.int) && decide (PyData.depthAll (cs.map PyData.int) + 1 ≤ 64)) = true
  rw [canLay_ints, depth_ints]
  rfl
theorem dpAll_ints {K : PySem.W.Frag} {H : Hp} : ∀ (cs : List Int), DpAll K H (cs.map V.int) (cs.map PyData.int)
  | [] => .nil
  | x :: r => .cons (.int x) (dpAll_ints r)
theorem while_ex {c : TT} {tb : TS} {D : Ends} {σ : L2.St} {H : Hp} (Pv : Nat → L2.St → Hp → Prop) (Ex : L2.St → Hp → Prop) (h0 : ∃ m, Pv m σ H) (hfin : ∀ σ H, Ex σ H → D.nx σ H)
    (hs : ∀ (R : L2.St → Hp → Prop), (∀ σ H, Ex σ H → R σ H) → ∀ m σ H, Pv m σ H → ∀ NW : L2.St → Hp → Prop, NW = (fun σ' H' => Hd (∃ m', m' < m ∧ Pv m' σ' H')) →
      c σ H fun b H1 => if b = true then ∃ N : L2.St → Hp → Prop, (∀ σ' H', N σ' H' → ∃ m', m' < m ∧ Pv m' σ' H') ∧ tb { D with nx := N, ct := N, bk := R } σ H1 else R σ H1) : tWhile c tb D σ H :=
  ⟨Pv, h0, fun m σ H hp => hs D.nx hfin m σ H hp _ rfl⟩
theorem seqIndex0 {n : Nat} : seqIndex? 0 (n + 1) = some 0 := by
  unfold seqIndex?
  simp
def lenAt (H : Hp) (q : Addr) : Nat := match H q with
  | some (.lst xs) => xs.length
  | _ => 0
theorem lenAt_of {H : Hp} {q : Addr} {xs : List V} (h : H q = some (.lst xs)) : lenAt H q = xs.length := by
  unfold lenAt; rw [h]
/-! ### from the object's file: heaps -/
theorem off_same {H : Hp} {p q : Addr} : Same (off H p q) H := fun b o e => by
  unfold off at e
  by_cases h : b = p ∨ b = q
  · rw [if_pos h] at e; cases e
  · rw [if_neg h] at e; exact e
theorem off_mono {H H' : Hp} {p q : Addr} (h : Same H H') : Same (off H p q) (off H' p q) := fun b o e => by
  unfold off at e ⊢
  by_cases c : b = p ∨ b = q
  · rw [if_pos c] at e; cases e
  · rw [if_neg c] at e ⊢
    exact h _ _ e
theorem same_new {H : Hp} {x : Addr} {o : HO} (hx : H x = none) : Same H (upd H x o) := fun b u e => by
  rw [upd_ne (ne_of_none e hx)]
  exact e
theorem Stm.same {H H' : Hp} {p q : Addr} {n : Int} (S : Stm H p q n) (h : Same H H') : Stm H' p q n := by
  obtain ⟨⟨cs, a, c, SA⟩, n0, n1⟩ := S
  exact ⟨⟨cs, a, c, ⟨h _ _ SA.hp, h _ _ SA.hq, SA.a0, SA.c0, SA.c1⟩⟩, n0, n1⟩
/-- what is new since H0 -/
def nw (H0 H : Hp) : Hp := fun b => if (H0 b).isNone = true then H b else none
theorem nw_none {H0 H : Hp} {b : Addr} (h : H0 b = none) : nw H0 H b = H b := by
  unfold nw
  rw [h]
  rfl
theorem nw_some {H0 H : Hp} {b : Addr} {o : HO} (h : nw H0 H b = some o) : H0 b = none ∧ H b = some o := by
  unfold nw at h
  cases e : H0 b with
  | none => rw [e] at h; exact ⟨rfl, h⟩
  | some u => rw [e] at h; cases h
theorem nw_same {H0 H : Hp} : Same (nw H0 H) H := fun b o e => (nw_some e).2
/-- all but the stream stands, and what stood is there -/
structure Xt (H H' : Hp) (p q : Addr) : Prop where
  fr : Same (off H p q) (off H' p q)
  dm : ∀ b, H' b = none → H b = none
theorem Xt.refl {H : Hp} {p q : Addr} : Xt H H p q := ⟨Same.refl _, fun _ h => h⟩
theorem Xt.trans {H H1 H2 : Hp} {p q : Addr} (a : Xt H H1 p q) (b : Xt H1 H2 p q) : Xt H H2 p q := ⟨a.fr.trans b.fr, fun c h => a.dm c (b.dm c h)⟩
theorem Xt.new {H : Hp} {p q x : Addr} {o : HO} (hx : H x = none) : Xt H (upd H x o) p q := ⟨off_new hx, fun b h => by
  by_cases e : b = x
  · rw [e]; exact hx
  · rw [upd_ne e] at h; exact h⟩
theorem Xt.same {H H' : Hp} {p q : Addr} (h : Same H H') : Xt H H' p q := ⟨off_mono h, fun b e => h.free e⟩
/-- what is written at a place that is new since H -/
theorem Xt.put {H H' : Hp} {p q x : Addr} {o : HO} (a : Xt H H' p q) (hx : H x = none) : Xt H (upd H' x o) p q := ⟨fun b u e => by
  have hb : b ≠ x := fun z => by
    have := off_same _ _ e
    rw [z, hx] at this; cases this
  have q1 := a.fr _ _ e
  unfold off at q1 ⊢
  by_cases c : b = p ∨ b = q
  · rw [if_pos c] at q1; cases q1
  · rw [if_neg c] at q1 ⊢
    rw [upd_ne hb]; exact q1, fun b h => by
  by_cases e : b = x
  · rw [e]; exact hx
  · rw [upd_ne e] at h; exact a.dm b h⟩
theorem Xt.of {H H' : Hp} {p q : Addr} {n n' : Int} (S' : Stm H' p q n') (fr : Same (off H p q) (off H' p q)) : Xt H H' p q := ⟨fr, fun b h => by
  obtain ⟨⟨cs, a, c, SA⟩, _, _⟩ := S'
  cases e : H b with
  | none => rfl
  | some o =>
    by_cases z : b = p ∨ b = q
    · rcases z with rfl | rfl
      · rw [SA.hp] at h; cases h
      · rw [SA.hq] at h; cases h
    · have q1 : off H' p q b = some o := fr b o (by unfold off; rw [if_neg z]; exact e)
      rw [off_same _ _ q1] at h; cases h⟩
theorem Stm.there {H : Hp} {p q : Addr} {n : Int} (S : Stm H p q n) : H p ≠ none ∧ H q ≠ none := by
  obtain ⟨⟨cs, a, c, SA⟩, _, _⟩ := S
  exact ⟨by rw [SA.hp]; exact (fun z => nomatch z), by rw [SA.hq]; exact (fun z => nomatch z)⟩
/-- what is new stays behind draws -/
theorem nw_mono {H0 H H' : Hp} {p q : Addr} (hp : H0 p ≠ none) (hq : H0 q ≠ none) (fr : Same (off H p q) (off H' p q)) : Same (nw H0 H) (nw H0 H') := fun b o e => by
  obtain ⟨h0, h1⟩ := nw_some e
  rw [nw_none h0]
  have z : ¬ (b = p ∨ b = q) := fun z => by
    rcases z with rfl | rfl
    · exact hp h0
    · exact hq h0
  exact off_same _ _ (fr b o (by unfold off; rw [if_neg z]; exact h1))
/-- new since later, new since earlier -/
theorem nw_low {H0 H1 H : Hp} (dm : ∀ b, H1 b = none → H0 b = none) : Same (nw H1 H) (nw H0 H) := fun b o e => by
  obtain ⟨h0, h1⟩ := nw_some e
  rw [nw_none (dm b h0)]
  exact h1
theorem Xt.at {H H' : Hp} {p q b : Addr} {o : HO} (x : Xt H H' p q) (h : H b = some o) (hp : b ≠ p) (hq : b ≠ q) : H' b = some o :=
  off_same _ _ (x.fr b o (by unfold off; rw [if_neg (fun z => z.elim hp hq)]; exact h))
theorem Stm.put {H : Hp} {p q x : Addr} {n : Int} {o : HO} (S : Stm H p q n) (hp : x ≠ p) (hq : x ≠ q) : Stm (upd H x o) p q n := by
  obtain ⟨⟨cs, a, c, SA⟩, n0, n1⟩ := S
  exact ⟨⟨cs, a, c, ⟨by rw [upd_ne hp.symm]; exact SA.hp, by rw [upd_ne hq.symm]; exact SA.hq, SA.a0, SA.c0, SA.c1⟩⟩, n0, n1⟩
theorem nw_put {H0 H : Hp} {x : Addr} {o : HO} (hx : H0 x ≠ none) : nw H0 (upd H x o) = nw H0 H := by
  funext b
  unfold nw
  cases e : H0 b with
  | none =>
    have hb : b ≠ x := fun z => hx (by rw [← z]; exact e)
    simp [upd_ne hb]
  | some u => rfl
theorem off_at {H : Hp} {p q x : Addr} {n : Int} {o : HO} (S : Stm H p q n) (hx : H x = none) : off (upd H x o) p q x = some o := by
  obtain ⟨⟨cs, a, c, SA⟩, _, _⟩ := S
  unfold off
  rw [if_neg (fun h => by
    rcases h with rfl | rfl
    · rw [SA.hp] at hx; cases hx
    · rw [SA.hq] at hx; cases hx)]
  exact upd_same
theorem take_snoc {α : Type} {l : List α} {i : Nat} {x : α} (h : l[i]? = some x) : l.take (i + 1) = l.take i ++ [x] := by
  obtain ⟨h1, h2⟩ := List.getElem?_eq_some_iff.mp h
  rw [← h2, List.take_append_getElem h1]
theorem same_put {H H' : Hp} {x : Addr} {o : HO} (h : Same H H') (hx : H x = none) : Same H (upd H' x o) := fun b u e => by
  rw [upd_ne (ne_of_none e hx)]
  exact h _ _ e
theorem nw_step {H0 H H' : Hp} (h : Same H H') : Same (nw H0 H) (nw H0 H') := fun b o e => by
  obtain ⟨e1, e2⟩ := nw_some e
  rw [nw_none e1]
  exact h _ _ e2
section
variable {P : Program} {w : World} {K : PySem.W.Frag} {mg : Str → Option Value} {base : Heap}
theorem ok_draw (T : Txt K mg) : FnOk P w K mg base CX0 1 T.f__law_draw T.fd__law_draw ["_law_stream", "_law_many"] spDraw := by
  refine T.D__law_draw.F.ok sc__law_draw (fun vs H Q E h => ?_) (fun cdv A outer s H vs Q E hr h => ?_)
  · obtain ⟨p, q, n, m, rfl, _⟩ := h.out
    rfl
  · obtain ⟨p, q, n, m, rfl, S, hn, hm, hm2, k⟩ := h.out
    have hu64 := hr.units
    refine ⟨_, (pss_cons (ps_while PassesOwn.never (PW.pt (pw_and (pt_cmpR op_eq (pe_ix ix_list (pv 0) pe_int (fun _ _ => rfl)) pe_int (nomark _)) (pw_and1 (pt_cmpR (op_neD hu64) (pe_ix ix_list (pv 0) pe_int (fun _ _ => rfl)) (pe_lst pa_nil) (nomark _)))))
    (pss_cons (ps_asg (pe_bm PySem.F.plainAttrs_list PySem.F.slot_list_pop PySem.F.type_list_pop mt_popAt (pe_ix ix_list (pv 0) pe_int (fun _ _ => rfl)) (pa_cons pe_int pa_nil)) (pg_sub (pv 0) pe_int set_list (fun _ => rfl)))
  (pss_one (ps_if (pt_cmpR op_lt (pe_ix ix_list (pv 0) pe_int (fun _ _ => rfl)) (pe_op op_pow pe_int pe_int) (nomark _))
    (pss_cons (ps_asg (pe_op op_mod (pe_callTy call_int1 (by rfl) T.B.n_int (by decide +kernel) (pa_cons (pe_op op_add (pe_op op_add (pe_op op_mul (pe_ix ix_list (pv 0) pe_int (fun _ _ => rfl)) pe_int) (pe_ix ix_list (pv 0) pe_int (fun _ _ => rfl))) pe_int) pa_nil)) pe_int) (pg_sub (pv 0) pe_int set_list (fun _ => rfl)))
  (pss_one (ps_asg pe_int (pg_sub (pv 0) pe_int set_list (fun _ => rfl)))))
    pss_nil))))
  (pss_cons (ps_if (pt_cmpR op_gt (pe_ix ix_list (pv 0) pe_int (fun _ _ => rfl)) pe_int (nomark _))
    (pss_cons (ps_set (i := 2) sc__law_draw.nd rfl (by first | exact Or.inl rfl | exact Or.inr rfl) (pe_op op_mod (pe_callTy call_int1 (by rfl) T.B.n_int (by decide +kernel) (pa_cons (pe_ix ix_list (pv 0) pe_int (fun _ _ => rfl)) pa_nil)) (pv 1)))
  (pss_cons (ps_asg (pe_op op_fdiv (pe_ix ix_list (pv 0) pe_int (fun _ _ => rfl)) (pv 1)) (pg_sub (pv 0) pe_int set_list (fun _ => rfl)))
  (pss_one (ps_ret (pv 2)))))
    pss_nil)
  (pss_cons (ps_asg (pe_op op_add (pe_ix ix_list (pv 0) pe_int (fun _ _ => rfl)) pe_int) (pg_sub (pv 0) pe_int set_list (fun _ => rfl)))
  (pss_cons (ps_set (i := 3) sc__law_draw.nd rfl (by first | exact Or.inl rfl | exact Or.inr rfl) (pe_op op_mod (pe_callTy call_int1 (by rfl) T.B.n_int (by decide +kernel) (pa_cons (pe_op op_pow (pe_op op_add (pe_op op_add (pe_ix ix_list (pv 0) pe_int (fun _ _ => rfl)) (pe_op op_mul pe_int (pe_ix ix_list (pv 0) pe_int (fun _ _ => rfl)))) pe_int) pe_int) pa_nil)) pe_int))
  (pss_cons (ps_set (i := 4) sc__law_draw.nd rfl (by first | exact Or.inl rfl | exact Or.inr rfl) (pe_op op_mod (pe_callTy call_int1 (by rfl) T.B.n_int (by decide +kernel) (pa_cons (pe_op op_pow (pe_op op_add (pe_op op_add (pe_op op_mul (pv 3) pe_int) (pe_op op_mul (pe_op op_mul pe_int (pe_ix ix_list (pv 0) pe_int (fun _ _ => rfl))) (pe_ix ix_list (pv 0) pe_int (fun _ _ => rfl)))) pe_int) pe_int) pa_nil)) pe_int))
  (pss_one (ps_ret (pe_op op_mod (pe_callTy call_int1 (by rfl) T.B.n_int (by decide +kernel) (pa_cons (pv 4) pa_nil)) (pv 1))))))))), ?_⟩
    obtain ⟨⟨cs, a, c, SA⟩, n0, n1⟩ := S
    refine while_ex (fun l σ H1 => ∃ cs a c, cs.length = l ∧ σ = [some (.ref p), some (.int m), none, none, none] ∧ StmA H1 p q n cs a c ∧ Same (off H p q) (off H1 p q))
      (fun σ H1 => ∃ cs a c, σ = [some (.ref p), some (.int m), none, none, none] ∧ StmA H1 p q n cs a c ∧ Same (off H p q) (off H1 p q)) ⟨cs.length, cs, a, c, rfl, rfl, SA, Same.refl _⟩ ?_ ?_
    · rintro σ H1 ⟨cs, a, c, rfl, SA, fr⟩
      have hpq := SA.ne
      obtain ⟨hp, hq, a0, c0, c1⟩ := SA
      walk_at "st"
      by_cases ha : a > 0
      · refine if_true_of (decide_eq_true ha) ?_
        walk_at "st"
        refine k (a % m) n _ (Int.emod_nonneg _ (by omega)) (Int.emod_lt_of_pos _ hm) (by omega) ⟨⟨cs, a / m, c, ⟨upd_same, ?_, Int.ediv_nonneg a0 (by omega), c0, c1⟩⟩, n0, n1⟩ ?_
        · rw [upd_ne hpq.symm]; exact hq
        · rw [off_p]; exact fr
      · refine if_false_of (decide_eq_false ha) ?_
        walk_at "st"
        have sq0 : 0 ≤ (n + 1) * (n + 1) := Int.mul_nonneg (by omega) (by omega)
        have sq1 : (n + 1) * (n + 1) ≤ 100000 * 100000 := Int.mul_le_mul hn hn (by omega) (by omega)
        have sqe : 40503 * (n + 1) * (n + 1) = 40503 * ((n + 1) * (n + 1)) := Int.mul_assoc _ _ _
        refine ⟨Or.inr ⟨by omega, by omega⟩, ?_⟩
        walk_at "st"
        refine k _ (n + 1) _ (Int.emod_nonneg _ (by omega)) (Int.emod_lt_of_pos _ hm) (by omega) ⟨⟨cs, a, c, ⟨upd_same, ?_, a0, c0, c1⟩⟩, by omega, hn⟩ ?_
        · rw [upd_ne hpq.symm]; exact hq
        · rw [off_p]; exact fr
    · rintro R fin l σ H1 ⟨cs, a, c, rfl, rfl, SA, fr⟩ NW hNW
      have hpq := SA.ne
      obtain ⟨hp, hq, a0, c0, c1⟩ := SA
      walk_at "st"
      by_cases ha : a = 0
      · refine if_true_of (decide_eq_true (congrArg V.int ha)) ?_
        walk_at "st"
        intro x hx
        have xp : p ≠ x := ne_of_none hp hx
        have xq : q ≠ x := ne_of_none hq hx
        refine ⟨.list (cs.map PyData.int), .list [], .lst (SqL.of (by rw [upd_ne xq]; exact hq)) (dpAll_ints cs), .lst (SqL.of upd_same) .nil, shaped_ints cs, rfl, _, rfl, ?_⟩
        have fr2 : Same (off H p q) (off (upd H1 x (.lst [])) p q) := fr.trans (off_new hx)
        have hp2 : (upd H1 x (.lst [])) p = some (.lst [.ref q, .int a, .int n, .int c]) := by rw [upd_ne xp]; exact hp
        have hq2 : (upd H1 x (.lst [])) q = some (.lst (cs.map V.int)) := by rw [upd_ne xq]; exact hq
        generalize upd H1 x (.lst []) = H2 at fr2 hp2 hq2 ⊢
        cases cs with
        | nil =>
          refine if_false_of rfl ?_
          exact fin _ _ ⟨[], a, c, rfl, ⟨hp2, hq2, a0, c0, c1⟩, fr2⟩
        | cons z r =>
          refine if_true_of rfl ⟨NW, by rw [hNW]; exact fun _ _ => Hd.out, ?_⟩
          walk_at "st"
          refine ⟨.inl ⟨rfl, _, SqL.of hq2⟩, q, _, 0, 0, _, rfl, rfl, hq2, by decide, by decide, seqIndex0, rfl, ?_⟩
          walk_at "st"
          by_cases hz : z < 10 ^ 18
          · refine if_true_of (decide_eq_true hz) ?_
            walk_at "st"
            rw [hNW]; refine .a ⟨r.length, Nat.lt_succ_self _, r, 0, (c * 31 + z + 7) % 2147483647, rfl, rfl, ⟨upd_same, ?_, by decide, Int.emod_nonneg _ (by decide), Int.emod_lt_of_pos _ (by decide)⟩, ?_⟩
            · rw [upd_ne hpq.symm, upd_ne hpq.symm, upd_ne hpq.symm]; exact upd_same
            · rw [off_p, off_p, off_p, off_q]; exact fr2
          · refine if_false_of (decide_eq_false hz) ?_
            walk_at "st"
            rw [hNW]; refine .a ⟨r.length, Nat.lt_succ_self _, r, z, c, rfl, rfl, ⟨upd_same, ?_, by omega, c0, c1⟩, ?_⟩
            · rw [upd_ne hpq.symm]; exact upd_same
            · rw [off_p, off_q]; exact fr2
      · refine if_false_of (decide_eq_false fun e => ha (V.int.inj e)) ?_
        exact fin _ _ ⟨cs, a, c, rfl, ⟨hp, hq, a0, c0, c1⟩, fr⟩
def spPick : Sp := fun vs H Q _ => Hd (∃ (p q l : Addr) (n : Int) (xs : List V), vs = [.ref p, .ref l] ∧ Stm H p q n ∧ n + 1 ≤ 100000 ∧ off H p q l = some (.lst xs) ∧ 0 < xs.length ∧ xs.length < 1000 ∧
  ∀ (v : V) (n' : Int) (H' : Hp), v ∈ xs → n' ≤ n + 1 → Stm H' p q n' → Same (off H p q) (off H' p q) → Q v H')
theorem ok_pick (T : Txt K mg) : FnOk P w K mg base CX0 2 T.f__law_pick T.fd__law_pick ["_law_stream", "_law_some"] spPick := by
  have G__law_draw : FnOk P w K mg base CX0 1 T.f__law_draw T.fd__law_draw _ spDraw := ok_draw T
  refine T.D__law_pick.F.ok sc__law_pick (fun vs H Q E h => ?_) (fun cdv A outer s H vs Q E hr h => ?_)
  · obtain ⟨p, q, l, n, xs, rfl, _⟩ := h.out
    rfl
  · obtain ⟨p, q, l, n, xs, rfl, S, hn, hl, l0, l1, k⟩ := h.out
    refine ⟨_, (pss_one (ps_ret (pe_ix ix_list (pv 1) (pe_call G__law_draw (hr.mono (by first | decide | omega)) rfl T.D__law_draw.g T.D__law_draw.F.kp T.D__law_draw.b .nil pass0 (pa_cons (pv 0) (pa_cons (pe_callB call_len_seq (by rfl) T.B.n_len (by decide +kernel) (pa_cons (pv 1) pa_nil)) pa_nil))) (fun _ _ => rfl)))), ?_⟩
    have hl2 := off_same _ _ hl
    refine ⟨_, rfl, _, rfl, _, rfl, l, xs, rfl, .inl (SqL.of hl2), ?_⟩
    refine .a ⟨p, q, n, (xs.length : Int), rfl, S, hn, by omega, by omega, fun d n' H' d0 d1 hn' S' fr => ?_⟩
    obtain ⟨j, rfl⟩ : ∃ j : Nat, d = (j : Int) := ⟨d.toNat, by omega⟩
    have hj : j < xs.length := by omega
    refine ⟨l, xs, _, xs[j], rfl, rfl, SqL.of (off_same _ _ (fr _ _ hl)), atI_nat (by simp [hj]), ?_⟩
    exact k _ n' H' (List.getElem_mem hj) hn' S' fr
def spPickS : Sp := fun vs H Q _ => Hd (∃ (p q : Addr) (n : Int) (l : List Nat), vs = [.ref p, .str (SX.S l)] ∧ Stm H p q n ∧ n + 1 ≤ 100000 ∧ 0 < l.length ∧ l.length < 1000 ∧
  ∀ (c : Nat) (n' : Int) (H' : Hp), c ∈ l → n' ≤ n + 1 → Stm H' p q n' → Same (off H p q) (off H' p q) → Q (.str (SX.S [c])) H')
theorem ok_pickS (T : Txt K mg) : FnOk P w K mg base CX0 2 T.f__law_pick T.fd__law_pick ["_law_stream", "_law_some"] spPickS := by
  have G__law_draw : FnOk P w K mg base CX0 1 T.f__law_draw T.fd__law_draw _ spDraw := ok_draw T
  refine T.D__law_pick.F.ok sc__law_pick (fun vs H Q E h => ?_) (fun cdv A outer s H vs Q E hr h => ?_)
  · obtain ⟨p, q, n, l, rfl, _⟩ := h.out
    rfl
  · obtain ⟨p, q, n, l, rfl, S, hn, l0, l1, k⟩ := h.out
    refine ⟨_, (pss_one (ps_ret (pe_ix SL.ix_strL (pv 1) (pe_call G__law_draw (hr.mono (by first | decide | omega)) rfl T.D__law_draw.g T.D__law_draw.F.kp T.D__law_draw.b .nil pass0 (pa_cons (pv 0) (pa_cons (pe_callB SL.call_lenL (by rfl) T.B.n_len (by decide +kernel) (pa_cons (pv 1) pa_nil)) pa_nil))) (fun _ _ => rfl)))), ?_⟩
    walk_at "st"
    refine .a ⟨p, q, n, (l.length : Int), rfl, S, hn, by omega, by omega, fun d n' H' d0 d1 hn' S' fr => ?_⟩
    walk_at "st"
    intro c hc
    exact k c n' H' (List.mem_of_getElem? hc) hn' S' fr
end
end My

namespace My
open PySem PySem.Spec PyProof.Rows L2 SuX
local macro_rules | `(tactic| walk_at "hp") => `(tactic| first | assumption | exact upd_same | (refine Eq.trans (upd_ne (by first | assumption | (apply Ne.symm; assumption))) ?_; walk_at "hp"))
local macro_rules | `(tactic| walk_at "ixl") => `(tactic| (refine' ⟨_, ?xs, _, ?vv, rfl, rfl, SqL.of ?hh, ?aa, ?qq⟩; (case hh => walk_at "hp"); (case aa => rfl)))
local macro_rules | `(tactic| walk_at "setl") => `(tactic| (refine' ⟨_, ?xs, _, ?jj, rfl, rfl, ?hh, ?aa, ?qq⟩; (case hh => walk_at "hp"); (case aa => rfl)))
local macro_rules | `(tactic| walk_at "cond") => `(tactic| first | exact ⟨_, rfl⟩ | exact Nat.le_of_lt (small1000 (Nat.le_of_ble_eq_true rfl)) | decide | omega | (dsimp only; omega) | exact ⟨by decide, by decide⟩ | exact Or.inr ⟨by decide, by decide⟩ | exact Or.inl ⟨by decide, by decide⟩ | exact ⟨by decide, by decide, by decide⟩ | exact ⟨by omega, by omega⟩ | exact ⟨by omega, by omega, by omega⟩ | (simp only [List.length_cons, List.length_nil, List.length_append, List.length_take, List.length_drop]; omega) | (refine ⟨?_, ?_, ?_⟩ <;> first | decide | omega | (simp only [List.length_cons, List.length_nil, List.length_append, List.length_take, List.length_drop, Option.getD_some, Option.getD_none]; omega)))
local macro_rules | `(tactic| walk_at "st") => `(tactic| repeat (first | refine ⟨_, rfl, ?_⟩ | refine ⟨_, _, rfl, rfl, ?_⟩ | walk_at "ixl" | walk_at "setl" | refine ⟨rfl, ?_⟩ | refine Or.inl ⟨_, rfl, ?_⟩ | refine And.intro (by walk_at "cond") ?_))
theorem valV_at : ∀ {l : List (Key × V)} {i : Nat} {k : Key} {v : V}, (l.map (·.1)).Nodup → l[i]? = some (k, v) → valV l k = some v
  | [], i, _, _, _, h => by simp at h
  | p :: l, 0, k, v, _, h => by
    simp at h
    subst h
    exact valV_pos rfl
  | p :: l, i + 1, k, v, hn, h => by
    have h' : l[i]? = some (k, v) := by simpa using h
    rw [List.map_cons, List.nodup_cons] at hn
    rw [valV_neg (fun e => hn.1 (by rw [e]; exact List.mem_map.mpr ⟨(k, v), List.mem_of_getElem? h', rfl⟩))]
    exact valV_at hn.2 h'
/-- what is read stays to be read -/
def RdS (H H' : Hp) : Prop := ∀ a o, Rd H a o → Rd H' a o
theorem same_rd {H H' : Hp} (h : Same H H') : RdS H H' := fun a o r => by
  rcases r with r | ⟨u, r⟩
  · exact .inl (h _ _ r)
  · exact .inr ⟨u, h _ _ r⟩
/-- a comprehension, a for over a dict: under a lock of its own, or of one that stands -/
def tLockO (t : TE) : TE := fun σ H Q => tLockE t σ H Q ∨ t σ H Q
theorem pe_lockO {X : Cx} {e : Expr} {t : TE} (h : PE X e t) : PE X e (tLockO t) := ⟨fun pins s σ H Q I hw => by
  rcases hw with hw | hw
  · exact (pe_lock h).run pins s σ H Q I hw
  · exact h.run pins s σ H Q I hw⟩
theorem ty_lst {K : PySem.W.Frag} {H : Hp} {a : Addr} {xs : List V} (r : Rd H a (.lst xs)) : TyX K H (.ref a) (.type "list") := by
  rcases r with r | ⟨u, r⟩
  · exact .base (.lst r)
  · exact .base (.frz r)
theorem ty_tup {K : PySem.W.Frag} {H : Hp} {a : Addr} {xs : List V} (r : Rd H a (.tup xs)) : TyX K H (.ref a) (.type "tuple") := by
  rcases r with r | ⟨u, r⟩
  · exact .base (.tup r)
  · exact .fTuple r
theorem ty_dct {K : PySem.W.Frag} {H : Hp} {a : Addr} {kvs : List (Key × V)} (r : Rd H a (.dK kvs)) : TyX K H (.ref a) (.type "dict") := by
  rcases r with r | ⟨u, r⟩
  · exact .base (.dK r)
  · exact .fDict r
theorem dpAll_strs {K : PySem.W.Frag} {H : Hp} : ∀ (cs : List Str), DpAll K H (cs.map V.str) (cs.map PyData.str)
  | [] => .nil
  | x :: r => .cons (.str x) (dpAll_strs r)
theorem walk_zipT {K : PySem.W.Frag} {a b : Addr} {xs ys : List V} {n : Nat} (hn : n = min xs.length ys.length) : Walk (RZ.ItzT K a b) n (fun H => SqT K H a xs ∧ SqT K H b ys) (YPair (fun i => xs[i]?) (fun i => ys[i]?)) := by
  subst hn
  refine ⟨fun i _ hi q => ?_, fun _ q => ⟨xs, ys, q.1, q.2, by omega⟩, ?_⟩
  · have h1 : i < xs.length := by omega
    have h2 : i < ys.length := by omega
    exact ⟨xs, ys, xs[i], ys[i], q.1, q.2, by simp [h1], by simp [h2]⟩
  · rintro i H v H' _ q ⟨T, x, z, h1, h2, h3, h4, h5⟩
    exact ⟨T, x, z, h1, h2, h3, h4 xs q.1, h5 ys q.2⟩
/-- the comprehensions of truths: all of them true -/
structure TruP (H : Hp) (D0 : Addr) (i : Nat) (H3 : Hp) : Prop where
  at_ : H3 D0 = some (.lst ((List.replicate i true).map V.bl))
  sm : Same H H3
theorem TruP.zero {H : Hp} {D0 : Addr} (hD : H D0 = none) : TruP H D0 0 (upd H D0 (.lst [])) := ⟨upd_same, same_put (Same.refl _) hD⟩
theorem TruP.next {H H3 H4 : Hp} {D0 : Addr} {i : Nat} (c : TruP H D0 i H3) (hD : H D0 = none) (hi : i < 1000) (sm : Same H3 H4) :
    ∃ acc, H4 D0 = some (.lst acc) ∧ acc.length < sizeLine ∧ TruP H D0 (i + 1) (upd H4 D0 (.lst (acc ++ [V.bl true]))) := by
  refine ⟨_, sm _ _ c.at_, by rw [List.length_map, List.length_replicate]; exact small1000 (by omega), ⟨?_, same_put (c.sm.trans sm) hD⟩⟩
  rw [upd_same, List.replicate_succ', List.map_append]
  rfl
theorem all_true (i : Nat) : (List.replicate i true).all id = true := by simp

/-! ### sorted texts: one row -/
theorem list_lt_irrefl' (a : List Nat) : ¬ a < a := List.lt_irrefl a
theorem rising_le : ∀ (r : List Str) (p : Str), risingS p r = true → ∀ x ∈ r, ltCps x.cps.toList p.cps.toList = false
  | [], _, _, x, hx => absurd hx List.not_mem_nil
  | y :: r, p, h, x, hx => by
    unfold risingS at h
    rw [Bool.and_eq_true, Bool.not_eq_true'] at h
    rcases List.mem_cons.mp hx with rfl | hx
    · exact h.1
    · have h2 := rising_le r y h.2 x hx
      have h1 := h.1
      rw [ltCps_eq, decide_eq_false_iff_not] at h1 h2 ⊢
      intro z
      have l1 : p.cps.toList ≤ y.cps.toList := h1
      have l2 : y.cps.toList ≤ x.cps.toList := h2
      exact (List.le_trans l1 l2) z
theorem rising_tail {p : Str} {r : List Str} (h : risingS p r = true) : sortedS r = true := by
  cases r with
  | nil => rfl
  | cons y r =>
    unfold risingS at h
    rw [Bool.and_eq_true] at h
    exact h.2
theorem sorted_uniq : ∀ (a b : List Str), a.Perm b → sortedS a = true → sortedS b = true → a = b
  | [], b, h, _, _ => (List.Perm.eq_nil h.symm).symm
  | x :: r, b, h, h1, h2 => by
    cases b with
    | nil => exact absurd h.length_eq (by simp)
    | cons y t =>
      have exy : x = y := by
        have hx : x ∈ y :: t := h.mem_iff.mp List.mem_cons_self
        have hy : y ∈ x :: r := h.mem_iff.mpr List.mem_cons_self
        rcases List.mem_cons.mp hx with e | hx
        · exact e
        · rcases List.mem_cons.mp hy with e | hy
          · exact e.symm
          · have l1 := rising_le t y h2 x hx
            have l2 := rising_le r x h1 y hy
            rw [ltCps_eq, decide_eq_false_iff_not] at l1 l2
            have e : x.cps.toList = y.cps.toList := List.le_antisymm (show x.cps.toList ≤ y.cps.toList from l2) (show y.cps.toList ≤ x.cps.toList from l1)
            have q : x.cps = y.cps := Array.toList_inj.mp e
            cases x; cases y; exact congrArg Str.mk q
      subst exy
      rw [sorted_uniq r t (h.cons_inv) (rising_tail h1) (rising_tail h2)]
theorem lay_strs {ks : List Str} (h : ∀ k ∈ ks, PyData.canLay0 (.str k) = true) : PyData.canLay0 (.list (ks.map PyData.str)) = true := by
  have a : PyData.canLayAll0 (ks.map PyData.str) = true := by
    induction ks with
    | nil => rfl
    | cons k r ih =>
      show (PyData.canLay0 (.str k) && PyData.canLayAll0 (r.map PyData.str)) = true
      rw [h k List.mem_cons_self, ih fun x hx => h x (List.mem_cons_of_mem _ hx)]
      rfl
  exact a
theorem shaped_strs {ks : List Str} (h : ∀ k ∈ ks, PyData.canLay0 (.str k) = true) : SeqAt.shaped (.list (ks.map PyData.str)) = true := by
  have a : PyData.canLayAll0 (ks.map PyData.str) = true := by
    induction ks with
    | nil => rfl
    | cons k r ih =>
      show (PyData.canLay0 (.str k) && PyData.canLayAll0 (r.map PyData.str)) = true
      rw [h k List.mem_cons_self, ih fun x hx => h x (List.mem_cons_of_mem _ hx)]
      rfl
  have b : ∀ ks : List Str, PyData.depthAll (ks.map PyData.str) = 0 := fun ks => by
    induction ks with
    | nil => rfl
    | cons k r ih =>
      show max (PyData.depth (.str k)) (PyData.depthAll (r.map PyData.str)) = 0
      rw [ih]
      rfl
  show (PyData.canLayAll0 (ks.map PyData.str) && decide (PyData.depthAll (ks.map PyData.str) + 1 ≤ 64)) = true
  rw [a, b]
  rfl
theorem valV_mem {ls : List (Key × V)} {k : Key} (h : k ∈ ls.map (·.1)) : ∃ v, valV ls k = some v := by
  induction ls with
  | nil => exact absurd h List.not_mem_nil
  | cons p r ih =>
    by_cases e : p.1 = k
    · exact ⟨p.2, valV_pos e⟩
    · rw [valV_neg e]
      rw [List.map_cons] at h
      rcases List.mem_cons.mp h with z | h
      · exact absurd z.symm e
      · exact ih h
/-- two equal data, as they stand -/
inductive SameV (H : Hp) : Nat → V → V → Prop
  | bl (n : Nat) (b : Bool) : SameV H n (.bl b) (.bl b)
  | int (n : Nat) (i : Int) : SameV H n (.int i) (.int i)
  | str (n : Nat) (z : Str) : SameV H n (.str z) (.str z)
  | lst {n : Nat} {a b : Addr} {xs ys : List V} : Rd H a (.lst xs) → Rd H b (.lst ys) → xs.length = ys.length → xs.length ≤ 900 → (∀ (i : Nat) (x y : V), xs[i]? = some x → ys[i]? = some y → SameV H n x y) → SameV H (n + 1) (.ref a) (.ref b)
  | tup {n : Nat} {a b : Addr} {xs ys : List V} : Rd H a (.tup xs) → Rd H b (.tup ys) → xs.length = ys.length → xs.length ≤ 900 → (∀ (i : Nat) (x y : V), xs[i]? = some x → ys[i]? = some y → SameV H n x y) → SameV H (n + 1) (.ref a) (.ref b)
  | dct {n : Nat} {a b : Addr} {ks ls : List (Key × V)} {k1 k2 : List Str} : Rd H a (.dK ks) → Rd H b (.dK ls) → ks.map (·.1) = k1.map Sum.inr → ls.map (·.1) = k2.map Sum.inr → k1.Perm k2 → k2.Nodup → k2.length < 64 → (∀ k ∈ k2, PyData.canLay0 (.str k) = true) →
      (∀ k x y, valV ks k = some x → valV ls k = some y → SameV H n x y) → SameV H (n + 1) (.ref a) (.ref b)
theorem SameV.mono {H H' : Hp} (h : RdS H H') : ∀ {n : Nat} {v v2 : V}, SameV H n v v2 → SameV H' n v v2 := fun {n v v2} s => by
  induction s with
  | bl n b => exact .bl n b
  | int n i => exact .int n i
  | str n z => exact .str n z
  | lst r1 r2 l1 l2 _ ih => exact .lst (h _ _ r1) (h _ _ r2) l1 l2 ih
  | tup r1 r2 l1 l2 _ ih => exact .tup (h _ _ r1) (h _ _ r2) l1 l2 ih
  | dct r1 r2 e1 e2 p nd l c _ ih => exact .dct (h _ _ r1) (h _ _ r2) e1 e2 p nd l c ih
/-- two equal data -/
def spSame (k : Nat) : Sp := fun vs H Q _ => Hd (∃ (v v2 : V), vs = [v, v2] ∧ SameV H k v v2 ∧ ∀ (H' : Hp), Same H H' → Q (.bl true) H')
theorem same_dict {spR : Sp} {n : Nat} {a b : Addr} {od : Obj} {ks ls : List (Key × V)} {k2 : List Str} {H0 : Hp} {R : VK} (hf : H0 b = some (.frz od (.dK ls))) (ha : Rd H0 a (.dK ks)) (nd : (ls.map (·.1)).Nodup) (l64 : ls.length < 64) (mem : ∀ k ∈ ls.map (·.1), k ∈ ks.map (·.1))
    (e2 : ls.map (·.1) = k2.map Sum.inr) (hs : ∀ k x y, valV ks k = some x → valV ls k = some y → SameV H0 n x y) (hR : ∀ vs H Q E, spSame n vs H Q E → spR vs H Q E) (k : ∀ (D0 : Addr) (H3 : Hp), TruP H0 D0 ls.length H3 → H0 D0 = none → R (.ref D0) H3) :
    tLc (iKeys (tVar 1)) (gName 2) tYes (tCall spR [] E0 (tCons (tDGet (tVar 0) (tVar 2)) (tCons (tDGet (tVar 1) (tVar 2)) tNil))) [2] [some (.ref a), some (.ref b), none, none, none] H0 R := by
  refine ⟨_, rfl, b, od, rfl, .inl ⟨ls, hf, fun D0 hD => ?_⟩⟩
  refine lc_it (n := ls.length) walk_keys (TruP H0 D0) (.zero hD) (fun i H _ c => c.sm _ _ hf) ?_ ?_
  · rintro i x H3 _ hi c ⟨rfl, key, v, e1, rfl⟩
    have km : key ∈ ls.map (·.1) := List.mem_map.mpr ⟨(key, v), List.mem_of_getElem? e1, rfl⟩
    obtain ⟨z, hz, ez⟩ := List.mem_map.mp (e2 ▸ km)
    subst ez
    obtain ⟨u, hu⟩ := valV_mem (mem _ km)
    have hv := valV_at nd e1
    refine ⟨rfl, ?_⟩
    walk_at "st"
    refine ⟨a, u, rfl, .inl ⟨_, Sum.inr z, same_rd c.sm _ _ ha, rfl, hu.symm⟩, ?_⟩
    walk_at "st"
    refine ⟨b, v, rfl, .inl ⟨_, Sum.inr z, .inr ⟨od, c.sm _ _ hf⟩, rfl, hv.symm⟩, ?_⟩
    walk_at "st"
    exact hR _ _ _ _ (.a ⟨u, v, rfl, (hs _ _ _ hu hv).mono (same_rd c.sm), fun H4 s4 => c.next hD (by omega) s4⟩)
  · intro H3 c
    exact k D0 H3 c hD
theorem eqv_strs {ks : List Str} (h : ∀ k ∈ ks, PyData.canLay0 (.str k) = true) : PyData.eqv (.list (ks.map PyData.str)) (.list (ks.map PyData.str)) = true := SeqAt.eqv_refl _ (lay_strs h)
theorem nd_inr : ∀ {ks : List Str}, ks.Nodup → (ks.map (Sum.inr : Str → Key)).Nodup
  | [], _ => List.nodup_nil
  | k :: r, h => by
    have h' := List.nodup_cons.mp h
    refine List.nodup_cons.mpr ⟨fun z => ?_, nd_inr h'.2⟩
    obtain ⟨x, hx, e⟩ := List.mem_map.mp z
    cases e
    exact h'.1 hx
section
variable {P : Program} {w : World} {K : PySem.W.Frag} {mg : Str → Option Value} {base : Heap}
theorem ok_sameG (T : Txt K mg) (n lv : Nat) (spR : Sp) (hR : ∀ j, n = j + 1 → ∀ vs H Q E, spSame j vs H Q E → spR vs H Q E) (G__law_same : FnOk P w K mg base CX0 lv T.f__law_same T.fd__law_same ["_law_found", "_law_due"] spR) :
    FnOk P w K mg base CX0 (lv + 1) T.f__law_same T.fd__law_same ["_law_found", "_law_due"] (spSame n) := by
  refine T.D__law_same.F.ok sc__law_same (fun vs H Q E h => ?_) (fun cdv A outer s H vs Q E hr h => ?_)
  · obtain ⟨v, v2, rfl, _⟩ := h.out
    rfl
  · obtain ⟨v, v2, rfl, r, k⟩ := h.out
    have hu := hu_of hr
    have hu64 := hr.units
    refine ⟨_, (pss_cons (ps_if (pt_val (pe_callB call_isi (by rfl) T.B.n_isinstance (by decide +kernel) (pa_cons (pv 1) (pa_cons (pe_bltn (v := .ty "dict") (u := .type "dict") (by rfl) T.B.n_dict (by decide +kernel) rfl) pa_nil))))
    (pss_cons (ps_if (PW.pt (pw_or (pt_not (pt_val (pe_callB call_isi (by rfl) T.B.n_isinstance (by decide +kernel) (pa_cons (pv 0) (pa_cons (pe_bltn (v := .ty "dict") (u := .type "dict") (by rfl) T.B.n_dict (by decide +kernel) rfl) pa_nil))))) (pw_or1 (pt_cmpR (op_neD hu64) (pe_callB cr_sortedS (by rfl) T.B.n_sorted (by decide +kernel) (pa_cons (pe_callTy (call_listD rfl) (by rfl) T.B.n_list (by decide +kernel) (pa_cons (pv 0) pa_nil)) pa_nil)) (pe_callB cr_sortedS (by rfl) T.B.n_sorted (by decide +kernel) (pa_cons (pe_callTy (call_listD rfl) (by rfl) T.B.n_list (by decide +kernel) (pa_cons (pv 1) pa_nil)) pa_nil)) (nomark _)))))
    (pss_one (ps_ret pe_bl))
    pss_nil)
  (pss_one (ps_ret (pe_callB (cr_all rfl) (by rfl) T.B.n_all (by decide +kernel) (pa_cons (pe_lockO (pe_lc (own := [("_law_key", 2)]) (g := gName 2) rfl sc__law_same.nd (pi_keys (pv 1)) (blkOk_by (N := ["_law_found", "_law_due", "_law_key", "_law_one", "_law_other"]) (sc := defScope s__law_same) (by decide +kernel)) (fun _ _ _ _ _ => (pg_name (i := 2) sc__law_same.nd rfl (by first | exact Or.inl rfl | exact Or.inr rfl))) (fun _ _ _ _ _ => pts_nil) (fun _ _ _ _ _ => (pe_call G__law_same (hr.mono (by first | decide | omega)) rfl T.D__law_same.g T.D__law_same.F.kp T.D__law_same.b .nil pass0 (pa_cons (pe_dget hu (pv 0) (pv 2) (fun _ _ => rfl)) (pa_cons (pe_dget hu (pv 1) (pv 2) (fun _ _ => rfl)) pa_nil)))))) pa_nil)))))
    pss_nil)
  (pss_cons (ps_if (pt_val (pe_callB call_isiT (by rfl) T.B.n_isinstance (by decide +kernel) (pa_cons (pv 1) (pa_cons (pe_tup (pa_cons (pe_bltn (v := .ty "list") (u := .type "list") (by rfl) T.B.n_list (by decide +kernel) rfl) (pa_cons (pe_bltn (v := .ty "tuple") (u := .type "tuple") (by rfl) T.B.n_tuple (by decide +kernel) rfl) pa_nil))) pa_nil))))
    (pss_cons (ps_if (PW.pt (pw_or (pt_cmpR op_ne (pe_callB call_isi (by rfl) T.B.n_isinstance (by decide +kernel) (pa_cons (pv 0) (pa_cons (pe_bltn (v := .ty "list") (u := .type "list") (by rfl) T.B.n_list (by decide +kernel) rfl) pa_nil))) (pe_callB call_isi (by rfl) T.B.n_isinstance (by decide +kernel) (pa_cons (pv 1) (pa_cons (pe_bltn (v := .ty "list") (u := .type "list") (by rfl) T.B.n_list (by decide +kernel) rfl) pa_nil))) (nomark _)) (pw_or1 (pt_cmpR op_ne (pe_callB call_isi (by rfl) T.B.n_isinstance (by decide +kernel) (pa_cons (pv 0) (pa_cons (pe_bltn (v := .ty "tuple") (u := .type "tuple") (by rfl) T.B.n_tuple (by decide +kernel) rfl) pa_nil))) (pe_callB call_isi (by rfl) T.B.n_isinstance (by decide +kernel) (pa_cons (pv 1) (pa_cons (pe_bltn (v := .ty "tuple") (u := .type "tuple") (by rfl) T.B.n_tuple (by decide +kernel) rfl) pa_nil))) (nomark _)))))
    (pss_one (ps_ret pe_bl))
    pss_nil)
  (pss_one (ps_ret (pe_and (pe_cmpR op_eq (pe_callB call_len_seq (by rfl) T.B.n_len (by decide +kernel) (pa_cons (pv 0) pa_nil)) (pe_callB call_len_seq (by rfl) T.B.n_len (by decide +kernel) (pa_cons (pv 1) pa_nil)) (nomark _)) (pe_one (pe_callB (cr_all rfl) (by rfl) T.B.n_all (by decide +kernel) (pa_cons (pe_lc (own := [("_law_one", 3), ("_law_other", 4)]) (g := gTup K 2 (gCons (gName 3) (gCons (gName 4) gNil))) rfl sc__law_same.nd (RZ.pi_zipA (by rfl) T.B.n_zip (pa_cons (pv 0) (pa_cons (pv 1) pa_nil))) (blkOk_by (N := ["_law_found", "_law_due", "_law_key", "_law_one", "_law_other"]) (sc := defScope s__law_same) (by decide +kernel)) (fun _ _ _ _ _ => (pg_tup rfl (pgs_cons (pg_name (i := 3) sc__law_same.nd rfl (by first | exact Or.inl rfl | exact Or.inr rfl)) (pgs_cons (pg_name (i := 4) sc__law_same.nd rfl (by first | exact Or.inl rfl | exact Or.inr rfl)) pgs_nil)))) (fun _ _ _ _ _ => pts_nil) (fun _ _ _ _ _ => (pe_call G__law_same (hr.mono (by first | decide | omega)) rfl T.D__law_same.g T.D__law_same.F.kp T.D__law_same.b .nil pass0 (pa_cons (pv 3) (pa_cons (pv 4) pa_nil))))) pa_nil)))))))
    pss_nil)
  (pss_cons (ps_if (pt_val (pe_callB call_isi (by rfl) T.B.n_isinstance (by decide +kernel) (pa_cons (pv 1) (pa_cons (pe_bltn (v := .ty "int") (u := .type "int") (by rfl) T.B.n_int (by decide +kernel) rfl) pa_nil))))
    (pss_one (ps_ret (pe_and (pe_callB call_isi (by rfl) T.B.n_isinstance (by decide +kernel) (pa_cons (pv 0) (pa_cons (pe_bltn (v := .ty "int") (u := .type "int") (by rfl) T.B.n_int (by decide +kernel) rfl) pa_nil))) (pe_and (pe_cmpR op_eq (pe_callB call_isi (by rfl) T.B.n_isinstance (by decide +kernel) (pa_cons (pv 0) (pa_cons (pe_bltn (v := .ty "bool") (u := .type "bool") (by rfl) T.B.n_bool (by decide +kernel) rfl) pa_nil))) (pe_callB call_isi (by rfl) T.B.n_isinstance (by decide +kernel) (pa_cons (pv 1) (pa_cons (pe_bltn (v := .ty "bool") (u := .type "bool") (by rfl) T.B.n_bool (by decide +kernel) rfl) pa_nil))) (nomark _)) (pe_one (pe_cmpR op_eq (pv 0) (pv 1) (nomark _)))))))
    pss_nil)
  (pss_one (ps_ret (pe_and (pe_cmpR op_eq (pv 0) (pv 1) (nomark _)) (pe_one (pe_not (pe_callB call_isiT (by rfl) T.B.n_isinstance (by decide +kernel) (pa_cons (pv 0) (pa_cons (pe_tup (pa_cons (pe_bltn (v := .ty "int") (u := .type "int") (by rfl) T.B.n_int (by decide +kernel) rfl) (pa_cons (pe_bltn (v := .ty "list") (u := .type "list") (by rfl) T.B.n_list (by decide +kernel) rfl) (pa_cons (pe_bltn (v := .ty "tuple") (u := .type "tuple") (by rfl) T.B.n_tuple (by decide +kernel) rfl) (pa_cons (pe_bltn (v := .ty "dict") (u := .type "dict") (by rfl) T.B.n_dict (by decide +kernel) rfl) pa_nil))))) pa_nil))))))))))), ?_⟩
    walk_at "st"
    cases r with
    | bl _ b =>
      refine ⟨_, .ty "dict", _, _, false, rfl, .ty "dict", (.base (.bl b)), kit_ty (by decide +kernel), ?_⟩
      walk_at "st"
      intro t ht
      have st := same_new (o := .tup [.ty "list", .ty "tuple"]) ht
      refine ⟨_, t, _, _, _, false, rfl, upd_same, (.cons (.ty "list") (.cons (.ty "tuple") .nil)), (.base (.bl b)), (kitAny_cons (b := false) (kit_ty (by decide +kernel)) (fun _ => (kitAny_cons (b := false) (kit_ty (by decide +kernel)) (fun _ => kitAny_nil) (fun h => nomatch h))) (fun h => nomatch h)), ?_⟩
      walk_at "st"
      refine ⟨_, .ty "int", _, _, true, rfl, .ty "int", (.base (.bl b)), kit_ty (by decide +kernel), ?_⟩
      walk_at "st"
      refine ⟨_, .ty "int", _, _, true, rfl, .ty "int", (.base (.bl b)), kit_ty (by decide +kernel), ?_⟩
      walk_at "st"
      refine ⟨_, .ty "bool", _, _, true, rfl, .ty "bool", (.base (.bl b)), kit_ty (by decide +kernel), ?_⟩
      walk_at "st"
      refine ⟨_, .ty "bool", _, _, true, rfl, .ty "bool", (.base (.bl b)), kit_ty (by decide +kernel), ?_⟩
      walk_at "st"
      have e : decide (V.bl b = V.bl b) = true := decide_eq_true rfl
      show Q (V.bl (decide (V.bl b = V.bl b))) _
      rw [e]
      exact k _ st
    | int _ i =>
      refine ⟨_, .ty "dict", _, _, false, rfl, .ty "dict", (.base (.int i)), kit_ty (by decide +kernel), ?_⟩
      walk_at "st"
      intro t ht
      have st := same_new (o := .tup [.ty "list", .ty "tuple"]) ht
      refine ⟨_, t, _, _, _, false, rfl, upd_same, (.cons (.ty "list") (.cons (.ty "tuple") .nil)), (.base (.int i)), (kitAny_cons (b := false) (kit_ty (by decide +kernel)) (fun _ => (kitAny_cons (b := false) (kit_ty (by decide +kernel)) (fun _ => kitAny_nil) (fun h => nomatch h))) (fun h => nomatch h)), ?_⟩
      walk_at "st"
      refine ⟨_, .ty "int", _, _, true, rfl, .ty "int", (.base (.int i)), kit_ty (by decide +kernel), ?_⟩
      walk_at "st"
      refine ⟨_, .ty "int", _, _, true, rfl, .ty "int", (.base (.int i)), kit_ty (by decide +kernel), ?_⟩
      walk_at "st"
      refine ⟨_, .ty "bool", _, _, false, rfl, .ty "bool", (.base (.int i)), kit_ty (by decide +kernel), ?_⟩
      walk_at "st"
      refine ⟨_, .ty "bool", _, _, false, rfl, .ty "bool", (.base (.int i)), kit_ty (by decide +kernel), ?_⟩
      walk_at "st"
      have e : decide (V.int i = V.int i) = true := decide_eq_true rfl
      show Q (V.bl (decide (V.int i = V.int i))) _
      rw [e]
      exact k _ st
    | str _ z =>
      refine ⟨_, .ty "dict", _, _, false, rfl, .ty "dict", (.base (.str z)), kit_ty (by decide +kernel), ?_⟩
      walk_at "st"
      intro t ht
      have st := same_new (o := .tup [.ty "list", .ty "tuple"]) ht
      refine ⟨_, t, _, _, _, false, rfl, upd_same, (.cons (.ty "list") (.cons (.ty "tuple") .nil)), (.base (.str z)), (kitAny_cons (b := false) (kit_ty (by decide +kernel)) (fun _ => (kitAny_cons (b := false) (kit_ty (by decide +kernel)) (fun _ => kitAny_nil) (fun h => nomatch h))) (fun h => nomatch h)), ?_⟩
      walk_at "st"
      refine ⟨_, .ty "int", _, _, false, rfl, .ty "int", (.base (.str z)), kit_ty (by decide +kernel), ?_⟩
      walk_at "st"
      refine if_true_of (decide_eq_true rfl) ?_
      walk_at "st"
      intro u hu
      have su := same_new (o := .tup [.ty "int", .ty "list", .ty "tuple", .ty "dict"]) hu
      refine ⟨_, u, _, _, _, false, rfl, upd_same, (.cons (.ty "int") (.cons (.ty "list") (.cons (.ty "tuple") (.cons (.ty "dict") .nil)))), (.base (.str z)), (kitAny_cons (b := false) (kit_ty (by decide +kernel)) (fun _ => (kitAny_cons (b := false) (kit_ty (by decide +kernel)) (fun _ => (kitAny_cons (b := false) (kit_ty (by decide +kernel)) (fun _ => (kitAny_cons (b := false) (kit_ty (by decide +kernel)) (fun _ => kitAny_nil) (fun h => nomatch h))) (fun h => nomatch h))) (fun h => nomatch h))) (fun h => nomatch h)), ?_⟩
      walk_at "st"
      exact k _ (st.trans su)
    | @lst j a b xs ys h1 g1 hl hz hs =>
      have hR' := hR j rfl
      refine ⟨_, .ty "dict", _, _, false, rfl, .ty "dict", (ty_lst g1), kit_ty (by decide +kernel), ?_⟩
      walk_at "st"
      intro t ht
      have st := same_new (o := .tup [.ty "list", .ty "tuple"]) ht
      have q1 : Rd (upd H t (.tup [.ty "list", .ty "tuple"])) a (.lst xs) := same_rd st _ _ h1
      have q2 : Rd (upd H t (.tup [.ty "list", .ty "tuple"])) b (.lst ys) := same_rd st _ _ g1
      refine ⟨_, t, _, _, _, true, rfl, upd_same, (.cons (.ty "list") (.cons (.ty "tuple") .nil)), (ty_lst q2), (kitAny_cons (b := true) (kit_ty (by decide +kernel)) (fun h => nomatch h) (fun _ => rfl)), ?_⟩
      walk_at "st"
      refine ⟨_, .ty "list", _, _, true, rfl, .ty "list", (ty_lst q1), kit_ty (by decide +kernel), ?_⟩
      walk_at "st"
      refine ⟨_, .ty "list", _, _, true, rfl, .ty "list", (ty_lst q2), kit_ty (by decide +kernel), ?_⟩
      walk_at "st"
      refine ⟨_, .ty "tuple", _, _, false, rfl, .ty "tuple", (ty_lst q1), kit_ty (by decide +kernel), ?_⟩
      walk_at "st"
      refine ⟨_, .ty "tuple", _, _, false, rfl, .ty "tuple", (ty_lst q2), kit_ty (by decide +kernel), ?_⟩
      walk_at "st"
      refine ⟨a, xs, rfl, .inl (.inl q1), ?_⟩
      walk_at "st"
      refine ⟨b, ys, rfl, .inl (.inl q2), ?_⟩
      walk_at "st"
      refine if_true_of (decide_eq_true (by rw [hl])) ?_
      walk_at "st"
      generalize upd H t (.tup [.ty "list", .ty "tuple"]) = H1 at st q1 q2 ⊢
      refine ⟨a, b, xs, ys, rfl, .inl ⟨.inl q1, .inl q2, fun D0 hD => ?_⟩⟩
      refine lc_it (n := xs.length) (walk_zip (xs := xs) (ys := ys) (by omega)) (TruP H1 D0) (.zero hD) (fun i H _ c => ⟨.inl (same_rd c.sm _ _ q1), .inl (same_rd c.sm _ _ q2)⟩) ?_ ?_
      · rintro i x H3 H4 hi c ⟨T0, x1, y1, rfl, hT, rfl, e1, e2⟩
        have s3 := c.sm.trans (same_new (o := .tup [x1, y1]) hT)
        refine ⟨T0, [x1, y1], rfl, SqT.of upd_same, rfl, _, _, rfl, _, _, rfl, rfl, rfl, ?_⟩
        walk_at "st"
        exact hR' _ _ _ _ (.a ⟨x1, y1, rfl, (hs i x1 y1 e1 e2).mono (same_rd (st.trans s3)), fun H5 s5 => c.next hD (by omega) ((same_new hT).trans s5)⟩)
      · intro H3 c
        walk_at "st"
        refine ⟨D0, _, rfl, SqL.of c.at_, ?_⟩
        rw [all_true]
        exact k _ (st.trans c.sm)
    | @tup j a b xs ys h1 g1 hl hz hs =>
      have hR' := hR j rfl
      refine ⟨_, .ty "dict", _, _, false, rfl, .ty "dict", (ty_tup g1), kit_ty (by decide +kernel), ?_⟩
      walk_at "st"
      intro t ht
      have st := same_new (o := .tup [.ty "list", .ty "tuple"]) ht
      have q1 : Rd (upd H t (.tup [.ty "list", .ty "tuple"])) a (.tup xs) := same_rd st _ _ h1
      have q2 : Rd (upd H t (.tup [.ty "list", .ty "tuple"])) b (.tup ys) := same_rd st _ _ g1
      refine ⟨_, t, _, _, _, true, rfl, upd_same, (.cons (.ty "list") (.cons (.ty "tuple") .nil)), (ty_tup q2), (kitAny_cons (b := false) (kit_ty (by decide +kernel)) (fun _ => (kitAny_cons (b := true) (kit_ty (by decide +kernel)) (fun h => nomatch h) (fun _ => rfl))) (fun h => nomatch h)), ?_⟩
      walk_at "st"
      refine ⟨_, .ty "list", _, _, false, rfl, .ty "list", (ty_tup q1), kit_ty (by decide +kernel), ?_⟩
      walk_at "st"
      refine ⟨_, .ty "list", _, _, false, rfl, .ty "list", (ty_tup q2), kit_ty (by decide +kernel), ?_⟩
      walk_at "st"
      refine ⟨_, .ty "tuple", _, _, true, rfl, .ty "tuple", (ty_tup q1), kit_ty (by decide +kernel), ?_⟩
      walk_at "st"
      refine ⟨_, .ty "tuple", _, _, true, rfl, .ty "tuple", (ty_tup q2), kit_ty (by decide +kernel), ?_⟩
      walk_at "st"
      refine ⟨a, xs, rfl, .inr (.inl q1), ?_⟩
      walk_at "st"
      refine ⟨b, ys, rfl, .inr (.inl q2), ?_⟩
      walk_at "st"
      refine if_true_of (decide_eq_true (by rw [hl])) ?_
      walk_at "st"
      generalize upd H t (.tup [.ty "list", .ty "tuple"]) = H1 at st q1 q2 ⊢
      refine ⟨a, b, xs, ys, rfl, .inr ⟨.inl q1, .inl q2, fun D0 hD => ?_⟩⟩
      refine lc_it (n := xs.length) (walk_zipT (xs := xs) (ys := ys) (by omega)) (TruP H1 D0) (.zero hD) (fun i H _ c => ⟨.inl (same_rd c.sm _ _ q1), .inl (same_rd c.sm _ _ q2)⟩) ?_ ?_
      · rintro i x H3 H4 hi c ⟨T0, x1, y1, rfl, hT, rfl, e1, e2⟩
        have s3 := c.sm.trans (same_new (o := .tup [x1, y1]) hT)
        refine ⟨T0, [x1, y1], rfl, SqT.of upd_same, rfl, _, _, rfl, _, _, rfl, rfl, rfl, ?_⟩
        walk_at "st"
        exact hR' _ _ _ _ (.a ⟨x1, y1, rfl, (hs i x1 y1 e1 e2).mono (same_rd (st.trans s3)), fun H5 s5 => c.next hD (by omega) ((same_new hT).trans s5)⟩)
      · intro H3 c
        walk_at "st"
        refine ⟨D0, _, rfl, SqL.of c.at_, ?_⟩
        rw [all_true]
        exact k _ (st.trans c.sm)
    | @dct j a b ks ls k1 k2 h1 g1 e1 e2 pm nd l64 cl hs =>
      have hR' := hR j rfl
      have len1 : ks.length = k1.length := by have := congrArg List.length e1; simpa using this
      have len2 : ls.length = k2.length := by have := congrArg List.length e2; simpa using this
      have lenp := pm.length_eq
      refine ⟨_, .ty "dict", _, _, true, rfl, .ty "dict", (ty_dct g1), kit_ty (by decide +kernel), ?_⟩
      walk_at "st"
      refine ⟨_, .ty "dict", _, _, true, rfl, .ty "dict", (ty_dct h1), kit_ty (by decide +kernel), ?_⟩
      walk_at "st"
      have kv1 : ks.map (fun kv => kV kv.1) = k1.map V.str := by
        have q := congrArg (List.map kV) e1
        rw [List.map_map, List.map_map] at q
        exact q
      have kv2 : ls.map (fun kv => kV kv.1) = k2.map V.str := by
        have q := congrArg (List.map kV) e2
        rw [List.map_map, List.map_map] at q
        exact q
      refine ⟨a, ks, rfl, h1, fun l1 n1 => ?_⟩
      walk_at "st"
      refine ⟨l1, k1, rfl, SqL.of (by rw [upd_same, kv1]), by omega, fun zs p1 hz1 hs1 m1 => ?_⟩
      have s1 : Same H (upd (upd H l1 (.lst (ks.map fun kv => kV kv.1))) p1 (.lst (zs.map V.str))) := (same_new n1).trans (same_new m1)
      have a1 : (upd (upd H l1 (.lst (ks.map fun kv => kV kv.1))) p1 (.lst (zs.map V.str))) p1 = some (.lst (zs.map V.str)) := upd_same
      generalize upd (upd H l1 (.lst (ks.map fun kv => kV kv.1))) p1 (.lst (zs.map V.str)) = H1 at s1 a1 ⊢
      walk_at "st"
      refine ⟨b, ls, rfl, same_rd s1 _ _ g1, fun l2 n2 => ?_⟩
      walk_at "st"
      refine ⟨l2, k2, rfl, SqL.of (by rw [upd_same, kv2]), by omega, fun ws p2 hz2 hs2 m2 => ?_⟩
      obtain rfl := sorted_uniq zs ws ((hz1.trans pm).trans hz2.symm) hs1 hs2
      have s2 : Same H1 (upd (upd H1 l2 (.lst (ls.map fun kv => kV kv.1))) p2 (.lst (zs.map V.str))) := (same_new n2).trans (same_new m2)
      have a2 : (upd (upd H1 l2 (.lst (ls.map fun kv => kV kv.1))) p2 (.lst (zs.map V.str))) p2 = some (.lst (zs.map V.str)) := upd_same
      generalize upd (upd H1 l2 (.lst (ls.map fun kv => kV kv.1))) p2 (.lst (zs.map V.str)) = H2 at s2 a2 ⊢
      have s12 := s1.trans s2
      have sh : SeqAt.shaped (.list (zs.map PyData.str)) = true := shaped_strs fun k hk => cl k (hz2.mem_iff.mp hk)
      refine ⟨.list (zs.map PyData.str), .list (zs.map PyData.str), .lst (SqL.of (s2 _ _ a1)) (dpAll_strs _), .lst (SqL.of a2) (dpAll_strs _), sh, sh, ?_⟩
      rw [eqv_strs fun k hk => cl k (hz2.mem_iff.mp hk)]
      walk_at "st"
      have fin : ∀ (D0 : Addr) (H5 : Hp) (m : Nat), H5 D0 = some (.lst ((List.replicate m true).map V.bl)) → Same H H5 →
          ∃ (a : Addr) (bs : List Bool), [V.ref D0] = [.ref a] ∧ SqL K H5 a (bs.map V.bl) ∧ Q (.bl (bs.all id)) H5 := fun D0 H5 m e s5 => ⟨D0, _, rfl, SqL.of e, by rw [all_true]; exact k H5 s5⟩
      have h1' := same_rd s12 _ _ h1
      have g1' := same_rd s12 _ _ g1
      have ndl : (ls.map (·.1)).Nodup := by rw [e2]; exact nd_inr nd
      have mem : ∀ k ∈ ls.map (·.1), k ∈ ks.map (·.1) := fun k hk => by
        rw [e2] at hk; rw [e1]
        obtain ⟨z, hz, rfl⟩ := List.mem_map.mp hk
        exact List.mem_map_of_mem (pm.mem_iff.mpr hz)
      rcases g1' with g1' | ⟨u, g1'⟩
      · refine .inl ⟨b, _, g1', trivial, fun od => ?_⟩
        have r0' : RdS H2 (upd H2 b (.frz od (.dK ls))) := fun c o e => by
          by_cases q : c = b
          · rcases e with e | ⟨w, e⟩
            · rw [q, g1'] at e; cases e; exact .inr ⟨od, by rw [q, upd_same]⟩
            · rw [q, g1'] at e; cases e
          · rcases e with e | ⟨w, e⟩
            · exact .inl (by rw [upd_ne q]; exact e)
            · exact .inr ⟨w, by rw [upd_ne q]; exact e⟩
        refine same_dict (n := j) upd_same (r0' _ _ h1') ndl (by omega) mem e2 (fun k x y hx hy => ((hs k x y hx hy).mono (same_rd s12)).mono r0') hR' fun D0 H3 c hD => ?_
        have ha := c.sm b _ upd_same
        have hDa : D0 ≠ b := fun e => by rw [e, upd_same] at hD; cases hD
        refine ⟨ha, ?_⟩
        walk_at "st"
        refine fin D0 _ ls.length (by rw [upd_ne hDa]; exact c.at_) (s12.trans fun c' o e => ?_)
        by_cases q : c' = b
        · rw [q, g1'] at e; rw [q, upd_same]; exact e
        · rw [upd_ne q]; exact c.sm c' o (by rw [upd_ne q]; exact e)
      · refine .inr (same_dict (n := j) g1' h1' ndl (by omega) mem e2 (fun k x y hx hy => (hs k x y hx hy).mono (same_rd s12)) hR' fun D0 H3 c hD => ?_)
        walk_at "st"
        exact fin D0 H3 ls.length c.at_ (s12.trans c.sm)
theorem ok_same (T : Txt K mg) : ∀ n, FnOk P w K mg base CX0 (n + 2) T.f__law_same T.fd__law_same ["_law_found", "_law_due"] (spSame n)
  | 0 => ok_sameG T 0 1 spNo (fun j h => nomatch h) (ok_no T.D__law_same.F sc__law_same)
  | n + 1 => ok_sameG T (n + 1) (n + 2) (spSame n) (fun j h vs H Q E q => by cases h; exact q) (ok_same T n)
end
end My

namespace My
open PySem PySem.Spec PyProof.Rows L2 SuX
local macro_rules | `(tactic| walk_at "hp") => `(tactic| first | assumption | exact upd_same | (refine Eq.trans (upd_ne (by first | assumption | (apply Ne.symm; assumption))) ?_; walk_at "hp"))
local macro_rules | `(tactic| walk_at "ixl") => `(tactic| (refine' ⟨_, ?xs, _, ?vv, rfl, rfl, SqL.of ?hh, ?aa, ?qq⟩; (case hh => walk_at "hp"); (case aa => rfl)))
local macro_rules | `(tactic| walk_at "setl") => `(tactic| (refine' ⟨_, ?xs, _, ?jj, rfl, rfl, ?hh, ?aa, ?qq⟩; (case hh => walk_at "hp"); (case aa => rfl)))
local macro_rules | `(tactic| walk_at "cond") => `(tactic| first | exact ⟨_, rfl⟩ | exact Nat.le_of_lt (small1000 (Nat.le_of_ble_eq_true rfl)) | decide | omega | (dsimp only; omega) | exact ⟨by decide, by decide⟩ | exact Or.inr ⟨by decide, by decide⟩ | exact Or.inl ⟨by decide, by decide⟩ | exact ⟨by decide, by decide, by decide⟩ | exact ⟨by omega, by omega⟩ | exact ⟨by omega, by omega, by omega⟩ | (simp only [List.length_cons, List.length_nil, List.length_append, List.length_take, List.length_drop]; omega) | (refine ⟨?_, ?_, ?_⟩ <;> first | decide | omega | (simp only [List.length_cons, List.length_nil, List.length_append, List.length_take, List.length_drop, Option.getD_some, Option.getD_none]; omega)))
local macro_rules | `(tactic| walk_at "st") => `(tactic| repeat (first | refine ⟨_, rfl, ?_⟩ | refine ⟨_, _, rfl, rfl, ?_⟩ | walk_at "ixl" | walk_at "setl" | refine ⟨rfl, ?_⟩ | refine Or.inl ⟨_, rfl, ?_⟩ | refine And.intro (by walk_at "cond") ?_))
local macro_rules | `(tactic| walk_at "cls") => `(tactic| first | exact OC.cl (by assumption) | exact (‹Txt _ _›).o_Clock.cl | exact (‹Txt _ _›).o_LevelTable.cl | exact (‹Txt _ _›).o_Store.cl | exact (‹Txt _ _›).o_Written.cl | exact (‹Txt _ _›).o_Roster.cl | exact (‹Txt _ _›).o_Handler.cl | exact (‹Txt _ _›).o_Logger.cl | exact (‹Txt _ _›).o_LoggerTree.cl | exact (‹Txt _ _›).o_StreamHandler.cl | exact (‹Txt _ _›).o_FileHandler.cl | exact (‹Txt _ _›).o_LogRecord.cl | exact (‹Txt _ _›).o_Yard.cl)
local macro_rules | `(tactic| walk_at "na") => `(tactic| first | (refine na_of (by assumption) ?_; decide) | (refine na_of (‹Txt _ _›).o_Clock ?_; decide) | (refine na_of (‹Txt _ _›).o_LevelTable ?_; decide) | (refine na_of (‹Txt _ _›).o_Store ?_; decide) | (refine na_of (‹Txt _ _›).o_Written ?_; decide) | (refine na_of (‹Txt _ _›).o_Roster ?_; decide) | (refine na_of (‹Txt _ _›).o_Handler ?_; decide) | (refine na_of (‹Txt _ _›).o_Logger ?_; decide) | (refine na_of (‹Txt _ _›).o_LoggerTree ?_; decide) | (refine na_of (‹Txt _ _›).o_StreamHandler ?_; decide) | (refine na_of (‹Txt _ _›).o_FileHandler ?_; decide) | (refine na_of (‹Txt _ _›).o_LogRecord ?_; decide) | (refine na_of (‹Txt _ _›).o_Yard ?_; decide))
local macro_rules | `(tactic| walk_at "fld") => `(tactic| (refine' ⟨_, _, _, _, ?vv, rfl, ?hh, ?cc, ?nn, ?ll, ?qq⟩; (case hh => walk_at "hp"); (case cc => walk_at "cls"); (case nn => walk_at "na"); (case ll => exact rfl)))
local macro_rules | `(tactic| walk_at "sto") => `(tactic| (refine' ⟨_, _, _, _, rfl, ?hh, ?cc, ?nn, ?ll, ?qq⟩; (case hh => walk_at "hp"); (case cc => walk_at "cls"); (case nn => walk_at "na"); (case ll => first | exact Nat.le_of_ble_eq_true rfl | assumption)))
local macro_rules | `(tactic| walk_at "mth") => `(tactic| (refine' ⟨_, _, _, rfl, ?hh, ?ll, ?qq⟩; (case hh => walk_at "hp"); (case ll => exact rfl)))
local macro_rules | `(tactic| walk_at "sx") => `(tactic| repeat (first | refine ⟨_, rfl, ?_⟩ | refine ⟨_, _, rfl, rfl, ?_⟩ | walk_at "ixl" | walk_at "setl" | refine ⟨rfl, ?_⟩ | refine Or.inl ⟨_, rfl, ?_⟩ | walk_at "fld" | walk_at "sto" | walk_at "mth" | refine And.intro (by walk_at "cond") ?_))
/-! ### texts by names, as the law holds them -/
abbrev Asc := List (List Nat × List Nat)
def kvM (m : Asc) : List (Key × V) := m.map fun e => ((Sum.inr (SX.S e.1) : Key), V.str (SX.S e.2))
def lkA : Asc → List Nat → Option (List Nat)
  | [], _ => none
  | e :: r, k => if e.1 = k then some e.2 else lkA r k
def putA : Asc → List Nat → List Nat → Asc
  | [], k, x => [(k, x)]
  | e :: r, k, x => if e.1 = k then (e.1, x) :: r else e :: putA r k x
def dropA (m : Asc) (k : List Nat) : Asc := m.filter fun e => decide (e.1 ≠ k)
/-- as a map of a store -/
def sm0 (m : Asc) : SMap := m.map fun e => (e.1, ⟨0, 0, e.2⟩)
theorem lkA_none {k : List Nat} : ∀ {m : Asc}, lkA m k = none → ∀ e ∈ m, e.1 ≠ k
  | [], _, e, he => absurd he List.not_mem_nil
  | a :: r, h, e, he => by
    unfold lkA at h
    split at h
    · cases h
    · rename_i q
      rcases List.mem_cons.mp he with rfl | he
      · exact q
      · exact lkA_none h e he
theorem lkA_mem {k x : List Nat} : ∀ {m : Asc}, lkA m k = some x → (k, x) ∈ m
  | [], h => by cases h
  | a :: r, h => by
    unfold lkA at h
    split at h
    · rename_i q
      cases h
      rw [← q]
      exact List.mem_cons_self
    · exact List.mem_cons_of_mem _ (lkA_mem h)
theorem lkA_of {k x : List Nat} : ∀ {m : Asc}, (m.map (·.1)).Nodup → (k, x) ∈ m → lkA m k = some x
  | [], _, h => absurd h List.not_mem_nil
  | a :: r, nd, h => by
    have nd' : a.1 ∉ r.map (·.1) ∧ (r.map (·.1)).Nodup := List.nodup_cons.mp nd
    unfold lkA
    rcases List.mem_cons.mp h with e | h
    · rw [← e, if_pos rfl]
    · rw [if_neg (fun z => nd'.1 (by rw [z]; exact List.mem_map_of_mem (f := fun e => e.1) h))]
      exact lkA_of nd'.2 h
theorem lkA_put {k x : List Nat} (k' : List Nat) : ∀ (m : Asc), lkA (putA m k x) k' = if k' = k then some x else lkA m k'
  | [] => by
    show (if k = k' then some x else none) = _
    by_cases e : k' = k
    · rw [if_pos e, if_pos e.symm]
    · rw [if_neg e, if_neg (fun z => e z.symm)]; rfl
  | a :: r => by
    have ih := lkA_put (k := k) (x := x) k' r
    unfold putA
    by_cases q : a.1 = k
    · rw [if_pos q]
      unfold lkA
      by_cases e : k' = k
      · rw [if_pos (q.trans e.symm), if_pos e]
      · rw [if_neg (fun z => e (z.symm.trans q)), if_neg e, if_neg (fun z => e (z.symm.trans q))]
    · rw [if_neg q]
      unfold lkA
      by_cases e : a.1 = k'
      · rw [if_pos e, if_pos e, if_neg (fun z => q (e.trans z))]
      · rw [if_neg e, if_neg e]
        exact ih
theorem lkA_drop {k : List Nat} (k' : List Nat) : ∀ (m : Asc), lkA (dropA m k) k' = if k' = k then none else lkA m k'
  | [] => by unfold dropA lkA; simp
  | a :: r => by
    have ih := lkA_drop (k := k) k' r
    unfold dropA at ih ⊢
    by_cases q : a.1 = k
    · rw [List.filter_cons_of_neg (by simp [q]), ih]
      by_cases e : k' = k
      · rw [if_pos e, if_pos e]
      · rw [if_neg e, if_neg e]
        unfold lkA
        rw [if_neg (fun z => e (z.symm.trans q))]
        cases r <;> rfl
    · rw [List.filter_cons_of_pos (by simp [q])]
      unfold lkA
      by_cases e : a.1 = k'
      · rw [if_pos e, if_pos e, if_neg (fun z => q (e.trans z))]
      · rw [if_neg e, if_neg e]
        cases r with
        | nil => simpa [dropA] using ih
        | cons b t => exact ih
theorem putA_keys {k x : List Nat} : ∀ (m : Asc), (m.map (·.1)).Nodup → ((putA m k x).map (·.1)).Nodup ∧ ∀ e ∈ putA m k x, e = (k, x) ∨ (e ∈ m ∧ e.1 ≠ k)
  | [], _ => ⟨List.nodup_cons.mpr ⟨List.not_mem_nil, List.nodup_nil⟩, fun e he => .inl (List.mem_singleton.mp he)⟩
  | a :: r, nd => by
    have nd' : a.1 ∉ r.map (·.1) ∧ (r.map (·.1)).Nodup := List.nodup_cons.mp nd
    obtain ⟨i1, i2⟩ := putA_keys (k := k) (x := x) r nd'.2
    unfold putA
    by_cases q : a.1 = k
    · rw [if_pos q]
      refine ⟨nd, fun e he => ?_⟩
      rcases List.mem_cons.mp he with z | he
      · exact .inl (by rw [z, q])
      · exact .inr ⟨List.mem_cons_of_mem _ he, fun z => nd'.1 (by rw [q, ← z]; exact List.mem_map_of_mem (f := fun e => e.1) he)⟩
    · rw [if_neg q]
      refine ⟨List.nodup_cons.mpr ⟨fun z => ?_, i1⟩, fun e he => ?_⟩
      · obtain ⟨e, he, z⟩ := List.mem_map.mp z
        rcases i2 e he with w | ⟨w, _⟩
        · rw [w] at z; exact q z.symm
        · have z : e.1 = a.1 := z
          exact nd'.1 (by rw [← z]; exact List.mem_map_of_mem (f := fun e => e.1) w)
      · rcases List.mem_cons.mp he with z | he
        · exact .inr ⟨by rw [z]; exact List.mem_cons_self, by rw [z]; exact q⟩
        · rcases i2 e he with w | ⟨w, w2⟩
          · exact .inl w
          · exact .inr ⟨List.mem_cons_of_mem _ w, w2⟩
theorem dropA_mem {k : List Nat} {m : Asc} {e : List Nat × List Nat} (h : e ∈ dropA m k) : e ∈ m := (List.mem_filter.mp h).1
theorem dropA_nd {k : List Nat} {m : Asc} (h : (m.map (·.1)).Nodup) : ((dropA m k).map (·.1)).Nodup := h.sublist (List.Sublist.map _ List.filter_sublist)
theorem dropA_none {k : List Nat} {m : Asc} (h : lkA m k = none) : dropA m k = m := List.filter_eq_self.mpr fun e he => by simp [lkA_none h e he]
theorem valV_kvM (k : List Nat) : ∀ m : Asc, valV (kvM m) (Sum.inr (SX.S k) : Key) = (lkA m k).map fun x => V.str (SX.S x)
  | [] => rfl
  | e :: r => by
    unfold lkA
    by_cases h : e.1 = k
    · rw [if_pos h]
      exact valV_pos (p := ((Sum.inr (SX.S e.1) : Key), V.str (SX.S e.2))) ((key_iff e.1 k).mpr h)
    · rw [if_neg h, ← valV_kvM k r]
      exact valV_neg (p := ((Sum.inr (SX.S e.1) : Key), V.str (SX.S e.2))) (fun z => h ((key_iff e.1 k).mp z))
theorem kvM_id {k : List Nat} {v : V} : ∀ {m : Asc}, (∀ e ∈ m, e.1 ≠ k) → (kvM m).map (fun kv => if kv.1 = (Sum.inr (SX.S k) : Key) then (kv.1, v) else kv) = kvM m
  | [], _ => rfl
  | e :: r, h => by
    show (if (Sum.inr (SX.S e.1) : Key) = Sum.inr (SX.S k) then _ else _) :: _ = _
    rw [if_neg (fun z => h e List.mem_cons_self ((key_iff e.1 k).mp z))]
    exact congrArg (List.cons ((Sum.inr (SX.S e.1) : Key), V.str (SX.S e.2))) (kvM_id fun a ha => h a (List.mem_cons_of_mem _ ha))
theorem putK_kvM (k x : List Nat) : ∀ {m : Asc}, (m.map (·.1)).Nodup → putK (kvM m) (Sum.inr (SX.S k) : Key) (V.str (SX.S x)) = kvM (putA m k x)
  | [], _ => rfl
  | e :: r, nd => by
    have nd' : e.1 ∉ r.map (·.1) ∧ (r.map (·.1)).Nodup := List.nodup_cons.mp nd
    have ih := putK_kvM k x nd'.2
    unfold putA
    by_cases h : e.1 = k
    · rw [if_pos h]
      unfold putK
      have q : ((kvM (e :: r)).any fun kv => decide (kv.1 = (Sum.inr (SX.S k) : Key))) = true := by
        show (decide ((Sum.inr (SX.S e.1) : Key) = Sum.inr (SX.S k)) || _) = true
        rw [decide_eq_true ((key_iff e.1 k).mpr h)]; rfl
      rw [if_pos q]
      show (if (Sum.inr (SX.S e.1) : Key) = Sum.inr (SX.S k) then _ else _) :: _ = _
      rw [if_pos ((key_iff e.1 k).mpr h)]
      have hr : ∀ a ∈ r, a.1 ≠ k := fun a ha z => nd'.1 (by rw [h, ← z]; exact List.mem_map_of_mem (f := fun e => e.1) ha)
      exact congrArg (List.cons ((Sum.inr (SX.S e.1) : Key), V.str (SX.S x))) (kvM_id hr)
    · rw [if_neg h]
      have hk : ¬ ((Sum.inr (SX.S e.1) : Key) = Sum.inr (SX.S k)) := fun z => h ((key_iff e.1 k).mp z)
      have a1 : ((kvM (e :: r)).any fun kv => decide (kv.1 = (Sum.inr (SX.S k) : Key))) = ((kvM r).any fun kv => decide (kv.1 = (Sum.inr (SX.S k) : Key))) := by
        show (decide ((Sum.inr (SX.S e.1) : Key) = Sum.inr (SX.S k)) || _) = _
        rw [decide_eq_false hk]; rfl
      unfold putK at ih ⊢
      rw [a1]
      split at ih
      · rename_i q
        rw [if_pos q]
        show (if (Sum.inr (SX.S e.1) : Key) = Sum.inr (SX.S k) then _ else _) :: _ = _
        rw [if_neg hk]
        exact congrArg (List.cons ((Sum.inr (SX.S e.1) : Key), V.str (SX.S e.2))) ih
      · rename_i q
        rw [if_neg q]
        exact congrArg (List.cons ((Sum.inr (SX.S e.1) : Key), V.str (SX.S e.2))) ih
theorem dropK_kvM (k : List Nat) : ∀ m : Asc, dropK (kvM m) (Sum.inr (SX.S k) : Key) = kvM (dropA m k)
  | [] => rfl
  | e :: r => by
    have ih := dropK_kvM k r
    unfold dropK dropA at ih ⊢
    by_cases h : e.1 = k
    · rw [List.filter_cons_of_neg (by simp [h])]
      show List.filter _ (_ :: _) = _
      rw [List.filter_cons_of_neg (by simp [(key_iff e.1 k).mpr h])]
      exact ih
    · have hk : ¬ ((Sum.inr (SX.S e.1) : Key) = Sum.inr (SX.S k)) := fun z => h ((key_iff e.1 k).mp z)
      rw [List.filter_cons_of_pos (by simp [h])]
      show List.filter _ (_ :: _) = _ :: _
      rw [List.filter_cons_of_pos (by simp [hk])]
      exact congrArg (List.cons ((Sum.inr (SX.S e.1) : Key), V.str (SX.S e.2))) ih
/-! ### a yard with its handlers and the law's row for it -/
def kOut : List Nat := [111, 117, 116]
def kErr : List Nat := [101, 114, 114]
def kFile : List Nat := [102]
def kNow : List Nat := [110, 111, 119]
def kFiles : List Nat := [102, 105, 108, 101, 115]
def kTexts : List Nat := [116, 101, 120, 116, 115]
def K5 : List (List Nat) := [[102], [103], [102, 46, 49], [97, 32, 98], [70]]
def K3 : List (List Nat) := [kOut, [], kErr]
structure YA2 where
  (y dy h0 d0 f0 h1 d1 f1 h2 d2 f2 h3 d3 f3 hd rd rf rt : Addr)
  Y : YA
def YA2.stat (A : YA2) : List Addr := [A.y, A.Y.lv, A.Y.n1, A.Y.ss, A.Y.fs, A.f0, A.f1, A.f2, A.f3, A.hd]
def YA2.mut (A : YA2) : List Addr := [A.Y.ck, A.Y.sk, A.Y.fk, A.h0, A.h1, A.h2, A.h3, A.rd, A.rf, A.rt]
def hdK (A : YA2) : List (Key × V) := [(.inr (SX.S kOut), .ref A.h0), (.inr (SX.S []), .ref A.h1), (.inr (SX.S kErr), .ref A.h2), (.inr (SX.S kFile), .ref A.h3)]
def rowK (A : YA2) (now : Int) : List (Key × V) := [(.inr (SX.S kNow), .int now), (.inr (SX.S kFiles), .ref A.rf), (.inr (SX.S kTexts), .ref A.rt)]
section
variable {K : PySem.W.Frag} {mg : Str → Option Value}
/-- what never changes -/
structure YSt (T : Txt K mg) (H : Hp) (A : YA2) : Prop where
  y : H A.y = some (.ins T.C_Yard A.dy (fYd A.Y))
  lv : H A.Y.lv = some (.ins T.C_LevelTable A.Y.dlv (fLv A.Y.n1 A.Y.n2))
  n1 : H A.Y.n1 = some (.dK firstNames)
  ss : H A.Y.ss = some (.ins T.C_Store A.Y.dss (fSt A.Y.ck A.Y.sk))
  fs : H A.Y.fs = some (.ins T.C_Store A.Y.dfs (fSt A.Y.ck A.Y.fk))
  f0 : H A.f0 = some (.lst [])
  f1 : H A.f1 = some (.lst [])
  f2 : H A.f2 = some (.lst [])
  f3 : H A.f3 = some (.lst [])
  hd : H A.hd = some (.dK (hdK A))
theorem YSt.keep {T : Txt K mg} {H H' : Hp} {A : YA2} (s : YSt T H A) (k : ∀ b ∈ A.stat, ∀ u, H b = some u → H' b = some u) : YSt T H' A := by
  refine ⟨k _ ?_ _ s.y, k _ ?_ _ s.lv, k _ ?_ _ s.n1, k _ ?_ _ s.ss, k _ ?_ _ s.fs, k _ ?_ _ s.f0, k _ ?_ _ s.f1, k _ ?_ _ s.f2, k _ ?_ _ s.f3, k _ ?_ _ s.hd⟩ <;> simp [YA2.stat]
structure YVal where
  (nc nr : Int)
  (fc tc : List Nat → Option (List Nat))
  (fm tm : Asc)
  (ss fs : SMap)
  (z0 z1 z2 z3 : List Nat)
  o : Bool
/-- a yard, as it stands: W what it holds, n: so many deeds at most have been done -/
structure YOk (T : Txt K mg) (F : Addr → Prop) (H : Hp) (A : YA2) (n : Nat) (W : YVal) : Prop where
  st : YSt T H A
  ck : H A.Y.ck = some (.ins T.C_Clock A.Y.dck [("shown", .int W.nc)])
  sS : StAt T.C_Written H A.Y.sk W.ss (n + 1)
  sF : StAt T.C_Written H A.Y.fk W.fs (n + 1)
  h0 : H A.h0 = some (.ins T.C_StreamHandler A.d0 (fSz A.y A.f0 W.z0 kOut))
  h1 : H A.h1 = some (.ins T.C_StreamHandler A.d1 (fSz A.y A.f1 W.z1 []))
  h2 : H A.h2 = some (.ins T.C_StreamHandler A.d2 (fSz A.y A.f2 W.z2 kErr))
  h3 : H A.h3 = some (.ins T.C_FileHandler A.d3 (fFh A.y A.f3 W.z3 kFile W.o))
  rd : H A.rd = some (.dK (rowK A W.nr))
  rf : H A.rf = some (.dK (kvM W.fm))
  rt : H A.rt = some (.dK (kvM W.tm))
  relF : ∀ k, cont W.fs k = W.fc k
  relT : ∀ k, cont W.ss k = W.tc k
  nF : (W.fm.map (·.1)).Nodup
  nT : (W.tm.map (·.1)).Nodup
  kF : ∀ e ∈ W.fm, e.1 ∈ K5
  kT : ∀ e ∈ W.tm, e.1 ∈ K3
  eF : ∀ e ∈ W.fm, e.2.length ≤ 20 * n
  eT : ∀ e ∈ W.tm, e.2.length ≤ 20 * n
  cF : ∀ k l, W.fc k = some l → l.length ≤ 20 * n
  cT : ∀ k l, W.tc k = some l → l.length ≤ 20 * n
  lS : W.ss.length ≤ 2 * n
  lF : W.fs.length ≤ 2 * n
  z : W.z0.length ≤ 1 ∧ W.z1.length ≤ 1 ∧ W.z2.length ≤ 1 ∧ W.z3.length ≤ 1
  nd : A.mut.Nodup
  sep : ∀ a ∈ A.stat, a ∉ A.mut ∧ a ∉ ft W.ss ∧ a ∉ ft W.fs
  mS : ∀ a ∈ A.mut, a ∉ ft W.ss ∧ a ∉ ft W.fs
  wn : ∀ a ∈ ft W.ss, a ∉ ft W.fs
  FF : ∀ b, F b ↔ b ∈ A.mut ∨ b ∈ ft W.ss ∨ b ∈ ft W.fs
theorem StAt.keep {CW kp : Addr} {H H' : Hp} {m : SMap} {n : Nat} (s : StAt CW H kp m n) (h1 : ∀ u, H kp = some u → H' kp = some u) (h2 : ∀ a ∈ ft m, ∀ u, H a = some u → H' a = some u) : StAt CW H' kp m n :=
  ⟨h1 _ s.hk, fun e he => (s.hw e he).keep (fun u => h2 _ (ft_wr he) u) fun u => h2 _ (ft_pa he) u, s.nw, s.np, s.kd, s.len⟩
theorem StAt.tr {CW kp : Addr} {H : Hp} {m : SMap} {n : Nat} (s : StAt CW H kp m n) : ∀ a ∈ ft m, H a ≠ none := fun a ha e => (s.old e).2 ha
/-- all that a yard stands on stays -/
theorem YOk.keep {T : Txt K mg} {F : Addr → Prop} {H H' : Hp} {A : YA2} {n : Nat} {W : YVal} (s : YOk T F H A n W) (k : ∀ b, (F b ∨ b ∈ A.stat) → ∀ u, H b = some u → H' b = some u) : YOk T F H' A n W := by
  have km : ∀ b ∈ A.mut, ∀ u, H b = some u → H' b = some u := fun b hb => k b (.inl ((s.FF b).mpr (.inl hb)))
  exact ⟨s.st.keep fun b hb => k b (.inr hb), km _ (by simp [YA2.mut]) _ s.ck, s.sS.keep (km _ (by simp [YA2.mut])) (fun a ha => k a (.inl ((s.FF a).mpr (.inr (.inl ha))))), s.sF.keep (km _ (by simp [YA2.mut])) (fun a ha => k a (.inl ((s.FF a).mpr (.inr (.inr ha))))),
    km _ (by simp [YA2.mut]) _ s.h0, km _ (by simp [YA2.mut]) _ s.h1, km _ (by simp [YA2.mut]) _ s.h2, km _ (by simp [YA2.mut]) _ s.h3, km _ (by simp [YA2.mut]) _ s.rd, km _ (by simp [YA2.mut]) _ s.rf, km _ (by simp [YA2.mut]) _ s.rt,
    s.relF, s.relT, s.nF, s.nT, s.kF, s.kT, s.eF, s.eT, s.cF, s.cT, s.lS, s.lF, s.z, s.nd, s.sep, s.mS, s.wn, s.FF⟩
/-- F is there -/
theorem YOk.tr {T : Txt K mg} {F : Addr → Prop} {H : Hp} {A : YA2} {n : Nat} {W : YVal} (s : YOk T F H A n W) : ∀ b, (F b ∨ b ∈ A.stat) → H b ≠ none := by
  rintro b (hb | hb)
  · rcases (s.FF b).mp hb with h | h | h
    · simp only [YA2.mut, List.mem_cons, List.not_mem_nil, or_false] at h
      rcases h with rfl | rfl | rfl | rfl | rfl | rfl | rfl | rfl | rfl | rfl
      · rw [s.ck]; exact fun z => nomatch z
      · rw [s.sS.hk]; exact fun z => nomatch z
      · rw [s.sF.hk]; exact fun z => nomatch z
      · rw [s.h0]; exact fun z => nomatch z
      · rw [s.h1]; exact fun z => nomatch z
      · rw [s.h2]; exact fun z => nomatch z
      · rw [s.h3]; exact fun z => nomatch z
      · rw [s.rd]; exact fun z => nomatch z
      · rw [s.rf]; exact fun z => nomatch z
      · rw [s.rt]; exact fun z => nomatch z
    · exact s.sS.tr b h
    · exact s.sF.tr b h
  · simp only [YA2.stat, List.mem_cons, List.not_mem_nil, or_false] at hb
    rcases hb with rfl | rfl | rfl | rfl | rfl | rfl | rfl | rfl | rfl | rfl
    · rw [s.st.y]; exact fun z => nomatch z
    · rw [s.st.lv]; exact fun z => nomatch z
    · rw [s.st.n1]; exact fun z => nomatch z
    · rw [s.st.ss]; exact fun z => nomatch z
    · rw [s.st.fs]; exact fun z => nomatch z
    · rw [s.st.f0]; exact fun z => nomatch z
    · rw [s.st.f1]; exact fun z => nomatch z
    · rw [s.st.f2]; exact fun z => nomatch z
    · rw [s.st.f3]; exact fun z => nomatch z
    · rw [s.st.hd]; exact fun z => nomatch z
/-- something new -/
theorem YOk.new {T : Txt K mg} {F : Addr → Prop} {H : Hp} {A : YA2} {n : Nat} {W : YVal} {x : Addr} {o : HO} (s : YOk T F H A n W) (hx : H x = none) : YOk T F (upd H x o) A n W :=
  s.keep fun b hb u e => by rw [upd_ne (fun z => s.tr b hb (by rw [z]; exact hx))]; exact e
theorem YOk.same {T : Txt K mg} {F : Addr → Prop} {H H' : Hp} {A : YA2} {n : Nat} {W : YVal} (s : YOk T F H A n W) (h : Same H H') : YOk T F H' A n W := s.keep fun b _ u e => h b u e
end
end My

namespace My
open PySem PySem.Spec PyProof.Rows L2 SuX
local macro_rules | `(tactic| walk_at "hp") => `(tactic| first | assumption | exact upd_same | (refine Eq.trans (upd_ne (by first | assumption | (apply Ne.symm; assumption))) ?_; walk_at "hp"))
local macro_rules | `(tactic| walk_at "ixl") => `(tactic| (refine' ⟨_, ?xs, _, ?vv, rfl, rfl, SqL.of ?hh, ?aa, ?qq⟩; (case hh => walk_at "hp"); (case aa => rfl)))
local macro_rules | `(tactic| walk_at "setl") => `(tactic| (refine' ⟨_, ?xs, _, ?jj, rfl, rfl, ?hh, ?aa, ?qq⟩; (case hh => walk_at "hp"); (case aa => rfl)))
local macro_rules | `(tactic| walk_at "cond") => `(tactic| first | exact ⟨_, rfl⟩ | exact Nat.le_of_lt (small1000 (Nat.le_of_ble_eq_true rfl)) | decide | omega | (dsimp only; omega) | exact ⟨by decide, by decide⟩ | exact Or.inr ⟨by decide, by decide⟩ | exact Or.inl ⟨by decide, by decide⟩ | exact ⟨by decide, by decide, by decide⟩ | exact ⟨by omega, by omega⟩ | exact ⟨by omega, by omega, by omega⟩ | (simp only [List.length_cons, List.length_nil, List.length_append, List.length_take, List.length_drop]; omega) | (refine ⟨?_, ?_, ?_⟩ <;> first | decide | omega | (simp only [List.length_cons, List.length_nil, List.length_append, List.length_take, List.length_drop, Option.getD_some, Option.getD_none]; omega)))
local macro_rules | `(tactic| walk_at "st") => `(tactic| repeat (first | refine ⟨_, rfl, ?_⟩ | refine ⟨_, _, rfl, rfl, ?_⟩ | walk_at "ixl" | walk_at "setl" | refine ⟨rfl, ?_⟩ | refine Or.inl ⟨_, rfl, ?_⟩ | refine And.intro (by walk_at "cond") ?_))
local macro_rules | `(tactic| walk_at "cls") => `(tactic| first | exact OC.cl (by assumption) | exact (‹Txt _ _›).o_Clock.cl | exact (‹Txt _ _›).o_LevelTable.cl | exact (‹Txt _ _›).o_Store.cl | exact (‹Txt _ _›).o_Written.cl | exact (‹Txt _ _›).o_Roster.cl | exact (‹Txt _ _›).o_Handler.cl | exact (‹Txt _ _›).o_Logger.cl | exact (‹Txt _ _›).o_LoggerTree.cl | exact (‹Txt _ _›).o_StreamHandler.cl | exact (‹Txt _ _›).o_FileHandler.cl | exact (‹Txt _ _›).o_LogRecord.cl | exact (‹Txt _ _›).o_Yard.cl)
local macro_rules | `(tactic| walk_at "na") => `(tactic| first | (refine na_of (by assumption) ?_; decide) | (refine na_of (‹Txt _ _›).o_Clock ?_; decide) | (refine na_of (‹Txt _ _›).o_LevelTable ?_; decide) | (refine na_of (‹Txt _ _›).o_Store ?_; decide) | (refine na_of (‹Txt _ _›).o_Written ?_; decide) | (refine na_of (‹Txt _ _›).o_Roster ?_; decide) | (refine na_of (‹Txt _ _›).o_Handler ?_; decide) | (refine na_of (‹Txt _ _›).o_Logger ?_; decide) | (refine na_of (‹Txt _ _›).o_LoggerTree ?_; decide) | (refine na_of (‹Txt _ _›).o_StreamHandler ?_; decide) | (refine na_of (‹Txt _ _›).o_FileHandler ?_; decide) | (refine na_of (‹Txt _ _›).o_LogRecord ?_; decide) | (refine na_of (‹Txt _ _›).o_Yard ?_; decide))
local macro_rules | `(tactic| walk_at "fld") => `(tactic| (refine' ⟨_, _, _, _, ?vv, rfl, ?hh, ?cc, ?nn, ?ll, ?qq⟩; (case hh => walk_at "hp"); (case cc => walk_at "cls"); (case nn => walk_at "na"); (case ll => exact rfl)))
local macro_rules | `(tactic| walk_at "sto") => `(tactic| (refine' ⟨_, _, _, _, rfl, ?hh, ?cc, ?nn, ?ll, ?qq⟩; (case hh => walk_at "hp"); (case cc => walk_at "cls"); (case nn => walk_at "na"); (case ll => first | exact Nat.le_of_ble_eq_true rfl | assumption)))
local macro_rules | `(tactic| walk_at "mth") => `(tactic| (refine' ⟨_, _, _, rfl, ?hh, ?ll, ?qq⟩; (case hh => walk_at "hp"); (case ll => exact rfl)))
local macro_rules | `(tactic| walk_at "sx") => `(tactic| repeat (first | refine ⟨_, rfl, ?_⟩ | refine ⟨_, _, rfl, rfl, ?_⟩ | walk_at "ixl" | walk_at "setl" | refine ⟨rfl, ?_⟩ | refine Or.inl ⟨_, rfl, ?_⟩ | walk_at "fld" | walk_at "sto" | walk_at "mth" | refine And.intro (by walk_at "cond") ?_))
theorem for_rng {lo : Int} {n : Nat} {g : TG} {tb : TS} {D : Ends} {σ : L2.St} {H : Hp} (W : Nat → L2.St → Hp → Prop) (h0 : W 0 σ H) (hend : ∀ σ H, W n σ H → D.nx σ H)
    (hs : ∀ (R : L2.St → Hp → Prop) (i : Nat) σ H, i < n → W i σ H → ∀ N : L2.St → Hp → Prop, N = (fun σ' H' => Hd (W (i + 1) σ' H')) → g (.int (lo + i)) σ H fun σ2 H2 => tb { D with nx := N, ct := N, bk := D.nx } σ2 H2) :
    ∃ W : Nat → Nat → L2.St → Hp → Prop, (∃ m, W 0 m σ H) ∧ ∀ i m σ H, W i m σ H →
      ((Itr lo n).stop i H ∧ D.nx σ H) ∨ ((Itr lo n).go i H ∧ ∃ N : L2.St → Hp → Prop, (∀ σ' H', N σ' H' → ∃ m', m' < m ∧ W (i + 1) m' σ' H') ∧ ∀ x H', (Itr lo n).yld i H x H' → g x σ H' fun σ2 H2 => tb { D with nx := N, ct := N, bk := D.nx } σ2 H2) := by
  refine ⟨fun i m σ H => W i σ H ∧ m = n - i ∧ i ≤ n, ⟨_, h0, rfl, Nat.zero_le _⟩, ?_⟩
  rintro i m σ H ⟨hw, rfl, hi⟩
  by_cases hlt : i < n
  · refine .inr ⟨hlt, fun σ' H' => Hd (W (i + 1) σ' H'), fun σ' H' z => ⟨n - (i + 1), by omega, z.out, rfl, by omega⟩, ?_⟩
    rintro x H' ⟨rfl, rfl⟩
    exact hs D.nx i σ H' hlt hw _ rfl
  · have e : i = n := by omega
    subst e
    exact .inl ⟨Nat.le_refl _, hend σ H hw⟩
section
variable {K : PySem.W.Frag} {mg : Str → Option Value}
theorem YOk.trk {T : Txt K mg} {F : Addr → Prop} {H : Hp} {A : YA2} {n : Nat} {W : YVal} (s : YOk T F H A n W) {a : Addr} (h : a ∈ A.stat ∨ a ∈ A.mut ∨ a ∈ ft W.ss ∨ a ∈ ft W.fs) : H a ≠ none :=
  h.elim (fun z => s.tr a (.inr z)) fun z => s.tr a (.inl ((s.FF a).mpr z))
theorem sg_len {m m' : SMap} (h : sg m' = sg m) : m'.length = m.length := by
  have := congrArg List.length h
  unfold sg at this
  simpa using this
/-- the files' texts have been looked at -/
theorem YOk.seenF {T : Txt K mg} {F : Addr → Prop} {H H' : Hp} {A : YA2} {n : Nat} {W : YVal} {fs' : SMap} (s : YOk T F H A n W) (q : Seen T.C_Written H A.Y.fk W.fs (n + 1) H' fs') :
    YOk T (fun b => b ∈ A.mut ∨ b ∈ ft W.ss ∨ b ∈ ft fs') H' A n { W with fs := fs' } ∧ (∀ b, (b ∈ A.mut ∨ b ∈ ft W.ss ∨ b ∈ ft fs') → F b ∨ H b = none) ∧ ∀ b u, ¬ F b → H b = some u → H' b = some u := by
  have k : ∀ b, b ∉ ft W.fs → ∀ u, H b = some u → H' b = some u := fun b hb u e => q.fr b u (fun z => hb (List.mem_append_left _ z)) e
  have nw : ∀ a, (a ∈ A.stat ∨ a ∈ A.mut ∨ a ∈ ft W.ss) → a ∉ ft W.fs → a ∉ ft fs' := fun a h nf z => by
    rcases q.fts a z with w | w
    · exact nf w
    · exact s.trk (h.elim .inl fun h => h.elim (fun h => .inr (.inl h)) fun h => .inr (.inr (.inl h))) w
  have km : ∀ b ∈ A.mut, ∀ u, H b = some u → H' b = some u := fun b hb => k b (s.mS b hb).2
  refine ⟨⟨s.st.keep fun b hb => k b (s.sep b hb).2.2, km _ (by simp [YA2.mut]) _ s.ck, s.sS.keep (km _ (by simp [YA2.mut])) (fun a ha => k a (s.wn a ha)), q.st,
    km _ (by simp [YA2.mut]) _ s.h0, km _ (by simp [YA2.mut]) _ s.h1, km _ (by simp [YA2.mut]) _ s.h2, km _ (by simp [YA2.mut]) _ s.h3, km _ (by simp [YA2.mut]) _ s.rd, km _ (by simp [YA2.mut]) _ s.rf, km _ (by simp [YA2.mut]) _ s.rt,
    fun k' => by rw [← s.relF k']; exact cont_sg q.sge k', s.relT, s.nF, s.nT, s.kF, s.kT, s.eF, s.eT, s.cF, s.cT, s.lS, by rw [show ({ W with fs := fs' } : YVal).fs = fs' from rfl, sg_len q.sge]; exact s.lF, s.z, s.nd,
    fun a ha => ⟨(s.sep a ha).1, (s.sep a ha).2.1, nw a (.inl ha) (s.sep a ha).2.2⟩, fun a ha => ⟨(s.mS a ha).1, nw a (.inr (.inl ha)) (s.mS a ha).2⟩, fun a ha => nw a (.inr (.inr ha)) (s.wn a ha), fun b => Iff.rfl⟩, ?_, ?_⟩
  · rintro b (h | h | h)
    · exact .inl ((s.FF b).mpr (.inl h))
    · exact .inl ((s.FF b).mpr (.inr (.inl h)))
    · exact (q.fts b h).elim (fun z => .inl ((s.FF b).mpr (.inr (.inr z)))) .inr
  · exact fun b u nf => k b (fun z => nf ((s.FF b).mpr (.inr (.inr z)))) u
/-- the streams' texts have been looked at -/
theorem YOk.seenS {T : Txt K mg} {F : Addr → Prop} {H H' : Hp} {A : YA2} {n : Nat} {W : YVal} {ss' : SMap} (s : YOk T F H A n W) (q : Seen T.C_Written H A.Y.sk W.ss (n + 1) H' ss') :
    YOk T (fun b => b ∈ A.mut ∨ b ∈ ft ss' ∨ b ∈ ft W.fs) H' A n { W with ss := ss' } ∧ (∀ b, (b ∈ A.mut ∨ b ∈ ft ss' ∨ b ∈ ft W.fs) → F b ∨ H b = none) ∧ ∀ b u, ¬ F b → H b = some u → H' b = some u := by
  have k : ∀ b, b ∉ ft W.ss → ∀ u, H b = some u → H' b = some u := fun b hb u e => q.fr b u (fun z => hb (List.mem_append_left _ z)) e
  have nw : ∀ a, (a ∈ A.stat ∨ a ∈ A.mut ∨ a ∈ ft W.fs) → a ∉ ft W.ss → a ∉ ft ss' := fun a h nf z => by
    rcases q.fts a z with w | w
    · exact nf w
    · exact s.trk (h.elim .inl fun h => h.elim (fun h => .inr (.inl h)) fun h => .inr (.inr (.inr h))) w
  have km : ∀ b ∈ A.mut, ∀ u, H b = some u → H' b = some u := fun b hb => k b (s.mS b hb).1
  have wn' : ∀ a ∈ ft W.fs, a ∉ ft W.ss := fun a h z => s.wn a z h
  refine ⟨⟨s.st.keep fun b hb => k b (s.sep b hb).2.1, km _ (by simp [YA2.mut]) _ s.ck, q.st, s.sF.keep (km _ (by simp [YA2.mut])) (fun a ha => k a (wn' a ha)),
    km _ (by simp [YA2.mut]) _ s.h0, km _ (by simp [YA2.mut]) _ s.h1, km _ (by simp [YA2.mut]) _ s.h2, km _ (by simp [YA2.mut]) _ s.h3, km _ (by simp [YA2.mut]) _ s.rd, km _ (by simp [YA2.mut]) _ s.rf, km _ (by simp [YA2.mut]) _ s.rt,
    s.relF, fun k' => by rw [← s.relT k']; exact cont_sg q.sge k', s.nF, s.nT, s.kF, s.kT, s.eF, s.eT, s.cF, s.cT, by rw [show ({ W with ss := ss' } : YVal).ss = ss' from rfl, sg_len q.sge]; exact s.lS, s.lF, s.z, s.nd,
    fun a ha => ⟨(s.sep a ha).1, nw a (.inl ha) (s.sep a ha).2.1, (s.sep a ha).2.2⟩, fun a ha => ⟨nw a (.inr (.inl ha)) (s.mS a ha).1, (s.mS a ha).2⟩, fun a ha z => nw a (.inr (.inr z)) (wn' a z) ha, fun b => Iff.rfl⟩, ?_, ?_⟩
  · rintro b (h | h | h)
    · exact .inl ((s.FF b).mpr (.inl h))
    · exact (q.fts b h).elim (fun z => .inl ((s.FF b).mpr (.inr (.inl z)))) .inr
    · exact .inl ((s.FF b).mpr (.inr (.inr h)))
  · exact fun b u nf => k b (fun z => nf ((s.FF b).mpr (.inr (.inl z)))) u
/-- since H0: what may have been changed is F0's or new -/
structure Rch (T : Txt K mg) (F0 : Addr → Prop) (H0 : Hp) (A : YA2) (n : Nat) (W0 : YVal) (H : Hp) (W : YVal) : Prop where
  ex : ∃ F, YOk T F H A n W ∧ ∀ b, F b → F0 b ∨ H0 b = none
  fr : ∀ b u, ¬ F0 b → H0 b = some u → H b = some u
  vl : ∃ ss fs, W = { W0 with ss := ss, fs := fs }
theorem Rch.refl {T : Txt K mg} {F : Addr → Prop} {H : Hp} {A : YA2} {n : Nat} {W : YVal} (s : YOk T F H A n W) : Rch T F H A n W H W := ⟨⟨F, s, fun _ h => .inl h⟩, fun _ _ _ e => e, ⟨W.ss, W.fs, rfl⟩⟩
theorem Rch.new {T : Txt K mg} {F0 : Addr → Prop} {H0 H : Hp} {A : YA2} {n : Nat} {W0 W : YVal} {x : Addr} {o : HO} (r : Rch T F0 H0 A n W0 H W) (hx : H x = none) : Rch T F0 H0 A n W0 (upd H x o) W := by
  obtain ⟨F, s, hF⟩ := r.ex
  exact ⟨⟨F, s.new hx, hF⟩, fun b u nf e => by
    have e' := r.fr b u nf e
    rw [upd_ne (fun z => by rw [z, hx] at e'; cases e')]; exact e', r.vl⟩
theorem Rch.same {T : Txt K mg} {F0 : Addr → Prop} {H0 H H' : Hp} {A : YA2} {n : Nat} {W0 W : YVal} (r : Rch T F0 H0 A n W0 H W) (h : Same H H') : Rch T F0 H0 A n W0 H' W := by
  obtain ⟨F, s, hF⟩ := r.ex
  exact ⟨⟨F, s.same h, hF⟩, fun b u nf e => h b u (r.fr b u nf e), r.vl⟩
theorem Rch.step {T : Txt K mg} {F0 F1 F2 : Addr → Prop} {H0 H H' : Hp} {A : YA2} {n : Nat} {W0 W W' : YVal} (r : Rch T F0 H0 A n W0 H W) (hF1 : ∀ b, F1 b → F0 b ∨ H0 b = none) (s2 : YOk T F2 H' A n W') (h1 : ∀ b, F2 b → F1 b ∨ H b = none) (h2 : ∀ b u, ¬ F1 b → H b = some u → H' b = some u) (hv : ∃ ss fs, W' = { W with ss := ss, fs := fs }) : Rch T F0 H0 A n W0 H' W' := by
  refine ⟨⟨F2, s2, fun b hb => ?_⟩, fun b u nf e => h2 b u (fun z => ?_) (r.fr b u nf e), ?_⟩
  · rcases h1 b hb with z | z
    · exact hF1 b z
    · cases e : H0 b with
      | none => exact .inr rfl
      | some u =>
        by_cases nf : F0 b
        · exact .inl nf
        · have := r.fr b u nf e; rw [z] at this; cases this
  · rcases hF1 b z with w | w
    · exact nf w
    · rw [w] at e; cases e
  · obtain ⟨a, b, e⟩ := r.vl
    obtain ⟨c, d, e2⟩ := hv
    exact ⟨c, d, by rw [e2, e]⟩
/-- something of ours at a place that the yard does not stand on -/
theorem Rch.put {T : Txt K mg} {F0 : Addr → Prop} {H0 H : Hp} {A : YA2} {n : Nat} {W0 W : YVal} {x : Addr} {o : HO} (r : Rch T F0 H0 A n W0 H W) (h0 : ∀ u, ¬ F0 x → H0 x = some u → False) (nx : ∀ F, YOk T F H A n W → ¬ F x) (nst : x ∉ A.stat) : Rch T F0 H0 A n W0 (upd H x o) W := by
  obtain ⟨F, s, hF⟩ := r.ex
  refine ⟨⟨F, s.keep fun b hb u e => ?_, hF⟩, fun b u nf e => ?_, r.vl⟩
  · rw [upd_ne (fun z => by rw [z] at hb; exact hb.elim (nx F s) nst)]; exact e
  · rw [upd_ne (fun z => by rw [z] at e nf; exact h0 u nf e)]; exact r.fr b u nf e
end
end My

namespace My
open PySem PySem.Spec PyProof.Rows L2 SuX
local macro_rules | `(tactic| walk_at "hp") => `(tactic| first | assumption | exact upd_same | (refine Eq.trans (upd_ne (by first | assumption | (apply Ne.symm; assumption))) ?_; walk_at "hp"))
local macro_rules | `(tactic| walk_at "ixl") => `(tactic| (refine' ⟨_, ?xs, _, ?vv, rfl, rfl, SqL.of ?hh, ?aa, ?qq⟩; (case hh => walk_at "hp"); (case aa => rfl)))
local macro_rules | `(tactic| walk_at "setl") => `(tactic| (refine' ⟨_, ?xs, _, ?jj, rfl, rfl, ?hh, ?aa, ?qq⟩; (case hh => walk_at "hp"); (case aa => rfl)))
local macro_rules | `(tactic| walk_at "cond") => `(tactic| first | exact ⟨_, rfl⟩ | exact Nat.le_of_lt (small1000 (Nat.le_of_ble_eq_true rfl)) | decide | omega | (dsimp only; omega) | exact ⟨by decide, by decide⟩ | exact Or.inr ⟨by decide, by decide⟩ | exact Or.inl ⟨by decide, by decide⟩ | exact ⟨by decide, by decide, by decide⟩ | exact ⟨by omega, by omega⟩ | exact ⟨by omega, by omega, by omega⟩ | (simp only [List.length_cons, List.length_nil, List.length_append, List.length_take, List.length_drop]; omega) | (refine ⟨?_, ?_, ?_⟩ <;> first | decide | omega | (simp only [List.length_cons, List.length_nil, List.length_append, List.length_take, List.length_drop, Option.getD_some, Option.getD_none]; omega)))
local macro_rules | `(tactic| walk_at "st") => `(tactic| repeat (first | refine ⟨_, rfl, ?_⟩ | refine ⟨_, _, rfl, rfl, ?_⟩ | walk_at "ixl" | walk_at "setl" | refine ⟨rfl, ?_⟩ | refine Or.inl ⟨_, rfl, ?_⟩ | refine And.intro (by walk_at "cond") ?_))
local macro_rules | `(tactic| walk_at "cls") => `(tactic| first | exact OC.cl (by assumption) | exact (‹Txt _ _›).o_Clock.cl | exact (‹Txt _ _›).o_LevelTable.cl | exact (‹Txt _ _›).o_Store.cl | exact (‹Txt _ _›).o_Written.cl | exact (‹Txt _ _›).o_Roster.cl | exact (‹Txt _ _›).o_Handler.cl | exact (‹Txt _ _›).o_Logger.cl | exact (‹Txt _ _›).o_LoggerTree.cl | exact (‹Txt _ _›).o_StreamHandler.cl | exact (‹Txt _ _›).o_FileHandler.cl | exact (‹Txt _ _›).o_LogRecord.cl | exact (‹Txt _ _›).o_Yard.cl)
local macro_rules | `(tactic| walk_at "na") => `(tactic| first | (refine na_of (by assumption) ?_; decide) | (refine na_of (‹Txt _ _›).o_Clock ?_; decide) | (refine na_of (‹Txt _ _›).o_LevelTable ?_; decide) | (refine na_of (‹Txt _ _›).o_Store ?_; decide) | (refine na_of (‹Txt _ _›).o_Written ?_; decide) | (refine na_of (‹Txt _ _›).o_Roster ?_; decide) | (refine na_of (‹Txt _ _›).o_Handler ?_; decide) | (refine na_of (‹Txt _ _›).o_Logger ?_; decide) | (refine na_of (‹Txt _ _›).o_LoggerTree ?_; decide) | (refine na_of (‹Txt _ _›).o_StreamHandler ?_; decide) | (refine na_of (‹Txt _ _›).o_FileHandler ?_; decide) | (refine na_of (‹Txt _ _›).o_LogRecord ?_; decide) | (refine na_of (‹Txt _ _›).o_Yard ?_; decide))
local macro_rules | `(tactic| walk_at "fld") => `(tactic| (refine' ⟨_, _, _, _, ?vv, rfl, ?hh, ?cc, ?nn, ?ll, ?qq⟩; (case hh => walk_at "hp"); (case cc => walk_at "cls"); (case nn => walk_at "na"); (case ll => exact rfl)))
local macro_rules | `(tactic| walk_at "sto") => `(tactic| (refine' ⟨_, _, _, _, rfl, ?hh, ?cc, ?nn, ?ll, ?qq⟩; (case hh => walk_at "hp"); (case cc => walk_at "cls"); (case nn => walk_at "na"); (case ll => first | exact Nat.le_of_ble_eq_true rfl | assumption)))
local macro_rules | `(tactic| walk_at "mth") => `(tactic| (refine' ⟨_, _, _, rfl, ?hh, ?ll, ?qq⟩; (case hh => walk_at "hp"); (case ll => exact rfl)))
local macro_rules | `(tactic| walk_at "sx") => `(tactic| repeat (first | refine ⟨_, rfl, ?_⟩ | refine ⟨_, _, rfl, rfl, ?_⟩ | walk_at "ixl" | walk_at "setl" | refine ⟨rfl, ?_⟩ | refine Or.inl ⟨_, rfl, ?_⟩ | walk_at "fld" | walk_at "sto" | walk_at "mth" | refine And.intro (by walk_at "cond") ?_))
theorem row_now (A : YA2) (i : Int) : valV (rowK A i) (Sum.inr (SX.S kNow) : Key) = some (.int i) := valV_pos rfl
theorem row_files (A : YA2) (i : Int) : valV (rowK A i) (Sum.inr (SX.S kFiles) : Key) = some (.ref A.rf) := by
  unfold rowK
  rw [valV_neg (fun z => absurd ((key_iff _ _).mp z) (by decide)), valV_pos rfl]
theorem row_texts (A : YA2) (i : Int) : valV (rowK A i) (Sum.inr (SX.S kTexts) : Key) = some (.ref A.rt) := by
  unfold rowK
  rw [valV_neg (fun z => absurd ((key_iff _ _).mp z) (by decide)), valV_neg (fun z => absurd ((key_iff _ _).mp z) (by decide)), valV_pos rfl]
def some4 : List V := [.str (SX.S kOut), .str (SX.S []), .str (SX.S kErr), .str (SX.S [110, 111, 110, 101])]
theorem getM_of {k : List Nat} {y : Wn} : ∀ {m : SMap}, (m.map (·.1)).Nodup → (k, y) ∈ m → getM m k = some y
  | [], _, h => absurd h List.not_mem_nil
  | a :: r, nd, h => by
    have nd' : a.1 ∉ r.map (·.1) ∧ (r.map (·.1)).Nodup := List.nodup_cons.mp nd
    unfold getM
    rcases List.mem_cons.mp h with e | h
    · rw [← e, if_pos rfl]
    · rw [if_neg (fun z => nd'.1 (by rw [z]; exact List.mem_map_of_mem (f := fun e => e.1) h))]
      exact getM_of nd'.2 h
theorem cont_mem {m : SMap} {k : List Nat} (h : cont m k ≠ none) : k ∈ m.map (·.1) := by
  unfold cont at h
  cases e : getM m k with
  | none => rw [e] at h; exact absurd rfl h
  | some y => exact List.mem_map_of_mem (f := fun e => e.1) (getM_mem e)
theorem mem_cont {m : SMap} {k : List Nat} (nd : (m.map (·.1)).Nodup) (h : k ∈ m.map (·.1)) : cont m k ≠ none := by
  obtain ⟨e, he, rfl⟩ := List.mem_map.mp h
  unfold cont
  rw [getM_of nd (show (e.1, e.2) ∈ m from he)]
  exact fun z => nomatch z
theorem lkA_in {m : Asc} {k : List Nat} (h : lkA m k ≠ none) : k ∈ m.map (·.1) := by
  cases e : lkA m k with
  | none => exact absurd e h
  | some x => exact List.mem_map_of_mem (f := fun e => e.1) (lkA_mem e)
theorem in_lkA {m : Asc} {k : List Nat} (nd : (m.map (·.1)).Nodup) (h : k ∈ m.map (·.1)) : lkA m k ≠ none := by
  obtain ⟨e, he, rfl⟩ := List.mem_map.mp h
  rw [lkA_of nd (show (e.1, e.2) ∈ m from he)]
  exact fun z => nomatch z
theorem sorted_pw : ∀ {l : List Str}, sortedS l = true → l.Pairwise (fun a b => ltCps b.cps.toList a.cps.toList = false)
  | [], _ => List.Pairwise.nil
  | x :: r, h => List.pairwise_cons.mpr ⟨fun y hy => rising_le r x h y hy, sorted_pw (rising_tail h)⟩
theorem sorted_filter {ls : List (List Nat)} {p : List Nat → Bool} (h : sortedS (ls.map SX.S) = true) : sortedS ((ls.filter p).map SX.S) = true :=
  sortedS_of_pairwise _ ((sorted_pw h).sublist (List.Sublist.map _ List.filter_sublist))
def fullA (tm : Asc) (k : List Nat) : Bool := decide ((lkA tm k).getD [] ≠ [])
theorem nd_of {α β : Type} {f : α → β} (hf : ∀ a b, f a = f b → a = b) : ∀ {l : List α}, l.Nodup → (l.map f).Nodup
  | [], _ => List.nodup_nil
  | a :: r, h => by
    have h' := List.nodup_cons.mp h
    refine List.nodup_cons.mpr ⟨fun z => ?_, nd_of hf h'.2⟩
    obtain ⟨x, hx, e⟩ := List.mem_map.mp z
    exact h'.1 (by rw [← hf _ _ e]; exact hx)
/-- the two rows of names are one -/
theorem names_one {ss : SMap} {tm : Asc} {ls : List (List Nat)} {ys : List Str} (rel : ∀ k, cont ss k = lkA tm k) (nS : (ss.map (·.1)).Nodup) (nT : (tm.map (·.1)).Nodup) (pk : ls.Perm (ss.map (·.1))) (so : sortedS (ls.map SX.S) = true)
    (py : ys.Perm (((tm.map (·.1)).filter (fullA tm)).map SX.S)) (sy : sortedS ys = true) : ys = (ls.filter (fullK ss)).map SX.S := by
  obtain ⟨ks, pks, rfl⟩ := perm_S py
  refine sorted_uniq _ _ ?_ sy (sorted_filter so)
  refine List.Perm.map _ (pks.trans ?_)
  have n1 : ((tm.map (·.1)).filter (fullA tm)).Nodup := nT.sublist List.filter_sublist
  have n2 : (ls.filter (fullK ss)).Nodup := (pk.nodup_iff.mpr nS).sublist List.filter_sublist
  refine (List.perm_ext_iff_of_nodup n1 n2).mpr fun k => ?_
  have ek : fullA tm k = fullK ss k := by
    unfold fullA fullK
    rw [oldT_cont, rel]
    cases (lkA tm k).getD [] with
    | nil => rfl
    | cons a r => simp
  rw [List.mem_filter, List.mem_filter, ek]
  refine ⟨fun h => ⟨pk.mem_iff.mpr (cont_mem (by rw [rel]; exact in_lkA nT h.1)), h.2⟩, fun h => ⟨lkA_in (by rw [← rel]; exact mem_cont nS (pk.mem_iff.mp h.1)), h.2⟩⟩
theorem valV_kvT (f : List Nat → List Nat) (k : List Nat) : ∀ ls : List (List Nat), valV (kvT f ls) (Sum.inr (SX.S k) : Key) = if k ∈ ls then some (V.str (SX.S (f k))) else none
  | [] => rfl
  | e :: r => by
    by_cases h : e = k
    · rw [if_pos (by rw [h]; exact List.mem_cons_self), ← h]
      exact valV_pos (p := ((Sum.inr (SX.S e) : Key), V.str (SX.S (f e)))) rfl
    · have ih := valV_kvT f k r
      have q : valV (kvT f (e :: r)) (Sum.inr (SX.S k) : Key) = valV (kvT f r) (Sum.inr (SX.S k) : Key) := valV_neg (p := ((Sum.inr (SX.S e) : Key), V.str (SX.S (f e)))) (fun z => h ((key_iff e k).mp z))
      rw [q, ih]
      by_cases m : k ∈ r
      · rw [if_pos m, if_pos (List.mem_cons_of_mem _ m)]
      · rw [if_neg m, if_neg (fun z => (List.mem_cons.mp z).elim (fun z => h z.symm) m)]
theorem nodup_len : ∀ {l r : List (List Nat)}, l.Nodup → (∀ k ∈ l, k ∈ r) → l.length ≤ r.length
  | [], _, _, _ => Nat.zero_le _
  | a :: l, r, nd, h => by
    have nd' := List.nodup_cons.mp nd
    have ih := nodup_len (l := l) (r := r.erase a) nd'.2 fun k hk => (List.mem_erase_of_ne (fun z => nd'.1 (by rw [← z]; exact hk))).mpr (h k (List.mem_cons_of_mem _ hk))
    have e := List.length_erase_of_mem (h a List.mem_cons_self)
    have p : 0 < r.length := List.length_pos_of_mem (h a List.mem_cons_self)
    rw [List.length_cons]
    omega
theorem lay5 : ∀ k ∈ K5, PyData.canLay0 (.str (SX.S k)) = true := by decide +kernel
section
variable {K : PySem.W.Frag} {mg : Str → Option Value}
theorem Rch.low {T : Txt K mg} {F0 : Addr → Prop} {H H0 H' : Hp} {A : YA2} {n : Nat} {W0 W : YVal} (r : Rch T F0 H0 A n W0 H' W) (h : Same H H0) : Rch T F0 H A n W0 H' W := by
  obtain ⟨F, s, hF⟩ := r.ex
  exact ⟨⟨F, s, fun b hb => (hF b hb).imp id fun z => h.free z⟩, fun b u nf e => r.fr b u nf (h b u e), r.vl⟩
theorem YOk.lensF {T : Txt K mg} {F : Addr → Prop} {H : Hp} {A : YA2} {n : Nat} {W : YVal} (s : YOk T F H A n W) : ∀ e ∈ W.fs, e.2.l.length ≤ 20 * n := fun e he => by
  refine s.cF e.1 e.2.l ?_
  rw [← s.relF]
  unfold cont
  rw [getM_of s.sF.kd (show (e.1, e.2) ∈ W.fs from he)]
  rfl
theorem YOk.lensS {T : Txt K mg} {F : Addr → Prop} {H : Hp} {A : YA2} {n : Nat} {W : YVal} (s : YOk T F H A n W) : ∀ e ∈ W.ss, e.2.l.length ≤ 20 * n := fun e he => by
  refine s.cT e.1 e.2.l ?_
  rw [← s.relT]
  unfold cont
  rw [getM_of s.sS.kd (show (e.1, e.2) ∈ W.ss from he)]
  rfl
/-- the files, told by the yard and by the row -/
theorem same_files {T : Txt K mg} {F : Addr → Prop} {H : Hp} {A : YA2} {n : Nat} {W : YVal} {m : SMap} {ls : List (List Nat)} {D : Addr} (s : YOk T F H A n W) (fe : ∀ k, W.fc k = lkA W.fm k) (hm : sg W.fs = sg m) (pk : ls.Perm (m.map (·.1))) (hD : H D = some (.dK (kvT (oldT m) ls))) (hn : n ≤ 30) : SameV H 1 (.ref D) (.ref A.rf) := by
  have nm : (m.map (·.1)).Nodup := by rw [sg_keys, ← hm, ← sg_keys]; exact s.sF.kd
  have ce : ∀ k, cont m k = lkA W.fm k := fun k => by rw [← fe, ← s.relF]; exact (cont_sg hm k).symm
  have pkk : ls.Perm (W.fm.map (·.1)) := pk.trans ((List.perm_ext_iff_of_nodup nm s.nF).mpr fun k => ⟨fun h => lkA_in (by rw [← ce]; exact mem_cont nm h), fun h => cont_mem (by rw [ce]; exact in_lkA s.nF h)⟩)
  refine SameV.dct (k1 := ls.map SX.S) (k2 := (W.fm.map (·.1)).map SX.S) (.inl hD) (.inl s.rf) (by unfold kvT; rw [List.map_map, List.map_map]; rfl) (by unfold kvM; rw [List.map_map, List.map_map, List.map_map]; rfl) (pkk.map _) ?_ ?_ ?_ ?_
  · exact nd_of (fun a b => SX.S_inj) s.nF
  · have l1 := pkk.length_eq
    have l2 := pk.length_eq
    rw [List.length_map] at l1 l2 ⊢
    rw [List.length_map]
    have := sg_len hm
    have := s.lF
    omega
  · intro k hk
    obtain ⟨e, he, rfl⟩ := List.mem_map.mp hk
    obtain ⟨x, hx, rfl⟩ := List.mem_map.mp he
    exact lay5 _ (s.kF x hx)
  · intro k x y hx hy
    obtain ⟨kk, rfl⟩ : ∃ kk, k = Sum.inr (SX.S kk) := by
      have := valV_in hx
      unfold kvT at this
      rw [List.map_map] at this
      obtain ⟨z, _, e⟩ := List.mem_map.mp this
      exact ⟨z, e.symm⟩
    rw [valV_kvT] at hx
    rw [valV_kvM] at hy
    split at hx
    · cases hx
      rw [oldT_cont, ce]
      cases e : lkA W.fm kk with
      | none => rw [e] at hy; cases hy
      | some l => rw [e] at hy; cases hy; exact .str 0 _
    · cases hx
end
def names4 : List (List Nat) := [kOut, [], kErr, [110, 111, 110, 101]]
section
variable {P : Program} {w : World} {K : PySem.W.Frag} {mg : Str → Option Value} {base : Heap}
structure Stb (W : YVal) : Prop where
  n : W.nc = W.nr
  f : ∀ k, W.fc k = lkA W.fm k
  t : ∀ k, W.tc k = lkA W.tm k
def spRight (T : Txt K mg) : Sp := fun vs H Q _ => Hd (∃ (A : YA2) (F : Addr → Prop) (n : Nat) (W : YVal), vs = [.ref A.y, .ref A.rd] ∧ YOk T F H A n W ∧ Stb W ∧ n ≤ 30 ∧ ∀ H' W', Rch T F H A n W H' W' → Q (.bl true) H')
theorem ok_right (T : Txt K mg) : FnOk P w K mg base CX0 5 T.f__law_yard_right T.fd__law_yard_right ["_law_yard", "_law_row"] (spRight T) := by
  have G_Yard_files : FnOk P w K mg base CX0 4 _ _ _ (spYFiles T) := ok_yfiles T
  have G_Yard_streams : FnOk P w K mg base CX0 2 _ _ _ (spYStreams T) := ok_ystreams T
  have G_Yard_now : FnOk P w K mg base CX0 2 _ _ _ (spYNow T) := ok_ynow T
  have G_Yard_text : FnOk P w K mg base CX0 3 _ _ _ (spYText T) := ok_ytext T
  have G__law_same : FnOk P w K mg base CX0 4 _ _ _ (spSame 2) := ok_same T 2
  refine T.D__law_yard_right.F.ok sc__law_yard_right (fun vs H Q E h => ?_) (fun cdv Ar outer s H vs Q E hr h => ?_)
  · obtain ⟨A, F, n, W, rfl, _⟩ := h.out
    rfl
  · obtain ⟨A, F, n, W, rfl, Y0, sb, hn, k⟩ := h.out
    have hu := hu_of hr
    refine ⟨_, (pss_cons (ps_asg (pe_tup (pa_cons (pe_dget hu (pv 1) (SL.pe_strL [116, 101, 120, 116, 115] (by decide +kernel)) (fun _ _ => rfl)) (pa_cons (pe_lstG (pa_cons (SL.pe_strL [111, 117, 116] (by decide +kernel)) (pa_cons (SL.pe_strL [] (by decide +kernel)) (pa_cons (SL.pe_strL [101, 114, 114] (by decide +kernel)) (pa_cons (SL.pe_strL [110, 111, 110, 101] (by decide +kernel)) pa_nil))))) pa_nil))) (pg_tup rfl (pgs_cons (pg_name (i := 2) sc__law_yard_right.nd rfl (by first | exact Or.inl rfl | exact Or.inr rfl)) (pgs_cons (pg_name (i := 3) sc__law_yard_right.nd rfl (by first | exact Or.inl rfl | exact Or.inr rfl)) pgs_nil))))
  (pss_cons (ps_for PassesOwn.never rfl (pi_range1 rfl T.B.n_range (pa_cons pe_int pa_nil)) (pg_name (i := 4) sc__law_yard_right.nd rfl (by first | exact Or.inl rfl | exact Or.inr rfl))
    (pss_cons (ps_par (i := 5) (j := 6) rfl sc__law_yard_right.nd rfl rfl (by decide) rfl rfl (pa_cons (pe_meth0 (pv 0) T.o_Yard.cl T.Me_Yard_files G_Yard_files (hr.mono (by first | decide | omega)) T.b_Yard_files .nil pass0) (pa_cons (pe_meth0 (pv 0) T.o_Yard.cl T.Me_Yard_streams G_Yard_streams (hr.mono (by first | decide | omega)) T.b_Yard_streams .nil pass0) pa_nil)) rfl)
  (pss_cons (ps_if (pt_not (pt_val (pe_call G__law_same (hr.mono (by first | decide | omega)) rfl T.D__law_same.g T.D__law_same.F.kp T.D__law_same.b .nil pass0 (pa_cons (pe_lstG (pa_cons (pv 5) (pa_cons (pv 6) pa_nil))) (pa_cons (pe_lstG (pa_cons (pe_dget hu (pv 1) (SL.pe_strL [102, 105, 108, 101, 115] (by decide +kernel)) (fun _ _ => rfl)) (pa_cons (pe_callB cr_sortedS (by rfl) T.B.n_sorted (by decide +kernel) (pa_cons (pe_lockO (pe_lc (own := [("_law_key", 8)]) (g := gName 8) rfl sc__law_yard_right.nd (pi_keys (pv 2)) (blkOk_by (N := ["_law_yard", "_law_row", "_law_streams", "_law_some", "_law_time", "_law_found", "_law_keys", "_law_shown", "_law_key"]) (sc := defScope s__law_yard_right) (by decide +kernel)) (fun _ _ _ _ _ => (pg_name (i := 8) sc__law_yard_right.nd rfl (by first | exact Or.inl rfl | exact Or.inr rfl))) (fun _ _ _ _ _ => (pts_one (pt_cmpR SL.op_neL (pe_dget hu (pv 2) (pv 8) (fun _ _ => rfl)) (SL.pe_strL [] (by decide +kernel)) (nomark _)))) (fun _ _ _ _ _ => (pv 8)))) pa_nil)) pa_nil))) pa_nil)))))
    (pss_one (ps_ret pe_bl))
    pss_nil)
  (pss_cons (ps_expr (pe_dclear (pv 5)))
  (pss_one (ps_expr (pe_bm PySem.F.plainAttrs_list PySem.F.slot_list_append PySem.F.type_list_append mt_append (pv 6) (pa_cons (SL.pe_strL [109, 111, 114, 101] (by decide +kernel)) pa_nil))))))))
  (pss_cons (ps_set (i := 7) sc__law_yard_right.nd rfl (by first | exact Or.inl rfl | exact Or.inr rfl) (pe_op op_catG (pe_lstG (pa_cons (pe_meth0 (pv 0) T.o_Yard.cl T.Me_Yard_now G_Yard_now (hr.mono (by first | decide | omega)) T.b_Yard_now .nil pass0) pa_nil)) (pe_lc (own := [("_law_key", 8)]) (g := gName 8) rfl sc__law_yard_right.nd (pi_list (pv 3)) (blkOk_by (N := ["_law_yard", "_law_row", "_law_streams", "_law_some", "_law_time", "_law_found", "_law_keys", "_law_shown", "_law_key"]) (sc := defScope s__law_yard_right) (by decide +kernel)) (fun _ _ _ _ _ => (pg_name (i := 8) sc__law_yard_right.nd rfl (by first | exact Or.inl rfl | exact Or.inr rfl))) (fun _ _ _ _ _ => pts_nil) (fun _ _ _ _ _ => (pe_meth (pv 0) T.o_Yard.cl T.Me_Yard_text G_Yard_text (hr.mono (by first | decide | omega)) T.b_Yard_text .nil pass0 (pa_cons (pv 8) pa_nil))))))
  (pss_one (ps_ret (pe_call G__law_same (hr.mono (by first | decide | omega)) rfl T.D__law_same.g T.D__law_same.F.kp T.D__law_same.b .nil pass0 (pa_cons (pv 7) (pa_cons (pe_op op_catG (pe_lstG (pa_cons (pe_dget hu (pv 1) (SL.pe_strL [110, 111, 119] (by decide +kernel)) (fun _ _ => rfl)) pa_nil)) (pe_lc (own := [("_law_key", 8)]) (g := gName 8) rfl sc__law_yard_right.nd (pi_list (pv 3)) (blkOk_by (N := ["_law_yard", "_law_row", "_law_streams", "_law_some", "_law_time", "_law_found", "_law_keys", "_law_shown", "_law_key"]) (sc := defScope s__law_yard_right) (by decide +kernel)) (fun _ _ _ _ _ => (pg_name (i := 8) sc__law_yard_right.nd rfl (by first | exact Or.inl rfl | exact Or.inr rfl))) (fun _ _ _ _ _ => pts_nil) (fun _ _ _ _ _ => (pe_dget2 hu (pv 2) (pv 8) (SL.pe_strL [] (by decide +kernel)) ⟨rfl, rfl, rfl, rfl⟩)))) pa_nil)))))))), ?_⟩
    walk_at "sx"
    refine ⟨A.rd, .ref A.rt, rfl, by have g := DGet.k (k := Sum.inr (SX.S kTexts)) Y0.rd; rw [row_texts] at g; exact g, ?_⟩
    walk_at "sx"
    intro ps H1 ps0 hps s1
    have hps : H1 ps = some (.lst some4) := hps
    walk_at "sx"
    intro tp tp0
    have Y2 := (Y0.same s1).new (o := .tup [.ref A.rt, .ref ps]) tp0
    have s2 : Same H (upd H1 tp (.tup [.ref A.rt, .ref ps])) := s1.trans (same_new tp0)
    have hps2 : (upd H1 tp (.tup [.ref A.rt, .ref ps])) ps = some (.lst some4) := by rw [upd_ne (neN hps tp0)]; exact hps
    have htp2 : (upd H1 tp (.tup [.ref A.rt, .ref ps])) tp = some (.tup [.ref A.rt, .ref ps]) := upd_same
    generalize upd H1 tp (.tup [.ref A.rt, .ref ps]) = H2 at Y2 s2 hps2 htp2 ⊢
    have nFps : ¬ F ps := fun z => Y0.tr ps (.inl z) ps0
    walk_at "sx"
    refine ⟨tp, _, rfl, SqT.of htp2, rfl, ?_⟩
    refine ⟨_, _, rfl, _, _, rfl, rfl, ?_⟩
    walk_at "sx"
    refine for_rng (n := 2) (fun i σ H' => ∃ W' t f g, Rch T F H2 A n W H' W' ∧ H' ps = some (.lst some4) ∧ σ = [some (.ref A.y), some (.ref A.rd), some (.ref A.rt), some (.ref ps), t, f, g, none, none]) ⟨W, none, none, none, Rch.refl Y2, hps2, rfl⟩ ?_ ?_
    · rintro σ H' ⟨W', t, f, g, R, hps', rfl⟩
      obtain ⟨F1, Y1, hF1⟩ := R.ex
      obtain ⟨vs, vf, rfl⟩ := R.vl
      have y1 := Y1.st.y
      walk_at "sx"
      refine .a ⟨A.y, A.dy, A.Y, .int W.nc, rfl, y1, Y1.ck, ?_⟩
      walk_at "sx"
      intro b1 H3 b10 hb1 s3
      have Y3 := Y1.same s3
      have hps3 := s3 _ _ hps'
      refine ⟨_, rfl, ps, rfl, ⟨_, SqL.of hps3⟩, fun D hD => ?_⟩
      have bD : b1 ≠ D := neN hb1 hD
      have pD : ps ≠ D := neN hps3 hD
      have s4 : Same H' (upd H3 D (.lst [])) := s3.trans (same_new hD)
      have Y4 := Y1.same s4
      have nF1 : ∀ {x : Addr}, H' x = none → ¬ F1 x := fun h z => Y1.tr _ (.inl z) h
      have D0 : H' D = none := s3.free hD
      have nF1ps : ¬ F1 ps := fun z => (hF1 ps z).elim nFps fun z => by rw [hps2] at z; cases z
      have tx : ∀ k, ((W.tc k).getD []).length ≤ 600 := fun k => by
        cases e : W.tc k with
        | none => exact Nat.zero_le _
        | some l => have := Y0.cT k l e; exact Nat.le_trans this (by omega)
      refine lc_listN (xs := some4) (fun i H6 => ∃ F6 ss fs, YOk T F6 H6 A n { W with ss := ss, fs := fs } ∧ (∀ b, F6 b → F1 b ∨ (upd H3 D (.lst [])) b = none) ∧ ¬ F6 D ∧ (∀ b u, ¬ F1 b → b ≠ D → (upd H3 D (.lst [])) b = some u → H6 b = some u) ∧ H6 D = some (.lst (txS ((names4.take i).map fun k => (W.tc k).getD []))) ∧ H6 ps = some (.lst some4))
        ⟨F1, vs, vf, Y4, fun b hb => .inl hb, nF1 D0, fun _ _ _ _ e => e, upd_same, by rw [upd_ne pD]; exact hps3⟩ (fun i H6 _ ⟨_, _, _, _, _, _, _, _, h⟩ => SqL.of h) ?_ ?_
      · rintro i v H6 hv ⟨F6, ss, fs, Y6, hF6, nD6, fr6, hD6, hp6⟩ N hN
        obtain ⟨kk, hk, rfl⟩ : ∃ kk, names4[i]? = some kk ∧ V.str (SX.S kk) = v := txS_at (ls := names4) hv
        have et : names4.take (i + 1) = names4.take i ++ [kk] := by rw [List.take_succ, hk]; rfl
        have y6 := Y6.st.y
        walk_at "sx"
        have sz : (txS ((names4.take i).map fun k => (W.tc k).getD [])).length < sizeLine := by
          unfold txS
          rw [List.length_map, List.length_map, List.length_take]
          exact Nat.lt_of_le_of_lt (Nat.min_le_right _ _) (by decide)
        have nps6 : ps ≠ D := pD
        refine .a ⟨A.y, A.dy, A.Y, kk, ss, n + 1, rfl, y6, Y6.st.ss, Y6.sS, by omega, fun e he => Nat.le_trans (Y6.lensS e he) (by omega), fun e => ?_, fun y e H7 pa' S7 p0 fr7 => ?_⟩
        · have ev : (W.tc kk).getD [] = [] := by rw [← Y6.relT kk]; show (cont ss kk).getD [] = []; unfold cont; rw [e]; rfl
          refine ⟨_, hD6, sz, ?_⟩
          rw [hN]
          refine ⟨F6, ss, fs, Y6.keep fun b hb u e => by rw [upd_ne (fun z => by rw [z] at hb; exact hb.elim nD6 fun h => Y1.tr D (.inr h) D0)]; exact e, hF6, nD6, fun b u nf bD e => by rw [upd_ne bD]; exact fr6 b u nf bD e, ?_, by rw [upd_ne pD]; exact hp6⟩
          rw [upd_same, et, List.map_append]
          unfold txS
          rw [List.map_append]
          simp [ev]
        · have ev : (W.tc kk).getD [] = y.l := by rw [← Y6.relT kk]; show (cont ss kk).getD [] = y.l; unfold cont; rw [e]; rfl
          obtain ⟨Y7, hF7, fr7'⟩ := Y6.seenS ((Seen.refl Y6.sS).look e S7 p0 fr7)
          have hD7 := fr7' D _ nD6 hD6
          have np6 : ¬ F6 ps := fun z => (hF6 ps z).elim nF1ps fun z => by rw [s4 _ _ hps'] at z; cases z
          have hp7 := fr7' ps _ np6 hp6
          have nD7 : ¬ (D ∈ A.mut ∨ D ∈ ft (putM ss kk ⟨y.wr, pa', y.l⟩) ∨ D ∈ ft fs) := fun z => (hF7 D z).elim nD6 fun z => by rw [hD6] at z; cases z
          refine ⟨_, hD7, sz, ?_⟩
          rw [hN]
          refine ⟨_, _, _, Y7.keep fun b hb u e => by rw [upd_ne (fun z => by rw [z] at hb; exact hb.elim nD7 fun h => Y1.tr D (.inr h) D0)]; exact e, fun b hb => ?_, nD7, fun b u nf bD e => ?_, ?_, by rw [upd_ne pD]; exact hp7⟩
          · rcases hF7 b hb with z | z
            · exact hF6 b z
            · cases q : (upd H3 D (.lst [])) b with
              | none => exact .inr rfl
              | some u =>
                by_cases nf : F1 b
                · exact .inl nf
                · have bD : b ≠ D := fun w => by rw [w, hD6] at z; cases z
                  have := fr6 b u nf bD q
                  rw [z] at this; cases this
          · rw [upd_ne bD]
            refine fr7' b u (fun z => ?_) (fr6 b u nf bD e)
            rcases hF6 b z with w | w
            · exact nf w
            · rw [w] at e; cases e
          · rw [upd_same, et, List.map_append]
            unfold txS
            rw [List.map_append]
            simp [ev]
      · rintro H6 ⟨F6, ss, fs, Y6, hF6, nD6, fr6, hD6, hp6⟩
        have R6 : Rch T F H2 A n W H6 { W with ss := ss, fs := fs } := R.step hF1 Y6 (fun b hb => (hF6 b hb).imp id fun z => s4.free z) (fun b u nf e => fr6 b u nf (fun z => by rw [z, D0] at e; cases e) (s4 _ _ e)) ⟨ss, fs, rfl⟩
        have hb6 : H6 b1 = some (.lst [.int W.nc]) := fr6 b1 _ (nF1 b10) bD (by rw [upd_ne bD]; exact hb1)
        have e4 : names4.take some4.length = names4 := rfl
        rw [e4] at hD6
        refine ⟨b1, D, _, _, rfl, rfl, hb6, hD6, Nat.le_of_ble_eq_true rfl, fun c1 H7 c10 hc1 s7 => ?_⟩
        have Y7 := Y6.same s7
        have hp7 := s7 _ _ hp6
        walk_at "sx"
        refine ⟨A.rd, .int W.nr, rfl, by have g := DGet.k (k := Sum.inr (SX.S kNow)) Y7.rd; rw [row_now] at g; exact g, ?_⟩
        walk_at "sx"
        intro b2 H8 b20 hb2 s8
        have Y8 := Y7.same s8
        have hp8 := s8 _ _ hp7
        refine ⟨_, rfl, ps, rfl, ⟨_, SqL.of hp8⟩, fun D2 hD2 => ?_⟩
        refine lc_listN (xs := some4) (fun i H9 => Same H8 H9 ∧ H9 D2 = some (.lst (txS ((names4.take i).map fun k => (lkA W.tm k).getD [])))) ⟨same_new hD2, upd_same⟩ (fun i H9 _ h => SqL.of (h.1 _ _ hp8)) ?_ ?_
        · rintro i v H9 hv ⟨s9, hD9⟩ N hN
          obtain ⟨kk, hk, rfl⟩ : ∃ kk, names4[i]? = some kk ∧ V.str (SX.S kk) = v := txS_at (ls := names4) hv
          have et : names4.take (i + 1) = names4.take i ++ [kk] := by rw [List.take_succ, hk]; rfl
          have Y9 := Y8.same s9
          walk_at "sx"
          refine ⟨.inl ⟨_, .inl Y9.rt⟩, ?_⟩
          walk_at "sx"
          refine ⟨_, DGet.k (k := Sum.inr (SX.S kk)) Y9.rt, ?_⟩
          refine ⟨_, hD9, ?_, ?_⟩
          · unfold txS
            rw [List.length_map, List.length_map, List.length_take]
            exact Nat.lt_of_le_of_lt (Nat.min_le_right _ _) (by decide)
          · rw [hN]
            refine ⟨same_put s9 hD2, ?_⟩
            rw [upd_same, et, List.map_append, valV_kvM]
            unfold txS
            rw [List.map_append]
            have q : ((lkA W.tm kk).map fun x => V.str (SX.S x)).getD (V.str (SX.S [])) = V.str (SX.S ((lkA W.tm kk).getD [])) := by cases lkA W.tm kk <;> rfl
            rw [q]
            rfl
        · rintro H9 ⟨s9, hD9⟩
          rw [e4] at hD9
          have hb9 := s9 _ _ hb2
          refine ⟨b2, D2, _, _, rfl, rfl, hb9, hD9, Nat.le_of_ble_eq_true rfl, fun c2 H10 c20 hc2 s10 => ?_⟩
          walk_at "sx"
          have hc1' := s10 _ _ (s9 _ _ (s8 _ _ hc1))
          refine .a ⟨.ref c1, .ref c2, rfl, SameV.lst (.inl hc1') (.inl hc2) rfl (Nat.le_of_ble_eq_true rfl) ?_, fun H11 s11 => ?_⟩
          · intro j x y hx hy
            have tt : (fun k => (W.tc k).getD []) = fun k => (lkA W.tm k).getD [] := by funext k; rw [sb.t]
            rw [tt, sb.n] at hx
            have hxy : some x = some y := hx.symm.trans hy
            cases hxy
            cases j with
            | zero => cases hx; exact .int 1 _
            | succ j =>
              obtain ⟨k, _, rfl⟩ := txS_at (show (txS (names4.map fun k => (lkA W.tm k).getD []))[j]? = some x from hx)
              exact .str 1 _
          · exact k H11 _ ((R6.same (((s7.trans s8).trans s9).trans (s10.trans s11))).low s2)
    · rintro R0 i σ H' hi ⟨W', t, f, g, R, hps', rfl⟩ N hN
      obtain ⟨F1, Y1, hF1⟩ := R.ex
      obtain ⟨vs, vf, rfl⟩ := R.vl
      have y1 := Y1.st.y
      walk_at "sx"
      refine .a ⟨A.y, A.dy, A.Y, vf, n + 1, rfl, Y1.st.y, Y1.st.fs, Y1.sF, by omega, fun e he => Nat.le_trans (Y1.lensF e he) (by omega), ?_, fun H3 D ls m' pk hD hD0 q => ?_⟩
      · have := Y1.lF
        show vf.length < 64
        have e : ({ W with ss := vs, fs := vf } : YVal).fs = vf := rfl
        rw [e] at this
        omega
      obtain ⟨Y3, hF3, fr3⟩ := Y1.seenF q
      have R3 := R.step hF1 Y3 hF3 fr3 ⟨vs, m', rfl⟩
      have nF1ps : ¬ F1 ps := fun z => (hF1 ps z).elim nFps fun z => by rw [hps2] at z; cases z
      have hps3 := fr3 ps _ nF1ps hps'
      have y3 := Y3.st.y
      walk_at "sx"
      refine .a ⟨A.y, A.dy, A.Y, vs, n + 1, rfl, Y3.st.y, Y3.st.ss, Y3.sS, ?_, fun H4 L ls2 pk2 so hL hL0 fr4 => ?_⟩
      · have := Y3.lS
        show vs.length < 64
        have e : ({ W with ss := vs, fs := m' } : YVal).ss = vs := rfl
        have : vs.length ≤ 2 * n := this
        omega
      have s4 : Same H3 H4 := fun b u e => fr4 b u (by simp) e
      have Y4 := Y3.same s4
      have R4 := R3.same s4
      have hps4 := s4 _ _ hps3
      have hD4 := s4 _ _ hD
      refine ⟨_, _, rfl, ?_⟩
      walk_at "sx"
      intro a1 H5 a10 ha1 s5
      have Y5 := Y4.same s5
      have R5 := R4.same s5
      walk_at "sx"
      refine ⟨A.rd, .ref A.rf, rfl, by have g := DGet.k (k := Sum.inr (SX.S kFiles)) Y5.rd; rw [row_files] at g; exact g, ?_⟩
      walk_at "sx"
      refine .inl ⟨A.rt, _, Y5.rt, trivial, fun od => ?_⟩
      have fL : (upd H5 A.rt (.frz od (.dK (kvM W.tm)))) A.rt = some (.frz od (.dK (kvM W.tm))) := upd_same
      refine ⟨_, rfl, A.rt, od, rfl, .inl ⟨kvM W.tm, fL, fun D0 hD0' => ?_⟩⟩
      have kvl : (kvM W.tm).length = W.tm.length := by unfold kvM; rw [List.length_map]
      have nkt : W.tm.length ≤ 3 := by
        have := nodup_len Y0.nT (fun k hk => by obtain ⟨e, he, rfl⟩ := List.mem_map.mp hk; exact Y0.kT e he : ∀ k ∈ W.tm.map (·.1), k ∈ K3)
        rw [List.length_map] at this
        exact this
      refine lc_it (n := (kvM W.tm).length) walk_keys (fun i H6 => H6 D0 = some (.lst (txS (((W.tm.map (·.1)).take i).filter (fullA W.tm)))) ∧ Same (upd H5 A.rt (.frz od (.dK (kvM W.tm)))) H6) ⟨upd_same, same_new hD0'⟩ (fun i H6 _ c => c.2 _ _ fL) ?_ ?_
      · rintro i x H6 _ hi ⟨hD6, s6⟩ ⟨rfl, key, v, e1, rfl⟩
        obtain ⟨kk, ll, e2, rfl, rfl⟩ : ∃ kk ll, W.tm[i]? = some (kk, ll) ∧ key = Sum.inr (SX.S kk) ∧ v = V.str (SX.S ll) := by
          unfold kvM at e1
          rw [List.getElem?_map] at e1
          cases z : W.tm[i]? with
          | none => rw [z] at e1; cases e1
          | some p => rw [z] at e1; cases e1; exact ⟨p.1, p.2, rfl, rfl, rfl⟩
        have lk : lkA W.tm kk = some ll := lkA_of Y0.nT (List.mem_of_getElem? e2)
        have et : (W.tm.map (·.1)).take (i + 1) = (W.tm.map (·.1)).take i ++ [kk] := by
          rw [List.take_succ, List.getElem?_map, e2]; rfl
        refine ⟨rfl, ?_⟩
        walk_at "sx"
        refine ⟨A.rt, .str (SX.S ll), rfl, .inl ⟨_, Sum.inr (SX.S kk), .inr ⟨od, s6 _ _ fL⟩, rfl, by rw [valV_kvM, lk]; rfl⟩, ?_⟩
        walk_at "sx"
        by_cases z : ll = []
        · refine if_false_of (by simp [z]) ?_
          refine ⟨?_, s6⟩
          rw [hD6, et, List.filter_append]
          simp [fullA, lk, z]
        · refine if_true_of (by simp [z]) ?_
          walk_at "sx"
          refine ⟨_, hD6, ?_, ?_, ?_⟩
          · have q1 : (txS (((W.tm.map (·.1)).take i).filter (fullA W.tm))).length ≤ 3 := by
              unfold txS
              rw [List.length_map]
              have q := List.length_filter_le (fullA W.tm) ((W.tm.map (·.1)).take i)
              rw [List.length_take, List.length_map] at q
              omega
            exact Nat.lt_of_le_of_lt q1 (by decide)
          · rw [upd_same, et, List.filter_append]
            unfold txS
            rw [List.map_append]
            simp [fullA, lk, z]
            rfl
          · exact same_put s6 hD0'
      · rintro H6 ⟨hD6, s6⟩
        have etk : (W.tm.map (·.1)).take (kvM W.tm).length = W.tm.map (·.1) := by rw [kvl, ← List.length_map (f := fun e : List Nat × List Nat => e.1), List.take_length]
        rw [etk] at hD6
        refine ⟨s6 _ _ fL, ?_⟩
        have D0t : D0 ≠ A.rt := fun z => by rw [z, fL] at hD0'; cases hD0'
        have s7 : Same H5 (upd H6 A.rt (.dK (kvM W.tm))) := fun b u e => by
          by_cases q : b = A.rt
          · rw [q, Y5.rt] at e; rw [q, upd_same]; exact e
          · rw [upd_ne q]; exact s6 b u (by rw [upd_ne q]; exact e)
        have hD7 : (upd H6 A.rt (.dK (kvM W.tm))) D0 = some (.lst (txS ((W.tm.map (·.1)).filter (fullA W.tm)))) := by rw [upd_ne D0t]; exact hD6
        generalize upd H6 A.rt (.dK (kvM W.tm)) = H7 at s7 hD7 ⊢
        walk_at "sx"
        refine ⟨D0, ((W.tm.map (·.1)).filter (fullA W.tm)).map SX.S, rfl, SqL.of (by rw [hD7, txS_S]), ?_, fun ys p1 py sy hp1 => ?_⟩
        · have q := List.length_filter_le (fullA W.tm) (W.tm.map (·.1))
          rw [List.length_map] at q ⊢
          omega
        have eys : ys = (ls2.filter (fullK vs)).map SX.S := names_one (fun k => by rw [← sb.t]; exact Y3.relT k) Y3.sS.kd Y3.nT pk2 so py sy
        have s8 : Same H5 (upd H7 p1 (.lst (ys.map V.str))) := s7.trans (same_new hp1)
        have hp8 : (upd H7 p1 (.lst (ys.map V.str))) p1 = some (.lst (txS (ls2.filter (fullK vs)))) := by rw [upd_same, eys, txS_S]
        generalize upd H7 p1 (.lst (ys.map V.str)) = H8 at s8 hp8 ⊢
        walk_at "sx"
        intro a2 H9 a20 ha2 s9
        have s59 := s8.trans s9
        have Y9 := Y5.same s59
        have R9 := R5.same s59
        have hD9 := s59 _ _ (s5 _ _ hD4)
        have hL9 := s59 _ _ (s5 _ _ hL)
        have hps9 := s59 _ _ (s5 _ _ hps4)
        have ha19 := s59 _ _ ha1
        have hp9 := s9 _ _ hp8
        walk_at "sx"
        refine .a ⟨.ref a1, .ref a2, rfl, SameV.lst (.inl ha19) (.inl ha2) rfl (Nat.le_of_ble_eq_true rfl) ?_, fun H10 s10 => ?_⟩
        · intro j x y hx hy
          match j with
          | 0 =>
            cases hx
            cases hy
            exact same_files Y9 sb.f q.sge pk hD9 hn
          | 1 =>
            cases hx
            cases hy
            refine SameV.lst (.inl hL9) (.inl hp9) rfl ?_ fun j x y hx hy => ?_
            · have q1 := List.length_filter_le (fullK vs) ls2
              have q2 := pk2.length_eq
              have q3 : vs.length ≤ 2 * n := Y3.lS
              rw [List.length_map] at q2
              unfold txS
              rw [List.length_map]
              omega
            · rw [hx] at hy
              cases hy
              obtain ⟨k, _, rfl⟩ := txS_at hx
              exact .str 0 _
          | j + 2 => cases hx
        refine ⟨true, rfl, ?_⟩
        show if (!true) = true then _ else _
        refine if_false_of rfl ?_
        have R10 := R9.same s10
        have hD10 := s10 _ _ hD9
        have hL10 := s10 _ _ hL9
        have hps10 := s10 _ _ hps9
        walk_at "sx"
        refine ⟨.inr (.inr (.inl ⟨rfl, .inl ⟨_, hD10⟩⟩)), ?_⟩
        refine ⟨D, _, rfl, rfl, hD10, ?_⟩
        have oldD : ∀ {a : Addr}, (a ∈ A.stat ∨ a ∈ A.mut) → a ≠ D := fun h z => Y1.trk (h.elim .inl fun h => .inr (.inl h)) (by rw [z]; exact hD0)
        have R11 := R10.put (x := D) (o := .dK []) (fun u nf e => by have := R.fr D u nf e; rw [hD0] at this; cases this) (fun F' Y z => by
          rcases (Y.FF D).mp z with z | z | z
          · exact oldD (.inr z) rfl
          · rcases List.mem_append.mp z with z | z
            · obtain ⟨e', he', z'⟩ := List.mem_map.mp z
              obtain ⟨d, t, ts, h1, _⟩ := (Y.sS.hw e' he').ex
              rw [z', hD10] at h1; cases h1
            · obtain ⟨e', he', z'⟩ := List.mem_map.mp z
              obtain ⟨d, t, ts, _, h2, _⟩ := (Y.sS.hw e' he').ex
              rw [z', hD10] at h2; cases h2
          · rcases List.mem_append.mp z with z | z
            · obtain ⟨e', he', z'⟩ := List.mem_map.mp z
              obtain ⟨d, t, ts, h1, _⟩ := (Y.sF.hw e' he').ex
              rw [z', hD10] at h1; cases h1
            · obtain ⟨e', he', z'⟩ := List.mem_map.mp z
              obtain ⟨d, t, ts, _, h2, _⟩ := (Y.sF.hw e' he').ex
              rw [z', hD10] at h2; cases h2) (fun z => oldD (.inl z) rfl)
        have LD : L ≠ D := fun z => by rw [z, hD10] at hL10; cases hL10
        have pD : ps ≠ D := fun z => by rw [z, hD10] at hps10; cases hps10
        have hL11 : (upd H10 D (.dK [])) L = some (.lst (txS (ls2.filter (fullK vs)))) := by rw [upd_ne LD]; exact hL10
        have hps11 : (upd H10 D (.dK [])) ps = some (.lst some4) := by rw [upd_ne pD]; exact hps10
        generalize upd H10 D (.dK []) = H11 at R11 hL11 hps11 ⊢
        walk_at "sx"
        refine ⟨.inl ⟨rfl, _, SqL.of hL11⟩, ?_⟩
        walk_at "sx"
        refine ⟨_, _, _, rfl, rfl, hL11, ?_, ?_⟩
        · have q1 := List.length_filter_le (fullK vs) ls2
          have q2 := pk2.length_eq
          have q3 : vs.length ≤ 2 * n := Y3.lS
          rw [List.length_map] at q2
          have q4 : (txS (ls2.filter (fullK vs))).length ≤ 60 := by unfold txS; rw [List.length_map]; omega
          exact Nat.lt_of_le_of_lt q4 (by decide)
        have oldL : ∀ {a : Addr}, (a ∈ A.stat ∨ a ∈ A.mut ∨ a ∈ ft vs ∨ a ∈ ft m') → a ≠ L := fun h z => Y3.trk h (by rw [z]; exact hL0)
        have R12 := R11.put (x := L) (o := .lst (txS (ls2.filter (fullK vs)) ++ [.str (SX.S [109, 111, 114, 101])])) (fun u nf e => by have := R3.fr L u nf e; rw [hL0] at this; cases this) (fun F' Y z => oldL (.inr ((Y.FF L).mp z)) rfl) (fun z => oldL (.inl z) rfl)
        have pL : ps ≠ L := fun z => by rw [z, hL0] at hps3; cases hps3
        rw [hN]
        exact .a ⟨_, _, _, _, R12, by rw [upd_ne pL]; exact hps11, rfl⟩
end
end My

namespace My
open PySem PySem.Spec PyProof.Rows L2 SuX
local macro_rules | `(tactic| walk_at "hp") => `(tactic| first | assumption | exact upd_same | (refine Eq.trans (upd_ne (by first | assumption | (apply Ne.symm; assumption))) ?_; walk_at "hp"))
local macro_rules | `(tactic| walk_at "ixl") => `(tactic| (refine' ⟨_, ?xs, _, ?vv, rfl, rfl, SqL.of ?hh, ?aa, ?qq⟩; (case hh => walk_at "hp"); (case aa => rfl)))
local macro_rules | `(tactic| walk_at "setl") => `(tactic| (refine' ⟨_, ?xs, _, ?jj, rfl, rfl, ?hh, ?aa, ?qq⟩; (case hh => walk_at "hp"); (case aa => rfl)))
local macro_rules | `(tactic| walk_at "cond") => `(tactic| first | exact ⟨_, rfl⟩ | exact Nat.le_of_lt (small1000 (Nat.le_of_ble_eq_true rfl)) | decide | omega | (dsimp only; omega) | exact ⟨by decide, by decide⟩ | exact Or.inr ⟨by decide, by decide⟩ | exact Or.inl ⟨by decide, by decide⟩ | exact ⟨by decide, by decide, by decide⟩ | exact ⟨by omega, by omega⟩ | exact ⟨by omega, by omega, by omega⟩ | (simp only [List.length_cons, List.length_nil, List.length_append, List.length_take, List.length_drop]; omega) | (refine ⟨?_, ?_, ?_⟩ <;> first | decide | omega | (simp only [List.length_cons, List.length_nil, List.length_append, List.length_take, List.length_drop, Option.getD_some, Option.getD_none]; omega)))
local macro_rules | `(tactic| walk_at "st") => `(tactic| repeat (first | refine ⟨_, rfl, ?_⟩ | refine ⟨_, _, rfl, rfl, ?_⟩ | walk_at "ixl" | walk_at "setl" | refine ⟨rfl, ?_⟩ | refine Or.inl ⟨_, rfl, ?_⟩ | refine And.intro (by walk_at "cond") ?_))
local macro_rules | `(tactic| walk_at "cls") => `(tactic| first | exact OC.cl (by assumption) | exact (‹Txt _ _›).o_Clock.cl | exact (‹Txt _ _›).o_LevelTable.cl | exact (‹Txt _ _›).o_Store.cl | exact (‹Txt _ _›).o_Written.cl | exact (‹Txt _ _›).o_Roster.cl | exact (‹Txt _ _›).o_Handler.cl | exact (‹Txt _ _›).o_Logger.cl | exact (‹Txt _ _›).o_LoggerTree.cl | exact (‹Txt _ _›).o_StreamHandler.cl | exact (‹Txt _ _›).o_FileHandler.cl | exact (‹Txt _ _›).o_LogRecord.cl | exact (‹Txt _ _›).o_Yard.cl)
local macro_rules | `(tactic| walk_at "na") => `(tactic| first | (refine na_of (by assumption) ?_; decide) | (refine na_of (‹Txt _ _›).o_Clock ?_; decide) | (refine na_of (‹Txt _ _›).o_LevelTable ?_; decide) | (refine na_of (‹Txt _ _›).o_Store ?_; decide) | (refine na_of (‹Txt _ _›).o_Written ?_; decide) | (refine na_of (‹Txt _ _›).o_Roster ?_; decide) | (refine na_of (‹Txt _ _›).o_Handler ?_; decide) | (refine na_of (‹Txt _ _›).o_Logger ?_; decide) | (refine na_of (‹Txt _ _›).o_LoggerTree ?_; decide) | (refine na_of (‹Txt _ _›).o_StreamHandler ?_; decide) | (refine na_of (‹Txt _ _›).o_FileHandler ?_; decide) | (refine na_of (‹Txt _ _›).o_LogRecord ?_; decide) | (refine na_of (‹Txt _ _›).o_Yard ?_; decide))
local macro_rules | `(tactic| walk_at "fld") => `(tactic| (refine' ⟨_, _, _, _, ?vv, rfl, ?hh, ?cc, ?nn, ?ll, ?qq⟩; (case hh => walk_at "hp"); (case cc => walk_at "cls"); (case nn => walk_at "na"); (case ll => exact rfl)))
local macro_rules | `(tactic| walk_at "sto") => `(tactic| (refine' ⟨_, _, _, _, rfl, ?hh, ?cc, ?nn, ?ll, ?qq⟩; (case hh => walk_at "hp"); (case cc => walk_at "cls"); (case nn => walk_at "na"); (case ll => first | exact Nat.le_of_ble_eq_true rfl | assumption)))
local macro_rules | `(tactic| walk_at "mth") => `(tactic| (refine' ⟨_, _, _, rfl, ?hh, ?ll, ?qq⟩; (case hh => walk_at "hp"); (case ll => exact rfl)))
local macro_rules | `(tactic| walk_at "sx") => `(tactic| repeat (first | refine ⟨_, rfl, ?_⟩ | refine ⟨_, _, rfl, rfl, ?_⟩ | walk_at "ixl" | walk_at "setl" | refine ⟨rfl, ?_⟩ | refine Or.inl ⟨_, rfl, ?_⟩ | walk_at "fld" | walk_at "sto" | walk_at "mth" | refine And.intro (by walk_at "cond") ?_))
section
variable {K : PySem.W.Frag} {mg : Str → Option Value}
theorem YOk.up {T : Txt K mg} {F : Addr → Prop} {H : Hp} {A : YA2} {n : Nat} {W : YVal} (s : YOk T F H A n W) : YOk T F H A (n + 1) W :=
  ⟨s.st, s.ck, ⟨s.sS.hk, fun e he => (s.sS.hw e he).mono (Nat.le_succ _), s.sS.nw, s.sS.np, s.sS.kd, s.sS.len⟩, ⟨s.sF.hk, fun e he => (s.sF.hw e he).mono (Nat.le_succ _), s.sF.nw, s.sF.np, s.sF.kd, s.sF.len⟩, s.h0, s.h1, s.h2, s.h3, s.rd, s.rf, s.rt, s.relF, s.relT, s.nF, s.nT, s.kF, s.kT,
    fun e he => Nat.le_trans (s.eF e he) (by omega), fun e he => Nat.le_trans (s.eT e he) (by omega), fun k l e => Nat.le_trans (s.cF k l e) (by omega), fun k l e => Nat.le_trans (s.cT k l e) (by omega), Nat.le_trans s.lS (by omega), Nat.le_trans s.lF (by omega), s.z, s.nd, s.sep, s.mS, s.wn, s.FF⟩
theorem YOk.ne {T : Txt K mg} {F : Addr → Prop} {H : Hp} {A : YA2} {n : Nat} {W : YVal} (s : YOk T F H A n W) {i j : Nat} (h : i ≠ j) (hi : i < A.mut.length) (hj : j < A.mut.length) : A.mut[i] ≠ A.mut[j] := fun e => h ((List.getElem_inj s.nd).mp e)
theorem YOk.rdU {T : Txt K mg} {F : Addr → Prop} {H : Hp} {A : YA2} {n : Nat} {W : YVal} (s : YOk T F H A n W) (v : Int) : YOk T F (upd H A.rd (.dK (rowK A v))) A n { W with nr := v } := by
  have xm : A.rd ∈ A.mut := by simp [YA2.mut]
  have n1 : ∀ b ∈ A.stat, b ≠ A.rd := fun b hb z => (s.sep b hb).1 (by rw [z]; exact xm)
  have n2 : ∀ b ∈ ft W.ss, b ≠ A.rd := fun b hb z => (s.mS _ xm).1 (by rw [← z]; exact hb)
  have n3 : ∀ b ∈ ft W.fs, b ≠ A.rd := fun b hb z => (s.mS _ xm).2 (by rw [← z]; exact hb)
  exact ⟨s.st.keep fun b hb u e => by rw [upd_ne (n1 b hb)]; exact e, (by rw [upd_ne (show A.Y.ck ≠ A.rd from s.ne (i := 0) (j := 7) (by decide) (Nat.le_of_ble_eq_true rfl) (Nat.le_of_ble_eq_true rfl))]; exact s.ck), s.sS.keep (fun u e => by rw [upd_ne (show A.Y.sk ≠ A.rd from s.ne (i := 1) (j := 7) (by decide) (Nat.le_of_ble_eq_true rfl) (Nat.le_of_ble_eq_true rfl))]; exact e) (fun a ha u e => by rw [upd_ne (n2 a ha)]; exact e),
    s.sF.keep (fun u e => by rw [upd_ne (show A.Y.fk ≠ A.rd from s.ne (i := 2) (j := 7) (by decide) (Nat.le_of_ble_eq_true rfl) (Nat.le_of_ble_eq_true rfl))]; exact e) (fun a ha u e => by rw [upd_ne (n3 a ha)]; exact e), (by rw [upd_ne (show A.h0 ≠ A.rd from s.ne (i := 3) (j := 7) (by decide) (Nat.le_of_ble_eq_true rfl) (Nat.le_of_ble_eq_true rfl))]; exact s.h0), (by rw [upd_ne (show A.h1 ≠ A.rd from s.ne (i := 4) (j := 7) (by decide) (Nat.le_of_ble_eq_true rfl) (Nat.le_of_ble_eq_true rfl))]; exact s.h1), (by rw [upd_ne (show A.h2 ≠ A.rd from s.ne (i := 5) (j := 7) (by decide) (Nat.le_of_ble_eq_true rfl) (Nat.le_of_ble_eq_true rfl))]; exact s.h2), (by rw [upd_ne (show A.h3 ≠ A.rd from s.ne (i := 6) (j := 7) (by decide) (Nat.le_of_ble_eq_true rfl) (Nat.le_of_ble_eq_true rfl))]; exact s.h3), upd_same, (by rw [upd_ne (show A.rf ≠ A.rd from s.ne (i := 8) (j := 7) (by decide) (Nat.le_of_ble_eq_true rfl) (Nat.le_of_ble_eq_true rfl))]; exact s.rf), (by rw [upd_ne (show A.rt ≠ A.rd from s.ne (i := 9) (j := 7) (by decide) (Nat.le_of_ble_eq_true rfl) (Nat.le_of_ble_eq_true rfl))]; exact s.rt),
    s.relF, s.relT, s.nF, s.nT, s.kF, s.kT, s.eF, s.eT, s.cF, s.cT, s.lS, s.lF, s.z, s.nd, s.sep, s.mS, s.wn, s.FF⟩
theorem YOk.ckU {T : Txt K mg} {F : Addr → Prop} {H : Hp} {A : YA2} {n : Nat} {W : YVal} (s : YOk T F H A n W) (v : Int) : YOk T F (upd H A.Y.ck (.ins T.C_Clock A.Y.dck [("shown", .int v)])) A n { W with nc := v } := by
  have xm : A.Y.ck ∈ A.mut := by simp [YA2.mut]
  have n1 : ∀ b ∈ A.stat, b ≠ A.Y.ck := fun b hb z => (s.sep b hb).1 (by rw [z]; exact xm)
  have n2 : ∀ b ∈ ft W.ss, b ≠ A.Y.ck := fun b hb z => (s.mS _ xm).1 (by rw [← z]; exact hb)
  have n3 : ∀ b ∈ ft W.fs, b ≠ A.Y.ck := fun b hb z => (s.mS _ xm).2 (by rw [← z]; exact hb)
  exact ⟨s.st.keep fun b hb u e => by rw [upd_ne (n1 b hb)]; exact e, upd_same, s.sS.keep (fun u e => by rw [upd_ne (show A.Y.sk ≠ A.Y.ck from s.ne (i := 1) (j := 0) (by decide) (Nat.le_of_ble_eq_true rfl) (Nat.le_of_ble_eq_true rfl))]; exact e) (fun a ha u e => by rw [upd_ne (n2 a ha)]; exact e),
    s.sF.keep (fun u e => by rw [upd_ne (show A.Y.fk ≠ A.Y.ck from s.ne (i := 2) (j := 0) (by decide) (Nat.le_of_ble_eq_true rfl) (Nat.le_of_ble_eq_true rfl))]; exact e) (fun a ha u e => by rw [upd_ne (n3 a ha)]; exact e), (by rw [upd_ne (show A.h0 ≠ A.Y.ck from s.ne (i := 3) (j := 0) (by decide) (Nat.le_of_ble_eq_true rfl) (Nat.le_of_ble_eq_true rfl))]; exact s.h0), (by rw [upd_ne (show A.h1 ≠ A.Y.ck from s.ne (i := 4) (j := 0) (by decide) (Nat.le_of_ble_eq_true rfl) (Nat.le_of_ble_eq_true rfl))]; exact s.h1), (by rw [upd_ne (show A.h2 ≠ A.Y.ck from s.ne (i := 5) (j := 0) (by decide) (Nat.le_of_ble_eq_true rfl) (Nat.le_of_ble_eq_true rfl))]; exact s.h2), (by rw [upd_ne (show A.h3 ≠ A.Y.ck from s.ne (i := 6) (j := 0) (by decide) (Nat.le_of_ble_eq_true rfl) (Nat.le_of_ble_eq_true rfl))]; exact s.h3), (by rw [upd_ne (show A.rd ≠ A.Y.ck from s.ne (i := 7) (j := 0) (by decide) (Nat.le_of_ble_eq_true rfl) (Nat.le_of_ble_eq_true rfl))]; exact s.rd), (by rw [upd_ne (show A.rf ≠ A.Y.ck from s.ne (i := 8) (j := 0) (by decide) (Nat.le_of_ble_eq_true rfl) (Nat.le_of_ble_eq_true rfl))]; exact s.rf), (by rw [upd_ne (show A.rt ≠ A.Y.ck from s.ne (i := 9) (j := 0) (by decide) (Nat.le_of_ble_eq_true rfl) (Nat.le_of_ble_eq_true rfl))]; exact s.rt),
    s.relF, s.relT, s.nF, s.nT, s.kF, s.kT, s.eF, s.eT, s.cF, s.cT, s.lS, s.lF, s.z, s.nd, s.sep, s.mS, s.wn, s.FF⟩
theorem YOk.rfU {T : Txt K mg} {F : Addr → Prop} {H : Hp} {A : YA2} {n : Nat} {W : YVal} (s : YOk T F H A n W) (m : Asc) (h1 : (m.map (·.1)).Nodup) (h2 : ∀ e ∈ m, e.1 ∈ K5) (h3 : ∀ e ∈ m, e.2.length ≤ 20 * n) : YOk T F (upd H A.rf (.dK (kvM m))) A n { W with fm := m } := by
  have xm : A.rf ∈ A.mut := by simp [YA2.mut]
  have n1 : ∀ b ∈ A.stat, b ≠ A.rf := fun b hb z => (s.sep b hb).1 (by rw [z]; exact xm)
  have n2 : ∀ b ∈ ft W.ss, b ≠ A.rf := fun b hb z => (s.mS _ xm).1 (by rw [← z]; exact hb)
  have n3 : ∀ b ∈ ft W.fs, b ≠ A.rf := fun b hb z => (s.mS _ xm).2 (by rw [← z]; exact hb)
  exact ⟨s.st.keep fun b hb u e => by rw [upd_ne (n1 b hb)]; exact e, (by rw [upd_ne (show A.Y.ck ≠ A.rf from s.ne (i := 0) (j := 8) (by decide) (Nat.le_of_ble_eq_true rfl) (Nat.le_of_ble_eq_true rfl))]; exact s.ck), s.sS.keep (fun u e => by rw [upd_ne (show A.Y.sk ≠ A.rf from s.ne (i := 1) (j := 8) (by decide) (Nat.le_of_ble_eq_true rfl) (Nat.le_of_ble_eq_true rfl))]; exact e) (fun a ha u e => by rw [upd_ne (n2 a ha)]; exact e),
    s.sF.keep (fun u e => by rw [upd_ne (show A.Y.fk ≠ A.rf from s.ne (i := 2) (j := 8) (by decide) (Nat.le_of_ble_eq_true rfl) (Nat.le_of_ble_eq_true rfl))]; exact e) (fun a ha u e => by rw [upd_ne (n3 a ha)]; exact e), (by rw [upd_ne (show A.h0 ≠ A.rf from s.ne (i := 3) (j := 8) (by decide) (Nat.le_of_ble_eq_true rfl) (Nat.le_of_ble_eq_true rfl))]; exact s.h0), (by rw [upd_ne (show A.h1 ≠ A.rf from s.ne (i := 4) (j := 8) (by decide) (Nat.le_of_ble_eq_true rfl) (Nat.le_of_ble_eq_true rfl))]; exact s.h1), (by rw [upd_ne (show A.h2 ≠ A.rf from s.ne (i := 5) (j := 8) (by decide) (Nat.le_of_ble_eq_true rfl) (Nat.le_of_ble_eq_true rfl))]; exact s.h2), (by rw [upd_ne (show A.h3 ≠ A.rf from s.ne (i := 6) (j := 8) (by decide) (Nat.le_of_ble_eq_true rfl) (Nat.le_of_ble_eq_true rfl))]; exact s.h3), (by rw [upd_ne (show A.rd ≠ A.rf from s.ne (i := 7) (j := 8) (by decide) (Nat.le_of_ble_eq_true rfl) (Nat.le_of_ble_eq_true rfl))]; exact s.rd), upd_same, (by rw [upd_ne (show A.rt ≠ A.rf from s.ne (i := 9) (j := 8) (by decide) (Nat.le_of_ble_eq_true rfl) (Nat.le_of_ble_eq_true rfl))]; exact s.rt),
    s.relF, s.relT, h1, s.nT, h2, s.kT, h3, s.eT, s.cF, s.cT, s.lS, s.lF, s.z, s.nd, s.sep, s.mS, s.wn, s.FF⟩
theorem YOk.rtU {T : Txt K mg} {F : Addr → Prop} {H : Hp} {A : YA2} {n : Nat} {W : YVal} (s : YOk T F H A n W) (m : Asc) (h1 : (m.map (·.1)).Nodup) (h2 : ∀ e ∈ m, e.1 ∈ K3) (h3 : ∀ e ∈ m, e.2.length ≤ 20 * n) : YOk T F (upd H A.rt (.dK (kvM m))) A n { W with tm := m } := by
  have xm : A.rt ∈ A.mut := by simp [YA2.mut]
  have n1 : ∀ b ∈ A.stat, b ≠ A.rt := fun b hb z => (s.sep b hb).1 (by rw [z]; exact xm)
  have n2 : ∀ b ∈ ft W.ss, b ≠ A.rt := fun b hb z => (s.mS _ xm).1 (by rw [← z]; exact hb)
  have n3 : ∀ b ∈ ft W.fs, b ≠ A.rt := fun b hb z => (s.mS _ xm).2 (by rw [← z]; exact hb)
  exact ⟨s.st.keep fun b hb u e => by rw [upd_ne (n1 b hb)]; exact e, (by rw [upd_ne (show A.Y.ck ≠ A.rt from s.ne (i := 0) (j := 9) (by decide) (Nat.le_of_ble_eq_true rfl) (Nat.le_of_ble_eq_true rfl))]; exact s.ck), s.sS.keep (fun u e => by rw [upd_ne (show A.Y.sk ≠ A.rt from s.ne (i := 1) (j := 9) (by decide) (Nat.le_of_ble_eq_true rfl) (Nat.le_of_ble_eq_true rfl))]; exact e) (fun a ha u e => by rw [upd_ne (n2 a ha)]; exact e),
    s.sF.keep (fun u e => by rw [upd_ne (show A.Y.fk ≠ A.rt from s.ne (i := 2) (j := 9) (by decide) (Nat.le_of_ble_eq_true rfl) (Nat.le_of_ble_eq_true rfl))]; exact e) (fun a ha u e => by rw [upd_ne (n3 a ha)]; exact e), (by rw [upd_ne (show A.h0 ≠ A.rt from s.ne (i := 3) (j := 9) (by decide) (Nat.le_of_ble_eq_true rfl) (Nat.le_of_ble_eq_true rfl))]; exact s.h0), (by rw [upd_ne (show A.h1 ≠ A.rt from s.ne (i := 4) (j := 9) (by decide) (Nat.le_of_ble_eq_true rfl) (Nat.le_of_ble_eq_true rfl))]; exact s.h1), (by rw [upd_ne (show A.h2 ≠ A.rt from s.ne (i := 5) (j := 9) (by decide) (Nat.le_of_ble_eq_true rfl) (Nat.le_of_ble_eq_true rfl))]; exact s.h2), (by rw [upd_ne (show A.h3 ≠ A.rt from s.ne (i := 6) (j := 9) (by decide) (Nat.le_of_ble_eq_true rfl) (Nat.le_of_ble_eq_true rfl))]; exact s.h3), (by rw [upd_ne (show A.rd ≠ A.rt from s.ne (i := 7) (j := 9) (by decide) (Nat.le_of_ble_eq_true rfl) (Nat.le_of_ble_eq_true rfl))]; exact s.rd), (by rw [upd_ne (show A.rf ≠ A.rt from s.ne (i := 8) (j := 9) (by decide) (Nat.le_of_ble_eq_true rfl) (Nat.le_of_ble_eq_true rfl))]; exact s.rf), upd_same,
    s.relF, s.relT, s.nF, h1, s.kF, h2, s.eF, h3, s.cF, s.cT, s.lS, s.lF, s.z, s.nd, s.sep, s.mS, s.wn, s.FF⟩
theorem YOk.h0U {T : Txt K mg} {F : Addr → Prop} {H : Hp} {A : YA2} {n : Nat} {W : YVal} (s : YOk T F H A n W) (z : List Nat) (hz : z.length ≤ 1) : YOk T F (upd H A.h0 (.ins T.C_StreamHandler A.d0 (fSz A.y A.f0 z kOut))) A n { W with z0 := z } := by
  have xm : A.h0 ∈ A.mut := by simp [YA2.mut]
  have n1 : ∀ b ∈ A.stat, b ≠ A.h0 := fun b hb z => (s.sep b hb).1 (by rw [z]; exact xm)
  have n2 : ∀ b ∈ ft W.ss, b ≠ A.h0 := fun b hb z => (s.mS _ xm).1 (by rw [← z]; exact hb)
  have n3 : ∀ b ∈ ft W.fs, b ≠ A.h0 := fun b hb z => (s.mS _ xm).2 (by rw [← z]; exact hb)
  exact ⟨s.st.keep fun b hb u e => by rw [upd_ne (n1 b hb)]; exact e, (by rw [upd_ne (show A.Y.ck ≠ A.h0 from s.ne (i := 0) (j := 3) (by decide) (Nat.le_of_ble_eq_true rfl) (Nat.le_of_ble_eq_true rfl))]; exact s.ck), s.sS.keep (fun u e => by rw [upd_ne (show A.Y.sk ≠ A.h0 from s.ne (i := 1) (j := 3) (by decide) (Nat.le_of_ble_eq_true rfl) (Nat.le_of_ble_eq_true rfl))]; exact e) (fun a ha u e => by rw [upd_ne (n2 a ha)]; exact e),
    s.sF.keep (fun u e => by rw [upd_ne (show A.Y.fk ≠ A.h0 from s.ne (i := 2) (j := 3) (by decide) (Nat.le_of_ble_eq_true rfl) (Nat.le_of_ble_eq_true rfl))]; exact e) (fun a ha u e => by rw [upd_ne (n3 a ha)]; exact e), upd_same, (by rw [upd_ne (show A.h1 ≠ A.h0 from s.ne (i := 4) (j := 3) (by decide) (Nat.le_of_ble_eq_true rfl) (Nat.le_of_ble_eq_true rfl))]; exact s.h1), (by rw [upd_ne (show A.h2 ≠ A.h0 from s.ne (i := 5) (j := 3) (by decide) (Nat.le_of_ble_eq_true rfl) (Nat.le_of_ble_eq_true rfl))]; exact s.h2), (by rw [upd_ne (show A.h3 ≠ A.h0 from s.ne (i := 6) (j := 3) (by decide) (Nat.le_of_ble_eq_true rfl) (Nat.le_of_ble_eq_true rfl))]; exact s.h3), (by rw [upd_ne (show A.rd ≠ A.h0 from s.ne (i := 7) (j := 3) (by decide) (Nat.le_of_ble_eq_true rfl) (Nat.le_of_ble_eq_true rfl))]; exact s.rd), (by rw [upd_ne (show A.rf ≠ A.h0 from s.ne (i := 8) (j := 3) (by decide) (Nat.le_of_ble_eq_true rfl) (Nat.le_of_ble_eq_true rfl))]; exact s.rf), (by rw [upd_ne (show A.rt ≠ A.h0 from s.ne (i := 9) (j := 3) (by decide) (Nat.le_of_ble_eq_true rfl) (Nat.le_of_ble_eq_true rfl))]; exact s.rt),
    s.relF, s.relT, s.nF, s.nT, s.kF, s.kT, s.eF, s.eT, s.cF, s.cT, s.lS, s.lF, ⟨hz, s.z.2.1, s.z.2.2.1, s.z.2.2.2⟩, s.nd, s.sep, s.mS, s.wn, s.FF⟩
theorem YOk.h1U {T : Txt K mg} {F : Addr → Prop} {H : Hp} {A : YA2} {n : Nat} {W : YVal} (s : YOk T F H A n W) (z : List Nat) (hz : z.length ≤ 1) : YOk T F (upd H A.h1 (.ins T.C_StreamHandler A.d1 (fSz A.y A.f1 z []))) A n { W with z1 := z } := by
  have xm : A.h1 ∈ A.mut := by simp [YA2.mut]
  have n1 : ∀ b ∈ A.stat, b ≠ A.h1 := fun b hb z => (s.sep b hb).1 (by rw [z]; exact xm)
  have n2 : ∀ b ∈ ft W.ss, b ≠ A.h1 := fun b hb z => (s.mS _ xm).1 (by rw [← z]; exact hb)
  have n3 : ∀ b ∈ ft W.fs, b ≠ A.h1 := fun b hb z => (s.mS _ xm).2 (by rw [← z]; exact hb)
  exact ⟨s.st.keep fun b hb u e => by rw [upd_ne (n1 b hb)]; exact e, (by rw [upd_ne (show A.Y.ck ≠ A.h1 from s.ne (i := 0) (j := 4) (by decide) (Nat.le_of_ble_eq_true rfl) (Nat.le_of_ble_eq_true rfl))]; exact s.ck), s.sS.keep (fun u e => by rw [upd_ne (show A.Y.sk ≠ A.h1 from s.ne (i := 1) (j := 4) (by decide) (Nat.le_of_ble_eq_true rfl) (Nat.le_of_ble_eq_true rfl))]; exact e) (fun a ha u e => by rw [upd_ne (n2 a ha)]; exact e),
    s.sF.keep (fun u e => by rw [upd_ne (show A.Y.fk ≠ A.h1 from s.ne (i := 2) (j := 4) (by decide) (Nat.le_of_ble_eq_true rfl) (Nat.le_of_ble_eq_true rfl))]; exact e) (fun a ha u e => by rw [upd_ne (n3 a ha)]; exact e), (by rw [upd_ne (show A.h0 ≠ A.h1 from s.ne (i := 3) (j := 4) (by decide) (Nat.le_of_ble_eq_true rfl) (Nat.le_of_ble_eq_true rfl))]; exact s.h0), upd_same, (by rw [upd_ne (show A.h2 ≠ A.h1 from s.ne (i := 5) (j := 4) (by decide) (Nat.le_of_ble_eq_true rfl) (Nat.le_of_ble_eq_true rfl))]; exact s.h2), (by rw [upd_ne (show A.h3 ≠ A.h1 from s.ne (i := 6) (j := 4) (by decide) (Nat.le_of_ble_eq_true rfl) (Nat.le_of_ble_eq_true rfl))]; exact s.h3), (by rw [upd_ne (show A.rd ≠ A.h1 from s.ne (i := 7) (j := 4) (by decide) (Nat.le_of_ble_eq_true rfl) (Nat.le_of_ble_eq_true rfl))]; exact s.rd), (by rw [upd_ne (show A.rf ≠ A.h1 from s.ne (i := 8) (j := 4) (by decide) (Nat.le_of_ble_eq_true rfl) (Nat.le_of_ble_eq_true rfl))]; exact s.rf), (by rw [upd_ne (show A.rt ≠ A.h1 from s.ne (i := 9) (j := 4) (by decide) (Nat.le_of_ble_eq_true rfl) (Nat.le_of_ble_eq_true rfl))]; exact s.rt),
    s.relF, s.relT, s.nF, s.nT, s.kF, s.kT, s.eF, s.eT, s.cF, s.cT, s.lS, s.lF, ⟨s.z.1, hz, s.z.2.2.1, s.z.2.2.2⟩, s.nd, s.sep, s.mS, s.wn, s.FF⟩
theorem YOk.h2U {T : Txt K mg} {F : Addr → Prop} {H : Hp} {A : YA2} {n : Nat} {W : YVal} (s : YOk T F H A n W) (z : List Nat) (hz : z.length ≤ 1) : YOk T F (upd H A.h2 (.ins T.C_StreamHandler A.d2 (fSz A.y A.f2 z kErr))) A n { W with z2 := z } := by
  have xm : A.h2 ∈ A.mut := by simp [YA2.mut]
  have n1 : ∀ b ∈ A.stat, b ≠ A.h2 := fun b hb z => (s.sep b hb).1 (by rw [z]; exact xm)
  have n2 : ∀ b ∈ ft W.ss, b ≠ A.h2 := fun b hb z => (s.mS _ xm).1 (by rw [← z]; exact hb)
  have n3 : ∀ b ∈ ft W.fs, b ≠ A.h2 := fun b hb z => (s.mS _ xm).2 (by rw [← z]; exact hb)
  exact ⟨s.st.keep fun b hb u e => by rw [upd_ne (n1 b hb)]; exact e, (by rw [upd_ne (show A.Y.ck ≠ A.h2 from s.ne (i := 0) (j := 5) (by decide) (Nat.le_of_ble_eq_true rfl) (Nat.le_of_ble_eq_true rfl))]; exact s.ck), s.sS.keep (fun u e => by rw [upd_ne (show A.Y.sk ≠ A.h2 from s.ne (i := 1) (j := 5) (by decide) (Nat.le_of_ble_eq_true rfl) (Nat.le_of_ble_eq_true rfl))]; exact e) (fun a ha u e => by rw [upd_ne (n2 a ha)]; exact e),
    s.sF.keep (fun u e => by rw [upd_ne (show A.Y.fk ≠ A.h2 from s.ne (i := 2) (j := 5) (by decide) (Nat.le_of_ble_eq_true rfl) (Nat.le_of_ble_eq_true rfl))]; exact e) (fun a ha u e => by rw [upd_ne (n3 a ha)]; exact e), (by rw [upd_ne (show A.h0 ≠ A.h2 from s.ne (i := 3) (j := 5) (by decide) (Nat.le_of_ble_eq_true rfl) (Nat.le_of_ble_eq_true rfl))]; exact s.h0), (by rw [upd_ne (show A.h1 ≠ A.h2 from s.ne (i := 4) (j := 5) (by decide) (Nat.le_of_ble_eq_true rfl) (Nat.le_of_ble_eq_true rfl))]; exact s.h1), upd_same, (by rw [upd_ne (show A.h3 ≠ A.h2 from s.ne (i := 6) (j := 5) (by decide) (Nat.le_of_ble_eq_true rfl) (Nat.le_of_ble_eq_true rfl))]; exact s.h3), (by rw [upd_ne (show A.rd ≠ A.h2 from s.ne (i := 7) (j := 5) (by decide) (Nat.le_of_ble_eq_true rfl) (Nat.le_of_ble_eq_true rfl))]; exact s.rd), (by rw [upd_ne (show A.rf ≠ A.h2 from s.ne (i := 8) (j := 5) (by decide) (Nat.le_of_ble_eq_true rfl) (Nat.le_of_ble_eq_true rfl))]; exact s.rf), (by rw [upd_ne (show A.rt ≠ A.h2 from s.ne (i := 9) (j := 5) (by decide) (Nat.le_of_ble_eq_true rfl) (Nat.le_of_ble_eq_true rfl))]; exact s.rt),
    s.relF, s.relT, s.nF, s.nT, s.kF, s.kT, s.eF, s.eT, s.cF, s.cT, s.lS, s.lF, ⟨s.z.1, s.z.2.1, hz, s.z.2.2.2⟩, s.nd, s.sep, s.mS, s.wn, s.FF⟩
theorem YOk.h3U {T : Txt K mg} {F : Addr → Prop} {H : Hp} {A : YA2} {n : Nat} {W : YVal} (s : YOk T F H A n W) (z : List Nat) (o : Bool) (hz : z.length ≤ 1) : YOk T F (upd H A.h3 (.ins T.C_FileHandler A.d3 (fFh A.y A.f3 z kFile o))) A n { W with z3 := z, o := o } := by
  have xm : A.h3 ∈ A.mut := by simp [YA2.mut]
  have n1 : ∀ b ∈ A.stat, b ≠ A.h3 := fun b hb z => (s.sep b hb).1 (by rw [z]; exact xm)
  have n2 : ∀ b ∈ ft W.ss, b ≠ A.h3 := fun b hb z => (s.mS _ xm).1 (by rw [← z]; exact hb)
  have n3 : ∀ b ∈ ft W.fs, b ≠ A.h3 := fun b hb z => (s.mS _ xm).2 (by rw [← z]; exact hb)
  exact ⟨s.st.keep fun b hb u e => by rw [upd_ne (n1 b hb)]; exact e, (by rw [upd_ne (show A.Y.ck ≠ A.h3 from s.ne (i := 0) (j := 6) (by decide) (Nat.le_of_ble_eq_true rfl) (Nat.le_of_ble_eq_true rfl))]; exact s.ck), s.sS.keep (fun u e => by rw [upd_ne (show A.Y.sk ≠ A.h3 from s.ne (i := 1) (j := 6) (by decide) (Nat.le_of_ble_eq_true rfl) (Nat.le_of_ble_eq_true rfl))]; exact e) (fun a ha u e => by rw [upd_ne (n2 a ha)]; exact e),
    s.sF.keep (fun u e => by rw [upd_ne (show A.Y.fk ≠ A.h3 from s.ne (i := 2) (j := 6) (by decide) (Nat.le_of_ble_eq_true rfl) (Nat.le_of_ble_eq_true rfl))]; exact e) (fun a ha u e => by rw [upd_ne (n3 a ha)]; exact e), (by rw [upd_ne (show A.h0 ≠ A.h3 from s.ne (i := 3) (j := 6) (by decide) (Nat.le_of_ble_eq_true rfl) (Nat.le_of_ble_eq_true rfl))]; exact s.h0), (by rw [upd_ne (show A.h1 ≠ A.h3 from s.ne (i := 4) (j := 6) (by decide) (Nat.le_of_ble_eq_true rfl) (Nat.le_of_ble_eq_true rfl))]; exact s.h1), (by rw [upd_ne (show A.h2 ≠ A.h3 from s.ne (i := 5) (j := 6) (by decide) (Nat.le_of_ble_eq_true rfl) (Nat.le_of_ble_eq_true rfl))]; exact s.h2), upd_same, (by rw [upd_ne (show A.rd ≠ A.h3 from s.ne (i := 7) (j := 6) (by decide) (Nat.le_of_ble_eq_true rfl) (Nat.le_of_ble_eq_true rfl))]; exact s.rd), (by rw [upd_ne (show A.rf ≠ A.h3 from s.ne (i := 8) (j := 6) (by decide) (Nat.le_of_ble_eq_true rfl) (Nat.le_of_ble_eq_true rfl))]; exact s.rf), (by rw [upd_ne (show A.rt ≠ A.h3 from s.ne (i := 9) (j := 6) (by decide) (Nat.le_of_ble_eq_true rfl) (Nat.le_of_ble_eq_true rfl))]; exact s.rt),
    s.relF, s.relT, s.nF, s.nT, s.kF, s.kT, s.eF, s.eT, s.cF, s.cT, s.lS, s.lF, ⟨s.z.1, s.z.2.1, s.z.2.2.1, hz⟩, s.nd, s.sep, s.mS, s.wn, s.FF⟩
/-- the streams' texts are others -/
theorem YOk.stS {T : Txt K mg} {F : Addr → Prop} {H H' : Hp} {A : YA2} {n n' : Nat} {W : YVal} {ss' : SMap} {tc' : List Nat → Option (List Nat)} (s0 : YOk T F H A n W) (hn : n' = n ∨ n' = n + 1) (S' : StAt T.C_Written H' A.Y.sk ss' (n' + 1)) (hft : ∀ a ∈ ft ss', H a = none ∨ a ∈ ft W.ss) (fr : FrS (A.Y.sk :: ft W.ss) H H')
    (rel : ∀ k, cont ss' k = tc' k) (cT : ∀ k l, tc' k = some l → l.length ≤ 20 * n') (lS : ss'.length ≤ 2 * n') :
    ∃ F', YOk T F' H' A n' { W with ss := ss', tc := tc' } ∧ (∀ b, F' b → F b ∨ H b = none) ∧ ∀ b u, ¬ F b → H b = some u → H' b = some u := by
  have s : YOk T F H A n' W := by rcases hn with rfl | rfl; exact s0; exact s0.up
  have skm : A.Y.sk ∈ A.mut := by simp [YA2.mut]
  have k : ∀ b, b ≠ A.Y.sk → b ∉ ft W.ss → ∀ u, H b = some u → H' b = some u := fun b h1 h2 u e => fr b u (fun z => (List.mem_cons.mp z).elim h1 h2) e
  have nw : ∀ a, (a ∈ A.stat ∨ a ∈ A.mut ∨ a ∈ ft W.fs) → a ∉ ft W.ss → a ∉ ft ss' := fun a h nf z => by
    rcases hft a z with w | w
    · exact s.trk (h.elim .inl fun h => h.elim (fun h => .inr (.inl h)) fun h => .inr (.inr (.inr h))) w
    · exact nf w
  have km : ∀ {j : Nat}, j ≠ 1 → ∀ (h2 : j < A.mut.length), ∀ u, H A.mut[j] = some u → H' A.mut[j] = some u := fun {j} h1 h2 => k _ (show A.mut[j] ≠ A.Y.sk from s.ne (i := j) (j := 1) h1 h2 (Nat.le_of_ble_eq_true rfl)) (s.mS _ (List.getElem_mem _)).1
  have wn' : ∀ a ∈ ft W.fs, a ∉ ft W.ss := fun a h z => s.wn a z h
  have fsk : ∀ a ∈ ft W.fs, a ≠ A.Y.sk := fun a ha z => (s.mS _ skm).2 (by rw [← z]; exact ha)
  have ssk : ∀ a ∈ A.stat, a ≠ A.Y.sk := fun a ha z => (s.sep a ha).1 (by rw [z]; exact skm)
  refine ⟨fun b => b ∈ A.mut ∨ b ∈ ft ss' ∨ b ∈ ft W.fs, ⟨s.st.keep fun b hb => k b (ssk b hb) (s.sep b hb).2.1, km (j := 0) (by decide) (Nat.le_of_ble_eq_true rfl) _ s.ck, S', s.sF.keep (km (j := 2) (by decide) (Nat.le_of_ble_eq_true rfl)) (fun a ha => k a (fsk a ha) (wn' a ha)),
    km (j := 3) (by decide) (Nat.le_of_ble_eq_true rfl) _ s.h0, km (j := 4) (by decide) (Nat.le_of_ble_eq_true rfl) _ s.h1, km (j := 5) (by decide) (Nat.le_of_ble_eq_true rfl) _ s.h2, km (j := 6) (by decide) (Nat.le_of_ble_eq_true rfl) _ s.h3, km (j := 7) (by decide) (Nat.le_of_ble_eq_true rfl) _ s.rd, km (j := 8) (by decide) (Nat.le_of_ble_eq_true rfl) _ s.rf, km (j := 9) (by decide) (Nat.le_of_ble_eq_true rfl) _ s.rt,
    s.relF, rel, s.nF, s.nT, s.kF, s.kT, s.eF, s.eT, s.cF, cT, lS, s.lF, s.z, s.nd,
    fun a ha => ⟨(s.sep a ha).1, nw a (.inl ha) (s.sep a ha).2.1, (s.sep a ha).2.2⟩, fun a ha => ⟨nw a (.inr (.inl ha)) (s.mS a ha).1, (s.mS a ha).2⟩, fun a ha z => nw a (.inr (.inr z)) (wn' a z) ha, fun b => Iff.rfl⟩, ?_, ?_⟩
  · rintro b (h | h | h)
    · exact .inl ((s.FF b).mpr (.inl h))
    · exact (hft b h).elim .inr fun z => .inl ((s.FF b).mpr (.inr (.inl z)))
    · exact .inl ((s.FF b).mpr (.inr (.inr h)))
  · exact fun b u nf => k b (fun z => nf ((s.FF b).mpr (.inl (by rw [z]; exact skm)))) (fun z => nf ((s.FF b).mpr (.inr (.inl z)))) u
/-- the files' texts are others, and the file may be open now -/
theorem YOk.stF {T : Txt K mg} {F : Addr → Prop} {H H' : Hp} {A : YA2} {n n' : Nat} {W : YVal} {fs' : SMap} {fc' : List Nat → Option (List Nat)} {o' : Bool} (s0 : YOk T F H A n W) (hn : n' = n ∨ n' = n + 1) (S' : StAt T.C_Written H' A.Y.fk fs' (n' + 1)) (hft : ∀ a ∈ ft fs', H a = none ∨ a ∈ ft W.fs)
    (h3 : H' A.h3 = some (.ins T.C_FileHandler A.d3 (fFh A.y A.f3 W.z3 kFile o'))) (fr : FrS (A.h3 :: A.Y.fk :: ft W.fs) H H') (rel : ∀ k, cont fs' k = fc' k) (cF : ∀ k l, fc' k = some l → l.length ≤ 20 * n') (lF : fs'.length ≤ 2 * n') :
    ∃ F', YOk T F' H' A n' { W with fs := fs', fc := fc', o := o' } ∧ (∀ b, F' b → F b ∨ H b = none) ∧ ∀ b u, ¬ F b → H b = some u → H' b = some u := by
  have s : YOk T F H A n' W := by rcases hn with rfl | rfl; exact s0; exact s0.up
  have fkm : A.Y.fk ∈ A.mut := by simp [YA2.mut]
  have h3m : A.h3 ∈ A.mut := by simp [YA2.mut]
  have k : ∀ b, b ≠ A.h3 → b ≠ A.Y.fk → b ∉ ft W.fs → ∀ u, H b = some u → H' b = some u := fun b h0 h1 h2 u e => fr b u (fun z => (List.mem_cons.mp z).elim h0 fun z => (List.mem_cons.mp z).elim h1 h2) e
  have nw : ∀ a, (a ∈ A.stat ∨ a ∈ A.mut ∨ a ∈ ft W.ss) → a ∉ ft W.fs → a ∉ ft fs' := fun a h nf z => by
    rcases hft a z with w | w
    · exact s.trk (h.elim .inl fun h => h.elim (fun h => .inr (.inl h)) fun h => .inr (.inr (.inl h))) w
    · exact nf w
  have km : ∀ {j : Nat}, j ≠ 6 → j ≠ 2 → ∀ (h2 : j < A.mut.length), ∀ u, H A.mut[j] = some u → H' A.mut[j] = some u := fun {j} h0 h1 h2 => k _ (show A.mut[j] ≠ A.h3 from s.ne (i := j) (j := 6) h0 h2 (Nat.le_of_ble_eq_true rfl)) (show A.mut[j] ≠ A.Y.fk from s.ne (i := j) (j := 2) h1 h2 (Nat.le_of_ble_eq_true rfl)) (s.mS _ (List.getElem_mem _)).2
  have sfk : ∀ a ∈ ft W.ss, a ≠ A.Y.fk := fun a ha z => (s.mS _ fkm).1 (by rw [← z]; exact ha)
  have sh3 : ∀ a ∈ ft W.ss, a ≠ A.h3 := fun a ha z => (s.mS _ h3m).1 (by rw [← z]; exact ha)
  have tfk : ∀ a ∈ A.stat, a ≠ A.Y.fk := fun a ha z => (s.sep a ha).1 (by rw [z]; exact fkm)
  have th3 : ∀ a ∈ A.stat, a ≠ A.h3 := fun a ha z => (s.sep a ha).1 (by rw [z]; exact h3m)
  refine ⟨fun b => b ∈ A.mut ∨ b ∈ ft W.ss ∨ b ∈ ft fs', ⟨s.st.keep fun b hb => k b (th3 b hb) (tfk b hb) (s.sep b hb).2.2, km (j := 0) (by decide) (by decide) (Nat.le_of_ble_eq_true rfl) _ s.ck, s.sS.keep (km (j := 1) (by decide) (by decide) (Nat.le_of_ble_eq_true rfl)) (fun a ha => k a (sh3 a ha) (sfk a ha) (s.wn a ha)), S',
    km (j := 3) (by decide) (by decide) (Nat.le_of_ble_eq_true rfl) _ s.h0, km (j := 4) (by decide) (by decide) (Nat.le_of_ble_eq_true rfl) _ s.h1, km (j := 5) (by decide) (by decide) (Nat.le_of_ble_eq_true rfl) _ s.h2, h3, km (j := 7) (by decide) (by decide) (Nat.le_of_ble_eq_true rfl) _ s.rd, km (j := 8) (by decide) (by decide) (Nat.le_of_ble_eq_true rfl) _ s.rf, km (j := 9) (by decide) (by decide) (Nat.le_of_ble_eq_true rfl) _ s.rt,
    rel, s.relT, s.nF, s.nT, s.kF, s.kT, s.eF, s.eT, cF, s.cT, s.lS, lF, s.z, s.nd,
    fun a ha => ⟨(s.sep a ha).1, (s.sep a ha).2.1, nw a (.inl ha) (s.sep a ha).2.2⟩, fun a ha => ⟨(s.mS a ha).1, nw a (.inr (.inl ha)) (s.mS a ha).2⟩, fun a ha => nw a (.inr (.inr ha)) (s.wn a ha), fun b => Iff.rfl⟩, ?_, ?_⟩
  · rintro b (h | h | h)
    · exact .inl ((s.FF b).mpr (.inl h))
    · exact .inl ((s.FF b).mpr (.inr (.inl h)))
    · exact (hft b h).elim .inr fun z => .inl ((s.FF b).mpr (.inr (.inr z)))
  · exact fun b u nf => k b (fun z => nf ((s.FF b).mpr (.inl (by rw [z]; exact h3m)))) (fun z => nf ((s.FF b).mpr (.inl (by rw [z]; exact fkm)))) (fun z => nf ((s.FF b).mpr (.inr (.inr z)))) u
theorem cont_drop {k : List Nat} (k' : List Nat) : ∀ (m : SMap), cont (dropM m k) k' = if k' = k then none else cont m k'
  | [] => by unfold cont dropM getM; simp
  | a :: r => by
    have ih := cont_drop (k := k) k' r
    unfold dropM cont at ih ⊢
    by_cases q : a.1 = k
    · rw [List.filter_cons_of_neg (by simp [q]), ih]
      by_cases e : k' = k
      · rw [if_pos e, if_pos e]
      · rw [if_neg e, if_neg e]
        have : getM (a :: r) k' = getM r k' := by
          show (if a.1 = k' then some a.2 else getM r k') = _
          rw [if_neg (fun z => e (z.symm.trans q))]
        rw [this]
    · rw [List.filter_cons_of_pos (by simp [q])]
      have g1 : ∀ (t : SMap), getM (a :: t) k' = if a.1 = k' then some a.2 else getM t k' := fun _ => rfl
      rw [g1, g1]
      by_cases e : a.1 = k'
      · rw [if_pos e, if_pos e, if_neg (fun z => q (e.trans z))]
      · rw [if_neg e, if_neg e]
        exact ih
end
end My

namespace My
open PySem PySem.Spec PyProof.Rows L2 SuX
local macro_rules | `(tactic| walk_at "hp") => `(tactic| first | assumption | exact upd_same | (refine Eq.trans (upd_ne (by first | assumption | (apply Ne.symm; assumption))) ?_; walk_at "hp"))
local macro_rules | `(tactic| walk_at "ixl") => `(tactic| (refine' ⟨_, ?xs, _, ?vv, rfl, rfl, SqL.of ?hh, ?aa, ?qq⟩; (case hh => walk_at "hp"); (case aa => rfl)))
local macro_rules | `(tactic| walk_at "setl") => `(tactic| (refine' ⟨_, ?xs, _, ?jj, rfl, rfl, ?hh, ?aa, ?qq⟩; (case hh => walk_at "hp"); (case aa => rfl)))
local macro_rules | `(tactic| walk_at "cond") => `(tactic| first | exact ⟨_, rfl⟩ | exact Nat.le_of_lt (small1000 (Nat.le_of_ble_eq_true rfl)) | decide | omega | (dsimp only; omega) | exact ⟨by decide, by decide⟩ | exact Or.inr ⟨by decide, by decide⟩ | exact Or.inl ⟨by decide, by decide⟩ | exact ⟨by decide, by decide, by decide⟩ | exact ⟨by omega, by omega⟩ | exact ⟨by omega, by omega, by omega⟩ | (simp only [List.length_cons, List.length_nil, List.length_append, List.length_take, List.length_drop]; omega) | (refine ⟨?_, ?_, ?_⟩ <;> first | decide | omega | (simp only [List.length_cons, List.length_nil, List.length_append, List.length_take, List.length_drop, Option.getD_some, Option.getD_none]; omega)))
local macro_rules | `(tactic| walk_at "st") => `(tactic| repeat (first | refine ⟨_, rfl, ?_⟩ | refine ⟨_, _, rfl, rfl, ?_⟩ | walk_at "ixl" | walk_at "setl" | refine ⟨rfl, ?_⟩ | refine Or.inl ⟨_, rfl, ?_⟩ | refine And.intro (by walk_at "cond") ?_))
local macro_rules | `(tactic| walk_at "cls") => `(tactic| first | exact OC.cl (by assumption) | exact (‹Txt _ _›).o_Clock.cl | exact (‹Txt _ _›).o_LevelTable.cl | exact (‹Txt _ _›).o_Store.cl | exact (‹Txt _ _›).o_Written.cl | exact (‹Txt _ _›).o_Roster.cl | exact (‹Txt _ _›).o_Handler.cl | exact (‹Txt _ _›).o_Logger.cl | exact (‹Txt _ _›).o_LoggerTree.cl | exact (‹Txt _ _›).o_StreamHandler.cl | exact (‹Txt _ _›).o_FileHandler.cl | exact (‹Txt _ _›).o_LogRecord.cl | exact (‹Txt _ _›).o_Yard.cl)
local macro_rules | `(tactic| walk_at "na") => `(tactic| first | (refine na_of (by assumption) ?_; decide) | (refine na_of (‹Txt _ _›).o_Clock ?_; decide) | (refine na_of (‹Txt _ _›).o_LevelTable ?_; decide) | (refine na_of (‹Txt _ _›).o_Store ?_; decide) | (refine na_of (‹Txt _ _›).o_Written ?_; decide) | (refine na_of (‹Txt _ _›).o_Roster ?_; decide) | (refine na_of (‹Txt _ _›).o_Handler ?_; decide) | (refine na_of (‹Txt _ _›).o_Logger ?_; decide) | (refine na_of (‹Txt _ _›).o_LoggerTree ?_; decide) | (refine na_of (‹Txt _ _›).o_StreamHandler ?_; decide) | (refine na_of (‹Txt _ _›).o_FileHandler ?_; decide) | (refine na_of (‹Txt _ _›).o_LogRecord ?_; decide) | (refine na_of (‹Txt _ _›).o_Yard ?_; decide))
local macro_rules | `(tactic| walk_at "fld") => `(tactic| (refine' ⟨_, _, _, _, ?vv, rfl, ?hh, ?cc, ?nn, ?ll, ?qq⟩; (case hh => walk_at "hp"); (case cc => walk_at "cls"); (case nn => walk_at "na"); (case ll => exact rfl)))
local macro_rules | `(tactic| walk_at "sto") => `(tactic| (refine' ⟨_, _, _, _, rfl, ?hh, ?cc, ?nn, ?ll, ?qq⟩; (case hh => walk_at "hp"); (case cc => walk_at "cls"); (case nn => walk_at "na"); (case ll => first | exact Nat.le_of_ble_eq_true rfl | assumption)))
local macro_rules | `(tactic| walk_at "mth") => `(tactic| (refine' ⟨_, _, _, rfl, ?hh, ?ll, ?qq⟩; (case hh => walk_at "hp"); (case ll => exact rfl)))
local macro_rules | `(tactic| walk_at "sx") => `(tactic| repeat (first | refine ⟨_, rfl, ?_⟩ | refine ⟨_, _, rfl, rfl, ?_⟩ | walk_at "ixl" | walk_at "setl" | refine ⟨rfl, ?_⟩ | refine Or.inl ⟨_, rfl, ?_⟩ | walk_at "fld" | walk_at "sto" | walk_at "mth" | refine And.intro (by walk_at "cond") ?_))
section
variable {K : PySem.W.Frag} {mg : Str → Option Value}
/-- since H0, with draws -/
structure Dch (T : Txt K mg) (F0 : Addr → Prop) (H0 : Hp) (p q : Addr) (A : YA2) (n : Nat) (H : Hp) (W : YVal) (m : Int) : Prop where
  ex : ∃ F, YOk T F H A n W ∧ ∀ b, F b → F0 b ∨ H0 b = none
  fr : ∀ b u, ¬ F0 b → b ≠ p → b ≠ q → H0 b = some u → H b = some u
  s : Stm H p q m
  ap : ∀ b, F0 b ∨ b ∈ A.stat → b ≠ p ∧ b ≠ q
  pn : H0 p ≠ none ∧ H0 q ≠ none
variable {T : Txt K mg} {F0 : Addr → Prop} {H0 H H' : Hp} {p q x : Addr} {A : YA2} {n n' : Nat} {W W' : YVal} {m m' : Int} {o : HO}
theorem Dch.start {F : Addr → Prop} (s : YOk T F H A n W) (S : Stm H p q m) (ap : ∀ b, F b ∨ b ∈ A.stat → b ≠ p ∧ b ≠ q) : Dch T F H p q A n H W m := ⟨⟨F, s, fun _ h => .inl h⟩, fun _ _ _ _ _ e => e, S, ap, S.there⟩
theorem Dch.apF (d : Dch T F0 H0 p q A n H W m) {F : Addr → Prop} (hF : ∀ b, F b → F0 b ∨ H0 b = none) : ∀ b, F b ∨ b ∈ A.stat → b ≠ p ∧ b ≠ q := fun b hb => by
  rcases hb with h | h
  · rcases hF b h with z | z
    · exact d.ap b (.inl z)
    · exact ⟨fun e => d.pn.1 (by rw [← e]; exact z), fun e => d.pn.2 (by rw [← e]; exact z)⟩
  · exact d.ap b (.inr h)
theorem Dch.draw (d : Dch T F0 H0 p q A n H W m) (S : Stm H' p q m') (fr : Same (off H p q) (off H' p q)) : Dch T F0 H0 p q A n H' W m' := by
  obtain ⟨F, s, hF⟩ := d.ex
  have k : ∀ b, b ≠ p → b ≠ q → ∀ u, H b = some u → H' b = some u := fun b h1 h2 u e => off_same _ _ (fr b u (by unfold off; rw [if_neg (fun z => z.elim h1 h2)]; exact e))
  exact ⟨⟨F, s.keep fun b hb => k b (d.apF hF b hb).1 (d.apF hF b hb).2, hF⟩, fun b u nf h1 h2 e => k b h1 h2 u (d.fr b u nf h1 h2 e), S, d.ap, d.pn⟩
theorem Dch.same (d : Dch T F0 H0 p q A n H W m) (h : Same H H') : Dch T F0 H0 p q A n H' W m := by
  obtain ⟨F, s, hF⟩ := d.ex
  exact ⟨⟨F, s.same h, hF⟩, fun b u nf h1 h2 e => h b u (d.fr b u nf h1 h2 e), d.s.same h, d.ap, d.pn⟩
theorem Dch.new (d : Dch T F0 H0 p q A n H W m) (hx : H x = none) : Dch T F0 H0 p q A n (upd H x o) W m := d.same (same_new hx)
theorem Dch.up (d : Dch T F0 H0 p q A n H W m) : Dch T F0 H0 p q A (n + 1) H W m := by
  obtain ⟨F, s, hF⟩ := d.ex
  exact ⟨⟨F, s.up, hF⟩, d.fr, d.s, d.ap, d.pn⟩
theorem Dch.upd (d : Dch T F0 H0 p q A n H W m) (h : ∀ F, YOk T F H A n W → YOk T F (upd H x o) A n W') (hx : x ∈ A.mut) : Dch T F0 H0 p q A n (upd H x o) W' m := by
  obtain ⟨F, s, hF⟩ := d.ex
  have xF : F x := (s.FF x).mpr (.inl hx)
  have xp := d.apF hF x (.inl xF)
  refine ⟨⟨F, h F s, hF⟩, fun b u nf h1 h2 e => ?_, d.s.put xp.1 xp.2, d.ap, d.pn⟩
  have bx : b ≠ x := fun z => (hF x xF).elim (fun w => nf (by rw [z]; exact w)) (fun w => by rw [z, w] at e; cases e)
  rw [upd_ne bx]
  exact d.fr b u nf h1 h2 e
theorem Dch.store (d : Dch T F0 H0 p q A n H W m) (h : ∀ F, YOk T F H A n W → ∃ F', YOk T F' H' A n' W' ∧ (∀ b, F' b → F b ∨ H b = none) ∧ ∀ b u, ¬ F b → H b = some u → H' b = some u) : Dch T F0 H0 p q A n' H' W' m := by
  obtain ⟨F, s, hF⟩ := d.ex
  obtain ⟨F', s', h1, h2⟩ := h F s
  have np : ¬ F p := fun z => (d.apF hF p (.inl z)).1 rfl
  have nq : ¬ F q := fun z => (d.apF hF q (.inl z)).2 rfl
  obtain ⟨⟨cs, a, c, SA⟩, n0, n1⟩ := d.s
  refine ⟨⟨F', s', fun b hb => ?_⟩, fun b u nf e1 e2 e => h2 b u (fun z => ?_) (d.fr b u nf e1 e2 e), ⟨⟨cs, a, c, ⟨h2 _ _ np SA.hp, h2 _ _ nq SA.hq, SA.a0, SA.c0, SA.c1⟩⟩, n0, n1⟩, d.ap, d.pn⟩
  · rcases h1 b hb with z | z
    · exact hF b z
    · cases e : H0 b with
      | none => exact .inr rfl
      | some u =>
        by_cases nf : F0 b
        · exact .inl nf
        · by_cases e1 : b = p
          · rw [e1, SA.hp] at z; cases z
          · by_cases e2 : b = q
            · rw [e2, SA.hq] at z; cases z
            · have := d.fr b u nf e1 e2 e; rw [z] at this; cases this
  · rcases hF b z with w | w
    · exact nf w
    · rw [w] at e; cases e
end
theorem hd_0 (A : YA2) : valV (hdK A) (Sum.inr (SX.S kOut) : Key) = some (.ref A.h0) := valV_pos rfl
theorem hd_1 (A : YA2) : valV (hdK A) (Sum.inr (SX.S []) : Key) = some (.ref A.h1) := by
  unfold hdK
  rw [valV_neg (fun z => absurd ((key_iff _ _).mp z) (by decide)), valV_pos rfl]
theorem hd_2 (A : YA2) : valV (hdK A) (Sum.inr (SX.S kErr) : Key) = some (.ref A.h2) := by
  unfold hdK
  rw [valV_neg (fun z => absurd ((key_iff _ _).mp z) (by decide)), valV_neg (fun z => absurd ((key_iff _ _).mp z) (by decide)), valV_pos rfl]
theorem hd_3 (A : YA2) : valV (hdK A) (Sum.inr (SX.S kFile) : Key) = some (.ref A.h3) := by
  unfold hdK
  rw [valV_neg (fun z => absurd ((key_iff _ _).mp z) (by decide)), valV_neg (fun z => absurd ((key_iff _ _).mp z) (by decide)), valV_neg (fun z => absurd ((key_iff _ _).mp z) (by decide)), valV_pos rfl]
theorem ft_drop {m : SMap} {k : List Nat} : ∀ a ∈ ft (dropM m k), a ∈ ft m := fun a ha => by
  rcases List.mem_append.mp ha with h | h
  · obtain ⟨e, he, rfl⟩ := List.mem_map.mp h
    exact ft_wr (dropM_mem he)
  · obtain ⟨e, he, rfl⟩ := List.mem_map.mp h
    exact ft_pa (dropM_mem he)
theorem off_of {H : Hp} {p q l : Addr} {o : HO} (h : H l = some o) (hp : l ≠ p) (hq : l ≠ q) : off H p q l = some o := by
  unfold off
  rw [if_neg (fun z => z.elim hp hq)]
  exact h
theorem row_put_now (A : YA2) (i j : Int) : putK (rowK A i) (Sum.inr (SX.S kNow) : Key) (.int j) = rowK A j := by
  have e1 : ¬ ((Sum.inr (SX.S kFiles) : Key) = Sum.inr (SX.S kNow)) := fun z => absurd ((key_iff _ _).mp z) (by decide)
  have e2 : ¬ ((Sum.inr (SX.S kTexts) : Key) = Sum.inr (SX.S kNow)) := fun z => absurd ((key_iff _ _).mp z) (by decide)
  unfold putK rowK
  simp [e1, e2]
theorem Stm.nep {H : Hp} {p q x : Addr} {n : Int} (S : Stm H p q n) (h : H x = none) : x ≠ p ∧ x ≠ q := ⟨fun z => S.there.1 (by rw [← z]; exact h), fun z => S.there.2 (by rw [← z]; exact h)⟩
section
variable {P : Program} {w : World} {K : PySem.W.Frag} {mg : Str → Option Value} {base : Heap}
def spDeed (T : Txt K mg) : Sp := fun vs H Q _ => Hd (∃ (p q : Addr) (A : YA2) (F : Addr → Prop) (n : Nat) (W : YVal) (m : Int), vs = [.ref p, .ref A.y, .ref A.rd, .ref A.hd] ∧ YOk T F H A n W ∧ Stb W ∧ n + 1 ≤ 30 ∧ Stm H p q m ∧ m + 6 ≤ 100000 ∧ (∀ b, F b ∨ b ∈ A.stat → b ≠ p ∧ b ≠ q) ∧
  ∀ H' W' m', Dch T F H p q A (n + 1) H' W' m' → Stb W' → m' ≤ m + 6 → Q .non H')
theorem kb_advance (T : Txt K mg) : KBn K T.fd_Yard_advance ["self", "milliseconds"] 1 ["milliseconds"] (fun us ws => us ++ ws) (fun vs zs => vs ++ zs) :=
  kbn_of T.F_Yard_advance (fun us ws => us ++ ws) (fun a b => a.append b) (fun kV doc pm an cdv ct us ws l1 l2 => by
    match us, ws, l1, l2 with
    | [a], [b], _, _ => rfl)
theorem kb_put (T : Txt K mg) : KBn K T.fd_Yard_put_file ["self", "name", "text"] 1 ["text", "name"] (fun us ws => us ++ ws.reverse) (fun vs zs => vs ++ zs.reverse) :=
  kbn_of T.F_Yard_put_file (fun us ws => us ++ ws.reverse) (fun a b => a.append b.reverse) (fun kV doc pm an cdv ct us ws l1 l2 => by
    match us, ws, l1, l2 with
    | [a], [b, c], _, _ => rfl)
theorem kb_remove (T : Txt K mg) : KBn K T.fd_Yard_remove_file ["self", "name"] 1 ["name"] (fun us ws => us ++ ws) (fun vs zs => vs ++ zs) :=
  kbn_of T.F_Yard_remove_file (fun us ws => us ++ ws) (fun a b => a.append b) (fun kV doc pm an cdv ct us ws l1 l2 => by
    match us, ws, l1, l2 with
    | [a], [b], _, _ => rfl)
theorem ok_deed (T : Txt K mg) (Z : Dct P w K mg T) : FnOk P w K mg base CX0 9 T.f__law_yard_deed T.fd__law_yard_deed ["_law_stream", "_law_yard", "_law_row", "_law_handlers"] (spDeed T) := by
  have G__law_draw : FnOk P w K mg base CX0 1 _ _ _ spDraw := ok_draw T
  have G__law_pick : FnOk P w K mg base CX0 2 _ _ _ spPick := ok_pick T
  have G_Yard_advance : FnOk P w K mg base CX0 2 _ _ _ (spYAdv T) := ok_yadv T
  have G_Yard_put_file : FnOk P w K mg base CX0 4 _ _ _ (spYPut T) := ok_yput T
  have G_Yard_remove_file : FnOk P w K mg base CX0 2 _ _ _ (spYTake T) := ok_ytake T
  have G_StreamHandler_setTerminator : FnOk P w K mg base CX0 2 _ _ _ (spSTerm T.C_StreamHandler) := ok_sterm T Z
  have G_FileHandler_setTerminator : FnOk P w K mg base CX0 2 _ _ _ (spSTerm T.C_FileHandler) := ok_fterm T Z
  have G_StreamHandler_handle : FnOk P w K mg base CX0 8 _ _ _ (spHandleS T) := ok_shandle T Z
  have G_FileHandler_handle : FnOk P w K mg base CX0 8 _ _ _ (spHandleF T) := ok_fhandle T Z
  have G_Yard_make_record : FnOk P w K mg base (L2.CX P w) 6 _ _ _ (spYMade T) := ok_ymade T
  have kb_Yard_advance := kb_advance T
  have kb_Yard_put_file := kb_put T
  have kb_Yard_remove_file := kb_remove T
  obtain ⟨dsM, hdM, hbM⟩ := T.dd_Yard_make_record
  refine T.D__law_yard_deed.F.ok sc__law_yard_deed (fun vs H Q E h => ?_) (fun cdv Ar outer s H vs Q E hr h => ?_)
  · obtain ⟨p, q, A, F, n, W, m, rfl, _⟩ := h.out
    rfl
  · obtain ⟨p, q, A, F, n, W, m, rfl, Y0, sb, hn, S0, hm, ap, k⟩ := h.out
    have hu := hu_of hr
    have D0 := Dch.start Y0 S0 ap
    refine ⟨_, (pss_cons (ps_par (i := 4) (j := 5) rfl sc__law_yard_deed.nd rfl rfl (by decide) rfl rfl (pa_cons (pe_call G__law_draw (hr.mono (by first | decide | omega)) rfl T.D__law_draw.g T.D__law_draw.F.kp T.D__law_draw.b .nil pass0 (pa_cons (pv 0) (pa_cons pe_int pa_nil))) (pa_cons (pe_call G__law_pick (hr.mono (by first | decide | omega)) rfl T.D__law_pick.g T.D__law_pick.F.kp T.D__law_pick.b .nil pass0 (pa_cons (pv 0) (pa_cons (pe_lstG (pa_cons (SL.pe_strL [102] (by decide +kernel)) (pa_cons (SL.pe_strL [103] (by decide +kernel)) (pa_cons (SL.pe_strL [102, 46, 49] (by decide +kernel)) (pa_cons (SL.pe_strL [97, 32, 98] (by decide +kernel)) (pa_cons (SL.pe_strL [70] (by decide +kernel)) pa_nil)))))) pa_nil))) pa_nil)) rfl)
  (pss_cons (ps_set (i := 6) sc__law_yard_deed.nd rfl (by first | exact Or.inl rfl | exact Or.inr rfl) (pe_call G__law_pick (hr.mono (by first | decide | omega)) rfl T.D__law_pick.g T.D__law_pick.F.kp T.D__law_pick.b .nil pass0 (pa_cons (pv 0) (pa_cons (pe_lstG (pa_cons (SL.pe_strL [] (by decide +kernel)) (pa_cons (SL.pe_strL [120] (by decide +kernel)) (pa_cons (SL.pe_strL [111, 110, 101, 10] (by decide +kernel)) (pa_cons (SL.pe_strL [116, 119, 111, 10, 116, 104, 114, 101, 101] (by decide +kernel)) pa_nil))))) pa_nil))))
  (pss_cons (ps_if (pt_cmpR op_eq (pv 4) pe_int (nomark _))
    (pss_cons (ps_set (i := 7) sc__law_yard_deed.nd rfl (by first | exact Or.inl rfl | exact Or.inr rfl) (pe_call G__law_pick (hr.mono (by first | decide | omega)) rfl T.D__law_pick.g T.D__law_pick.F.kp T.D__law_pick.b .nil pass0 (pa_cons (pv 0) (pa_cons (pe_lstG (pa_cons pe_int (pa_cons pe_int (pa_cons pe_int (pa_cons pe_int (pa_cons (pe_op op_pow pe_int pe_int) pa_nil)))))) pa_nil))))
  (pss_cons (ps_dput hu (pv 2) (SL.pe_strL [110, 111, 119] (by decide +kernel)) (pe_op op_add (pe_dget hu (pv 2) (SL.pe_strL [110, 111, 119] (by decide +kernel)) (fun _ _ => rfl)) (pv 7)) rfl)
  (pss_one (ps_ret (pe_ifExp (pt_cmpR op_eq (pe_call G__law_draw (hr.mono (by first | decide | omega)) rfl T.D__law_draw.g T.D__law_draw.F.kp T.D__law_draw.b .nil pass0 (pa_cons (pv 0) (pa_cons pe_int pa_nil))) pe_int (nomark _)) (pe_meth (pv 1) T.o_Yard.cl T.Me_Yard_advance G_Yard_advance (hr.mono (by first | decide | omega)) T.b_Yard_advance .nil pass0 (pa_cons (pv 7) pa_nil)) (pe_methK0 (pv 1) T.o_Yard.cl T.Me_Yard_advance G_Yard_advance (hr.mono (by first | decide | omega)) kb_Yard_advance pass0 (pk_cons (pv 7) pk_nil)))))))
    pss_nil)
  (pss_cons (ps_if (pt_cmpR op_eq (pv 4) pe_int (nomark _))
    (pss_cons (ps_dput hu (pe_dget hu (pv 2) (SL.pe_strL [102, 105, 108, 101, 115] (by decide +kernel)) (fun _ _ => rfl)) (pv 5) (pv 6) rfl)
  (pss_one (ps_ret (pe_ifExp (pt_cmpR op_eq (pe_call G__law_draw (hr.mono (by first | decide | omega)) rfl T.D__law_draw.g T.D__law_draw.F.kp T.D__law_draw.b .nil pass0 (pa_cons (pv 0) (pa_cons pe_int pa_nil))) pe_int (nomark _)) (pe_meth (pv 1) T.o_Yard.cl T.Me_Yard_put_file G_Yard_put_file (hr.mono (by first | decide | omega)) T.b_Yard_put_file .nil pass0 (pa_cons (pv 5) (pa_cons (pv 6) pa_nil))) (pe_methK0 (pv 1) T.o_Yard.cl T.Me_Yard_put_file G_Yard_put_file (hr.mono (by first | decide | omega)) kb_Yard_put_file pass0 (pk_cons (pv 6) (pk_cons (pv 5) pk_nil)))))))
    pss_nil)
  (pss_cons (ps_if (pt_cmpR op_eq (pv 4) pe_int (nomark _))
    (pss_cons (ps_expr (pe_dpop2 (pe_dget hu (pv 2) (SL.pe_strL [102, 105, 108, 101, 115] (by decide +kernel)) (fun _ _ => rfl)) (pv 5) pe_non ⟨rfl, rfl, rfl, rfl⟩))
  (pss_one (ps_ret (pe_ifExp (pt_cmpR op_eq (pe_call G__law_draw (hr.mono (by first | decide | omega)) rfl T.D__law_draw.g T.D__law_draw.F.kp T.D__law_draw.b .nil pass0 (pa_cons (pv 0) (pa_cons pe_int pa_nil))) pe_int (nomark _)) (pe_meth (pv 1) T.o_Yard.cl T.Me_Yard_remove_file G_Yard_remove_file (hr.mono (by first | decide | omega)) T.b_Yard_remove_file .nil pass0 (pa_cons (pv 5) pa_nil)) (pe_methK0 (pv 1) T.o_Yard.cl T.Me_Yard_remove_file G_Yard_remove_file (hr.mono (by first | decide | omega)) kb_Yard_remove_file pass0 (pk_cons (pv 5) pk_nil))))))
    pss_nil)
  (pss_cons (ps_set (i := 8) sc__law_yard_deed.nd rfl (by first | exact Or.inl rfl | exact Or.inr rfl) (pe_call G__law_pick (hr.mono (by first | decide | omega)) rfl T.D__law_pick.g T.D__law_pick.F.kp T.D__law_pick.b .nil pass0 (pa_cons (pv 0) (pa_cons (pe_callB cr_sortedS (by rfl) T.B.n_sorted (by decide +kernel) (pa_cons (pe_callTy (call_listD rfl) (by rfl) T.B.n_list (by decide +kernel) (pa_cons (pv 3) pa_nil)) pa_nil)) pa_nil))))
  (pss_cons (ps_expr (pe_two (pe_meth (pe_dget hu (pv 3) (pv 8) (fun _ _ => rfl)) T.o_StreamHandler.cl T.Me_StreamHandler_setTerminator G_StreamHandler_setTerminator (hr.mono (by first | decide | omega)) T.b_StreamHandler_setTerminator .nil pass0 (pa_cons (pe_call G__law_pick (hr.mono (by first | decide | omega)) rfl T.D__law_pick.g T.D__law_pick.F.kp T.D__law_pick.b .nil pass0 (pa_cons (pv 0) (pa_cons (pe_lstG (pa_cons (SL.pe_strL [] (by decide +kernel)) (pa_cons (SL.pe_strL [] (by decide +kernel)) (pa_cons (SL.pe_strL [10] (by decide +kernel)) (pa_cons (SL.pe_strL [59] (by decide +kernel)) pa_nil))))) pa_nil))) pa_nil)) (pe_meth (pe_dget hu (pv 3) (pv 8) (fun _ _ => rfl)) T.o_FileHandler.cl T.Me_FileHandler_setTerminator G_FileHandler_setTerminator (hr.mono (by first | decide | omega)) T.b_FileHandler_setTerminator .nil pass0 (pa_cons (pe_call G__law_pick (hr.mono (by first | decide | omega)) rfl T.D__law_pick.g T.D__law_pick.F.kp T.D__law_pick.b .nil pass0 (pa_cons (pv 0) (pa_cons (pe_lstG (pa_cons (SL.pe_strL [] (by decide +kernel)) (pa_cons (SL.pe_strL [] (by decide +kernel)) (pa_cons (SL.pe_strL [10] (by decide +kernel)) (pa_cons (SL.pe_strL [59] (by decide +kernel)) pa_nil))))) pa_nil))) pa_nil))))
  (pss_cons (ps_expr (pe_two (pe_meth (pe_dget hu (pv 3) (pv 8) (fun _ _ => rfl)) T.o_StreamHandler.cl T.Me_StreamHandler_handle G_StreamHandler_handle (hr.mono (by first | decide | omega)) T.b_StreamHandler_handle .nil pass0 (pa_cons (pe_meth (pv 1) T.o_Yard.cl T.Me_Yard_make_record G_Yard_make_record (hr.mono (by first | decide | omega)) hbM hdM passes_no (pa_cons (SL.pe_strL [97] (by decide +kernel)) (pa_cons pe_int (pa_cons (pv 6) pa_nil)))) pa_nil)) (pe_meth (pe_dget hu (pv 3) (pv 8) (fun _ _ => rfl)) T.o_FileHandler.cl T.Me_FileHandler_handle G_FileHandler_handle (hr.mono (by first | decide | omega)) T.b_FileHandler_handle .nil pass0 (pa_cons (pe_meth (pv 1) T.o_Yard.cl T.Me_Yard_make_record G_Yard_make_record (hr.mono (by first | decide | omega)) hbM hdM passes_no (pa_cons (SL.pe_strL [97] (by decide +kernel)) (pa_cons pe_int (pa_cons (pv 6) pa_nil)))) pa_nil))))
  (pss_cons (ps_set (i := 9) sc__law_yard_deed.nd rfl (by first | exact Or.inl rfl | exact Or.inr rfl) (pe_ifExp (pt_cmpR SL.op_eqL (pv 8) (SL.pe_strL [102] (by decide +kernel)) (nomark _)) (SL.pe_strL [102, 105, 108, 101, 115] (by decide +kernel)) (SL.pe_strL [116, 101, 120, 116, 115] (by decide +kernel))))
  (pss_cons (ps_dput hu (pe_dget hu (pv 2) (pv 9) (fun _ _ => rfl)) (pv 8) (pe_op SL.op_addL (pe_op SL.op_addL (pe_dget2 hu (pe_dget hu (pv 2) (pv 9) (fun _ _ => rfl)) (pv 8) (SL.pe_strL [] (by decide +kernel)) ⟨rfl, rfl, rfl, rfl⟩) (pv 6)) (pe_fld (pe_dget hu (pv 3) (pv 8) (fun _ _ => rfl)) rfl)) rfl)
  (pss_one (ps_ret pe_non)))))))))))), ?_⟩
    walk_at "sx"
    refine .a ⟨p, q, m, 6, rfl, S0, by omega, by decide, by decide, fun d m1 H1 d0 d1 hm1 S1 fr1 => ?_⟩
    have D1 := D0.draw S1 fr1
    walk_at "sx"
    intro a1 H2 a10 ha1 s2
    have D2 := D1.same s2
    have ap1 := S1.nep a10
    refine .a ⟨p, q, a1, m1, _, rfl, D2.s, by omega, off_of ha1 ap1.1 ap1.2, Nat.le_of_ble_eq_true rfl, Nat.le_of_ble_eq_true rfl, fun v m2 H3 hv hm2 S3 fr3 => ?_⟩
    have D3 := D2.draw S3 fr3
    obtain ⟨kk, hk5, rfl⟩ : ∃ kk, kk ∈ K5 ∧ v = V.str (SX.S kk) := by
      simp only [List.mem_cons, List.not_mem_nil, or_false] at hv
      rcases hv with rfl | rfl | rfl | rfl | rfl <;> exact ⟨_, by simp [K5], rfl⟩
    refine ⟨_, _, rfl, ?_⟩
    walk_at "sx"
    intro a2 H4 a20 ha2 s4
    have D4 := D3.same s4
    have ap2 := S3.nep a20
    refine .a ⟨p, q, a2, m2, _, rfl, D4.s, by omega, off_of ha2 ap2.1 ap2.2, Nat.le_of_ble_eq_true rfl, Nat.le_of_ble_eq_true rfl, fun v m3 H5 hv hm3 S5 fr5 => ?_⟩
    have D5 := D4.draw S5 fr5
    obtain ⟨wd, hwd, rfl⟩ : ∃ wd : List Nat, wd.length ≤ 9 ∧ v = V.str (SX.S wd) := by
      simp only [List.mem_cons, List.not_mem_nil, or_false] at hv
      rcases hv with rfl | rfl | rfl | rfl <;> exact ⟨_, by simp, rfl⟩
    obtain ⟨F5, Y5, hF5⟩ := D5.ex
    walk_at "sx"
    by_cases w0 : d = 0
    · refine if_true_of (decide_eq_true (congrArg V.int w0)) ?_
      walk_at "sx"
      intro a3 H6 a30 ha3 s6
      have D6 := D5.same s6
      have ap3 := S5.nep a30
      refine .a ⟨p, q, a3, m3, _, rfl, D6.s, by omega, off_of ha3 ap3.1 ap3.2, Nat.le_of_ble_eq_true rfl, Nat.le_of_ble_eq_true rfl, fun v m4 H7 hv hm4 S7 fr7 => ?_⟩
      have D7 := D6.draw S7 fr7
      obtain ⟨mv, rfl⟩ : ∃ mv : Int, v = V.int mv := by
        simp only [List.mem_cons, List.not_mem_nil, or_false] at hv
        rcases hv with rfl | rfl | rfl | rfl | rfl <;> exact ⟨_, rfl⟩
      obtain ⟨F7, Y7, hF7⟩ := D7.ex
      walk_at "sx"
      refine ⟨A.rd, .int W.nr, rfl, by have g := DGet.k (k := Sum.inr (SX.S kNow)) Y7.rd; rw [row_now] at g; exact g, ?_⟩
      walk_at "sx"
      refine ⟨A.rd, _, rfl, DPut.k (k := Sum.inr (SX.S kNow)) Y7.rd (Nat.le_of_ble_eq_true rfl), ?_⟩
      rw [row_put_now]
      have D8 := D7.upd (W' := { W with nr := W.nr + mv }) (o := .dK (rowK A (W.nr + mv))) (fun F s => s.rdU (W.nr + mv)) (by simp [YA2.mut])
      generalize L2.upd H7 A.rd (.dK (rowK A (W.nr + mv))) = H8 at D8 ⊢
      walk_at "sx"
      refine .a ⟨p, q, m4, 2, rfl, D8.s, by omega, by decide, by decide, fun d2 m5 H9 e0 e1 hm5 S9 fr9 => ?_⟩
      have D9 := D8.draw S9 fr9
      obtain ⟨F9, Y9, hF9⟩ := D9.ex
      have y9 := Y9.st.y
      have fin : Q .non (L2.upd H9 A.Y.ck (.ins T.C_Clock A.Y.dck [("shown", .int (W.nc + mv))])) :=
        k _ _ _ (D9.upd (W' := { { W with nr := W.nr + mv } with nc := W.nc + mv }) (fun F s => s.ckU (W.nc + mv)) (by simp [YA2.mut])).up ⟨by show W.nc + mv = W.nr + mv; rw [sb.n], sb.f, sb.t⟩ (by omega)
      walk_at "sx"
      by_cases z2 : d2 = 0
      · refine if_true_of (decide_eq_true (congrArg V.int z2)) ?_
        walk_at "sx"
        exact .a ⟨A.y, A.dy, A.Y, W.nc, mv, rfl, y9, Y9.ck, fin⟩
      · refine if_false_of (decide_eq_false fun z => z2 (V.int.inj z)) ?_
        walk_at "sx"
        exact .a ⟨A.y, A.dy, A.Y, W.nc, mv, rfl, y9, Y9.ck, fin⟩
    · refine if_false_of (decide_eq_false fun z => w0 (V.int.inj z)) ?_
      walk_at "sx"
      have fcl : ∀ k l, W.fc k = some l → l.length ≤ 20 * (n + 1) := fun k l e => Nat.le_trans (Y0.cF k l e) (by omega)
      by_cases w1 : d = 1
      · refine if_true_of (decide_eq_true (congrArg V.int w1)) ?_
        walk_at "sx"
        refine ⟨A.rd, .ref A.rf, rfl, by have g := DGet.k (k := Sum.inr (SX.S kFiles)) Y5.rd; rw [row_files] at g; exact g, ?_⟩
        walk_at "sx"
        have l5 : W.fm.length ≤ 5 := by
          have := nodup_len Y0.nF (fun k hk => by obtain ⟨e, he, rfl⟩ := List.mem_map.mp hk; exact Y0.kF e he : ∀ k ∈ W.fm.map (·.1), k ∈ K5)
          rw [List.length_map] at this
          exact this
        refine ⟨A.rf, _, rfl, DPut.k (k := Sum.inr (SX.S kk)) Y5.rf (by unfold kvM; rw [List.length_map]; exact Nat.lt_of_le_of_lt l5 (by decide)), ?_⟩
        rw [putK_kvM kk wd Y0.nF]
        have pk := putA_keys (k := kk) (x := wd) W.fm Y0.nF
        have D8 := D5.up.upd (W' := { W with fm := putA W.fm kk wd }) (o := .dK (kvM (putA W.fm kk wd))) (fun F s => s.rfU _ pk.1 (fun e he => (pk.2 e he).elim (fun z => by rw [z]; exact hk5) fun z => Y0.kF e z.1) (fun e he => (pk.2 e he).elim (fun z => by rw [z]; show wd.length ≤ _; omega) fun z => Nat.le_trans (Y0.eF e z.1) (by omega))) (by simp [YA2.mut])
        generalize L2.upd H5 A.rf (.dK (kvM (putA W.fm kk wd))) = H8 at D8 ⊢
        walk_at "sx"
        refine .a ⟨p, q, m3, 2, rfl, D8.s, by omega, by decide, by decide, fun d2 m5 H9 e0 e1 hm5 S9 fr9 => ?_⟩
        have D9 := D8.draw S9 fr9
        obtain ⟨F9, Y9, hF9⟩ := D9.ex
        have y9 := Y9.st.y
        have fl : W.fs.length ≤ 2 * n := Y0.lF
        have fin : ∀ H' wr pa, StAt T.C_Written H' A.Y.fk (putM W.fs kk ⟨wr, pa, wd⟩) (n + 2) → H9 wr = none → H9 pa = none → FrS [A.Y.fk] H9 H' → Q .non H' := fun H' wr pa S' w0 p0 fr => by
          refine k _ _ _ (D9.store (n' := n + 1) (W' := { { W with fm := putA W.fm kk wd } with fs := putM W.fs kk ⟨wr, pa, wd⟩, fc := fun k' => if k' = kk then some wd else W.fc k', o := W.o }) (fun F s => s.stF (.inl rfl) S' (fun a ha => ?_) (fr _ _ ?_ s.h3) (fr.mono fun b hb => .inl (by rw [List.mem_singleton.mp hb]; simp)) (fun k' => ?_) (fun k' l e => ?_) (Nat.le_trans putM_len (by omega)))) ⟨sb.n, fun k' => ?_, sb.t⟩ (by omega)
          · rcases ft_put s.sF.kd a ha with z | z | z
            · exact .inl (by rw [z]; exact w0)
            · exact .inl (by rw [z]; exact p0)
            · exact .inr z
          · simp only [List.mem_singleton]
            exact (show A.h3 ≠ A.Y.fk from s.ne (i := 6) (j := 2) (by decide) (Nat.le_of_ble_eq_true rfl) (Nat.le_of_ble_eq_true rfl))
          · rw [cont_put, ← s.relF]
          · by_cases z : k' = kk
            · rw [if_pos z] at e; cases e; omega
            · rw [if_neg z] at e; exact fcl _ _ e
          · show (if k' = kk then some wd else W.fc k') = lkA (putA W.fm kk wd) k'
            rw [lkA_put, sb.f]
        have sF9 : StAt T.C_Written H9 A.Y.fk W.fs (n + 2) := Y9.sF
        walk_at "sx"
        by_cases z2 : d2 = 0
        · refine if_true_of (decide_eq_true (congrArg V.int z2)) ?_
          walk_at "sx"
          exact .a ⟨A.y, A.dy, A.Y, .int W.nc, kk, wd, W.fs, n + 2, rfl, y9, Y9.st.fs, Y9.ck, sF9, by omega, by omega, by omega, fin⟩
        · refine if_false_of (decide_eq_false fun z => z2 (V.int.inj z)) ?_
          walk_at "sx"
          exact .a ⟨A.y, A.dy, A.Y, .int W.nc, kk, wd, W.fs, n + 2, rfl, y9, Y9.st.fs, Y9.ck, sF9, by omega, by omega, by omega, fin⟩
      · refine if_false_of (decide_eq_false fun z => w1 (V.int.inj z)) ?_
        walk_at "sx"
        by_cases w2 : d = 2
        · refine if_true_of (decide_eq_true (congrArg V.int w2)) ?_
          walk_at "sx"
          refine ⟨A.rd, .ref A.rf, rfl, by have g := DGet.k (k := Sum.inr (SX.S kFiles)) Y5.rd; rw [row_files] at g; exact g, ?_⟩
          walk_at "sx"
          refine ⟨.inl ⟨_, .inl Y5.rf⟩, ?_⟩
          walk_at "sx"
          refine ⟨kvM W.fm, Sum.inr (SX.S kk), Y5.rf, rfl, fun v hv => ?_, fun hn0 => ?_⟩
          · rw [dropK_kvM]
            have D8 := D5.up.upd (W' := { W with fm := dropA W.fm kk }) (o := .dK (kvM (dropA W.fm kk))) (fun F s => s.rfU _ (dropA_nd Y0.nF) (fun e he => Y0.kF e (dropA_mem he)) (fun e he => Nat.le_trans (Y0.eF e (dropA_mem he)) (by omega))) (by simp [YA2.mut])
            generalize L2.upd H5 A.rf (.dK (kvM (dropA W.fm kk))) = H8 at D8 ⊢
            walk_at "sx"
            refine .a ⟨p, q, m3, 2, rfl, D8.s, by omega, by decide, by decide, fun d2 m5 H9 e0 e1 hm5 S9 fr9 => ?_⟩
            have D9 := D8.draw S9 fr9
            obtain ⟨F9, Y9, hF9⟩ := D9.ex
            have y9 := Y9.st.y
            have fl : W.fs.length ≤ 2 * n := Y0.lF
            have fin : ∀ H', StAt T.C_Written H' A.Y.fk (dropM W.fs kk) (n + 2) → FrS [A.Y.fk] H9 H' → Q .non H' := fun H' S' fr => by
              refine k _ _ _ (D9.store (n' := n + 1) (W' := { { W with fm := dropA W.fm kk } with fs := dropM W.fs kk, fc := fun k' => if k' = kk then none else W.fc k', o := W.o }) (fun F s => s.stF (.inl rfl) S' (fun a ha => .inr (ft_drop a ha)) (fr _ _ ?_ s.h3) (fr.mono fun b hb => .inl (by rw [List.mem_singleton.mp hb]; simp)) (fun k' => ?_) (fun k' l e => ?_) (Nat.le_trans dropM_len (by omega)))) ⟨sb.n, fun k' => ?_, sb.t⟩ (by omega)
              · simp only [List.mem_singleton]
                exact (show A.h3 ≠ A.Y.fk from s.ne (i := 6) (j := 2) (by decide) (Nat.le_of_ble_eq_true rfl) (Nat.le_of_ble_eq_true rfl))
              · rw [cont_drop, ← s.relF]
              · by_cases z : k' = kk
                · rw [if_pos z] at e; cases e
                · rw [if_neg z] at e; exact fcl _ _ e
              · show (if k' = kk then none else W.fc k') = lkA (dropA W.fm kk) k'
                rw [lkA_drop, sb.f]
            have sF9 : StAt T.C_Written H9 A.Y.fk W.fs (n + 2) := Y9.sF
            walk_at "sx"
            by_cases z2 : d2 = 0
            · refine if_true_of (decide_eq_true (congrArg V.int z2)) ?_
              walk_at "sx"
              exact .a ⟨A.y, A.dy, A.Y, kk, W.fs, n + 2, rfl, y9, Y9.st.fs, sF9, fin⟩
            · refine if_false_of (decide_eq_false fun z => z2 (V.int.inj z)) ?_
              walk_at "sx"
              exact .a ⟨A.y, A.dy, A.Y, kk, W.fs, n + 2, rfl, y9, Y9.st.fs, sF9, fin⟩
          · have D8 : Dch T F H p q A (n + 1) H5 { W with fm := dropA W.fm kk } m3 := by
              have e : dropA W.fm kk = W.fm := dropA_none (by
                rw [valV_kvM] at hn0
                cases z : lkA W.fm kk with
                | none => rfl
                | some l => rw [z] at hn0; cases hn0)
              rw [e]
              exact D5.up
            walk_at "sx"
            refine .a ⟨p, q, m3, 2, rfl, D8.s, by omega, by decide, by decide, fun d2 m5 H9 e0 e1 hm5 S9 fr9 => ?_⟩
            have D9 := D8.draw S9 fr9
            obtain ⟨F9, Y9, hF9⟩ := D9.ex
            have y9 := Y9.st.y
            have fl : W.fs.length ≤ 2 * n := Y0.lF
            have fin : ∀ H', StAt T.C_Written H' A.Y.fk (dropM W.fs kk) (n + 2) → FrS [A.Y.fk] H9 H' → Q .non H' := fun H' S' fr => by
              refine k _ _ _ (D9.store (n' := n + 1) (W' := { { W with fm := dropA W.fm kk } with fs := dropM W.fs kk, fc := fun k' => if k' = kk then none else W.fc k', o := W.o }) (fun F s => s.stF (.inl rfl) S' (fun a ha => .inr (ft_drop a ha)) (fr _ _ ?_ s.h3) (fr.mono fun b hb => .inl (by rw [List.mem_singleton.mp hb]; simp)) (fun k' => ?_) (fun k' l e => ?_) (Nat.le_trans dropM_len (by omega)))) ⟨sb.n, fun k' => ?_, sb.t⟩ (by omega)
              · simp only [List.mem_singleton]
                exact (show A.h3 ≠ A.Y.fk from s.ne (i := 6) (j := 2) (by decide) (Nat.le_of_ble_eq_true rfl) (Nat.le_of_ble_eq_true rfl))
              · rw [cont_drop, ← s.relF]
              · by_cases z : k' = kk
                · rw [if_pos z] at e; cases e
                · rw [if_neg z] at e; exact fcl _ _ e
              · show (if k' = kk then none else W.fc k') = lkA (dropA W.fm kk) k'
                rw [lkA_drop, sb.f]
            have sF9 : StAt T.C_Written H9 A.Y.fk W.fs (n + 2) := Y9.sF
            walk_at "sx"
            by_cases z2 : d2 = 0
            · refine if_true_of (decide_eq_true (congrArg V.int z2)) ?_
              walk_at "sx"
              exact .a ⟨A.y, A.dy, A.Y, kk, W.fs, n + 2, rfl, y9, Y9.st.fs, sF9, fin⟩
            · refine if_false_of (decide_eq_false fun z => z2 (V.int.inj z)) ?_
              walk_at "sx"
              exact .a ⟨A.y, A.dy, A.Y, kk, W.fs, n + 2, rfl, y9, Y9.st.fs, sF9, fin⟩
        · refine if_false_of (decide_eq_false fun z => w2 (V.int.inj z)) ?_
          walk_at "sx"
          refine ⟨A.hd, hdK A, rfl, .inl Y5.st.hd, fun l hl => ?_⟩
          walk_at "sx"
          refine ⟨l, [SX.S kOut, SX.S [], SX.S kErr, SX.S kFile], rfl, SqL.of upd_same, by decide, fun ys p1 py sy hp1 => ?_⟩
          have s6 : Same H5 (L2.upd (L2.upd H5 l (.lst ((hdK A).map fun kv => kV kv.1))) p1 (.lst (ys.map V.str))) := (same_new hl).trans (same_new hp1)
          have hp6 : (L2.upd (L2.upd H5 l (.lst ((hdK A).map fun kv => kV kv.1))) p1 (.lst (ys.map V.str))) p1 = some (.lst (ys.map V.str)) := upd_same
          have p10 : H5 p1 = none := (same_new hl).free hp1
          generalize L2.upd (L2.upd H5 l (.lst ((hdK A).map fun kv => kV kv.1))) p1 (.lst (ys.map V.str)) = H6 at s6 hp6 ⊢
          have D6 := D5.same s6
          have ap3 := S5.nep p10
          have yl : ys.length = 4 := py.length_eq
          walk_at "sx"
          refine .a ⟨p, q, p1, m3, _, rfl, D6.s, by omega, off_of hp6 ap3.1 ap3.2, by rw [List.length_map]; omega, by rw [List.length_map]; omega, fun v m4 H7 hv hm4 S7 fr7 => ?_⟩
          have D7 := D6.draw S7 fr7
          obtain ⟨F7, Y7, hF7⟩ := D7.ex
          have hd7 := Y7.st.hd
          obtain ⟨zz, hzz, rfl⟩ := List.mem_map.mp hv
          have hat := py.mem_iff.mp hzz
          simp only [List.mem_cons, List.not_mem_nil, or_false] at hat
          have tl : ∀ k, ((lkA W.tm k).getD []).length ≤ 20 * n := fun k => by
            cases e : lkA W.tm k with
            | none => exact Nat.zero_le _
            | some l => exact Y0.eT _ (lkA_mem e)
          have fl : ∀ k, ((lkA W.fm k).getD []).length ≤ 20 * n := fun k => by
            cases e : lkA W.fm k with
            | none => exact Nat.zero_le _
            | some l => exact Y0.eF _ (lkA_mem e)
          have t3 : W.tm.length ≤ 3 := by
            have := nodup_len Y0.nT (fun k hk => by obtain ⟨e, he, rfl⟩ := List.mem_map.mp hk; exact Y0.kT e he : ∀ k ∈ W.tm.map (·.1), k ∈ K3)
            rw [List.length_map] at this
            exact this
          have l5 : W.fm.length ≤ 5 := by
            have := nodup_len Y0.nF (fun k hk => by obtain ⟨e, he, rfl⟩ := List.mem_map.mp hk; exact Y0.kF e he : ∀ k ∈ W.fm.map (·.1), k ∈ K5)
            rw [List.length_map] at this
            exact this
          rcases hat with rfl | rfl | rfl | rfl
          · have hh7 := Y7.h0
            walk_at "sx"
            refine ⟨A.hd, .ref A.h0, rfl, by have g := DGet.k (k := Sum.inr (SX.S kOut)) hd7; rw [hd_0] at g; exact g, ?_⟩
            walk_at "sx"
            intro a3 H8 a30 ha3 s8
            have D8 := D7.same s8
            have ap4 := S7.nep a30
            refine .a ⟨p, q, a3, m4, _, rfl, D8.s, by omega, off_of ha3 ap4.1 ap4.2, Nat.le_of_ble_eq_true rfl, Nat.le_of_ble_eq_true rfl, fun v m5 H9 hv hm5 S9 fr9 => ?_⟩
            have D9 := D8.draw S9 fr9
            obtain ⟨tz, hz, rfl⟩ : ∃ tz : List Nat, tz.length ≤ 1 ∧ v = V.str (SX.S tz) := by
              simp only [List.mem_cons, List.not_mem_nil, or_false] at hv
              rcases hv with rfl | rfl | rfl | rfl <;> exact ⟨_, by simp, rfl⟩
            obtain ⟨F9, Y9, hF9⟩ := D9.ex
            refine .a ⟨A.h0, A.d0, .str (SX.S tz), fSz A.y A.f0 W.z0 kOut, rfl, Y9.h0, Nat.le_of_ble_eq_true rfl, ?_⟩
            have D10 := D9.upd (W' := { W with z0 := tz }) (o := .ins T.C_StreamHandler A.d0 (fSz A.y A.f0 tz kOut)) (fun F s => s.h0U tz hz) (by simp [YA2.mut])
            rw [fSz_put]
            generalize L2.upd H9 A.h0 (.ins T.C_StreamHandler A.d0 (fSz A.y A.f0 tz kOut)) = H10 at D10 ⊢
            obtain ⟨F10, Y10, hF10⟩ := D10.ex
            have y10 := Y10.st.y
            have hh10 := Y10.h0
            have hd10 := Y10.st.hd
            walk_at "sx"
            refine ⟨A.hd, .ref A.h0, rfl, by have g := DGet.k (k := Sum.inr (SX.S kOut)) hd10; rw [hd_0] at g; exact g, ?_⟩
            walk_at "sx"
            refine .a ⟨A.y, A.dy, T.aGT_Yard_make_record, A.Y, .int W.nc, .str (SX.S [97]), 20, [73, 78, 70, 79], wd, firstNames, rfl, y10, Y10.ck, Y10.st.lv, Y10.st.n1, by decide +kernel, by decide +kernel, rfl, fun H' _ => T.gt_Yard_make_record H', fun H11 r dr g e hr hg r0 fr11 => ?_⟩
            have s11 : Same H10 H11 := fun b u e => fr11 b u (by simp) e
            have D11 := D10.same s11
            obtain ⟨F11, Y11, hF11⟩ := D11.ex
            have ol : ∀ F, YOk T F H11 A n { W with z0 := tz } → oldT W.ss kOut = (lkA W.tm kOut).getD [] := fun F s => by rw [oldT_cont, ← sb.t]; exact congrArg (·.getD []) (s.relT kOut)
            have lz : (wd ++ tz).length ≤ 10 := by rw [List.length_append]; omega
            have sl : W.ss.length ≤ 2 * n := Y0.lS
            refine .a ⟨A.h0, A.d0, A.y, A.dy, A.f0, r, dr, g, e, A.Y, .str (SX.S [97]), .int 20, .str (SX.S [73, 78, 70, 79]), .int W.nc, .int W.nc, wd, tz, kOut, W.ss, n + 1, rfl, Y11.h0, Y11.st.f0, Y11.st.y, hr, SqT.of hg, by omega, Y11.st.ss, Y11.ck, Y11.sS, by omega, by omega, by omega, fun H12 wr pa S' w0 p0 fr => ?_⟩
            have D12 := D11.store (n' := n + 1) (W' := { { W with z0 := tz } with ss := putM W.ss kOut ⟨wr, pa, oldT W.ss kOut ++ (wd ++ tz)⟩, tc := fun k' => if k' = kOut then some (oldT W.ss kOut ++ (wd ++ tz)) else W.tc k' }) (fun F s => s.stS (.inr rfl) S' (fun a ha => (ft_put s.sS.kd a ha).elim (fun z => by rw [z]; exact w0) fun z => z.elim (fun z => by rw [z]; exact p0) .inr) fr (fun k' => by rw [cont_put, ← s.relT]) (fun k' l e => by
              by_cases z : k' = kOut
              · rw [if_pos z] at e; cases e
                rw [List.length_append, ol F s]
                have := tl kOut
                omega
              · rw [if_neg z] at e; exact Nat.le_trans (s.cT k' l e) (by omega)) (Nat.le_trans putM_len (by omega)))
            obtain ⟨F12, Y12, hF12⟩ := D12.ex
            have hh12 := Y12.h0
            have rt12 : H12 A.rt = some (.dK (kvM W.tm)) := Y12.rt
            have rd12 : H12 A.rd = some (.dK (rowK A W.nr)) := Y12.rd
            have hd12 := Y12.st.hd
            have gd : ((lkA W.tm kOut).map fun x => V.str (SX.S x)).getD (V.str (SX.S [])) = V.str (SX.S ((lkA W.tm kOut).getD [])) := by cases lkA W.tm kOut <;> rfl
            walk_at "sx"
            refine ⟨A.rd, .ref A.rt, rfl, by have g := DGet.k (k := Sum.inr (SX.S kTexts)) rd12; rw [row_texts] at g; exact g, ?_⟩
            walk_at "sx"
            refine ⟨.inl ⟨_, .inl rt12⟩, ?_⟩
            walk_at "sx"
            refine ⟨_, DGet.k (k := Sum.inr (SX.S kOut)) rt12, ?_⟩
            rw [valV_kvM, gd]
            have tlk := tl kOut
            walk_at "sx"
            refine ⟨A.hd, .ref A.h0, rfl, by have g := DGet.k (k := Sum.inr (SX.S kOut)) hd12; rw [hd_0] at g; exact g, ?_⟩
            walk_at "sx"
            refine ⟨A.rd, .ref A.rt, rfl, by have g := DGet.k (k := Sum.inr (SX.S kTexts)) rd12; rw [row_texts] at g; exact g, ?_⟩
            walk_at "sx"
            refine ⟨A.rt, _, rfl, DPut.k (k := Sum.inr (SX.S kOut)) rt12 (by unfold kvM; rw [List.length_map]; exact Nat.lt_of_le_of_lt t3 (by decide)), ?_⟩
            rw [putK_kvM _ _ Y0.nT]
            have pk := putA_keys (k := kOut) (x := (lkA W.tm kOut).getD [] ++ wd ++ tz) W.tm Y0.nT
            have D13 := D12.upd (W' := { { { W with z0 := tz } with ss := putM W.ss kOut ⟨wr, pa, oldT W.ss kOut ++ (wd ++ tz)⟩, tc := fun k' => if k' = kOut then some (oldT W.ss kOut ++ (wd ++ tz)) else W.tc k' } with tm := putA W.tm kOut ((lkA W.tm kOut).getD [] ++ wd ++ tz) }) (o := .dK (kvM (putA W.tm kOut ((lkA W.tm kOut).getD [] ++ wd ++ tz)))) (fun F s => s.rtU _ pk.1 (fun e he => (pk.2 e he).elim (fun z => by rw [z]; simp [K3]) fun z => Y0.kT e z.1) (fun e he => (pk.2 e he).elim (fun z => by
                rw [z]
                show ((lkA W.tm kOut).getD [] ++ wd ++ tz).length ≤ _
                rw [List.length_append, List.length_append]
                omega) fun z => Nat.le_trans (Y0.eT e z.1) (by omega))) (by simp [YA2.mut])
            walk_at "sx"
            refine k _ _ _ D13 ⟨sb.n, sb.f, fun k' => ?_⟩ (by omega)
            show (if k' = kOut then some (oldT W.ss kOut ++ (wd ++ tz)) else W.tc k') = lkA (putA W.tm kOut ((lkA W.tm kOut).getD [] ++ wd ++ tz)) k'
            rw [lkA_put, ol F11 Y11, sb.t, List.append_assoc]
          · have hh7 := Y7.h1
            walk_at "sx"
            refine ⟨A.hd, .ref A.h1, rfl, by have g := DGet.k (k := Sum.inr (SX.S ([] : List Nat))) hd7; rw [hd_1] at g; exact g, ?_⟩
            walk_at "sx"
            intro a3 H8 a30 ha3 s8
            have D8 := D7.same s8
            have ap4 := S7.nep a30
            refine .a ⟨p, q, a3, m4, _, rfl, D8.s, by omega, off_of ha3 ap4.1 ap4.2, Nat.le_of_ble_eq_true rfl, Nat.le_of_ble_eq_true rfl, fun v m5 H9 hv hm5 S9 fr9 => ?_⟩
            have D9 := D8.draw S9 fr9
            obtain ⟨tz, hz, rfl⟩ : ∃ tz : List Nat, tz.length ≤ 1 ∧ v = V.str (SX.S tz) := by
              simp only [List.mem_cons, List.not_mem_nil, or_false] at hv
              rcases hv with rfl | rfl | rfl | rfl <;> exact ⟨_, by simp, rfl⟩
            obtain ⟨F9, Y9, hF9⟩ := D9.ex
            refine .a ⟨A.h1, A.d1, .str (SX.S tz), fSz A.y A.f1 W.z1 [], rfl, Y9.h1, Nat.le_of_ble_eq_true rfl, ?_⟩
            have D10 := D9.upd (W' := { W with z1 := tz }) (o := .ins T.C_StreamHandler A.d1 (fSz A.y A.f1 tz [])) (fun F s => s.h1U tz hz) (by simp [YA2.mut])
            rw [fSz_put]
            generalize L2.upd H9 A.h1 (.ins T.C_StreamHandler A.d1 (fSz A.y A.f1 tz [])) = H10 at D10 ⊢
            obtain ⟨F10, Y10, hF10⟩ := D10.ex
            have y10 := Y10.st.y
            have hh10 := Y10.h1
            have hd10 := Y10.st.hd
            walk_at "sx"
            refine ⟨A.hd, .ref A.h1, rfl, by have g := DGet.k (k := Sum.inr (SX.S ([] : List Nat))) hd10; rw [hd_1] at g; exact g, ?_⟩
            walk_at "sx"
            refine .a ⟨A.y, A.dy, T.aGT_Yard_make_record, A.Y, .int W.nc, .str (SX.S [97]), 20, [73, 78, 70, 79], wd, firstNames, rfl, y10, Y10.ck, Y10.st.lv, Y10.st.n1, by decide +kernel, by decide +kernel, rfl, fun H' _ => T.gt_Yard_make_record H', fun H11 r dr g e hr hg r0 fr11 => ?_⟩
            have s11 : Same H10 H11 := fun b u e => fr11 b u (by simp) e
            have D11 := D10.same s11
            obtain ⟨F11, Y11, hF11⟩ := D11.ex
            have ol : ∀ F, YOk T F H11 A n { W with z1 := tz } → oldT W.ss [] = (lkA W.tm []).getD [] := fun F s => by rw [oldT_cont, ← sb.t]; exact congrArg (·.getD []) (s.relT [])
            have lz : (wd ++ tz).length ≤ 10 := by rw [List.length_append]; omega
            have sl : W.ss.length ≤ 2 * n := Y0.lS
            refine .a ⟨A.h1, A.d1, A.y, A.dy, A.f1, r, dr, g, e, A.Y, .str (SX.S [97]), .int 20, .str (SX.S [73, 78, 70, 79]), .int W.nc, .int W.nc, wd, tz, [], W.ss, n + 1, rfl, Y11.h1, Y11.st.f1, Y11.st.y, hr, SqT.of hg, by omega, Y11.st.ss, Y11.ck, Y11.sS, by omega, by omega, by omega, fun H12 wr pa S' w0 p0 fr => ?_⟩
            have D12 := D11.store (n' := n + 1) (W' := { { W with z1 := tz } with ss := putM W.ss [] ⟨wr, pa, oldT W.ss [] ++ (wd ++ tz)⟩, tc := fun k' => if k' = ([] : List Nat) then some (oldT W.ss [] ++ (wd ++ tz)) else W.tc k' }) (fun F s => s.stS (.inr rfl) S' (fun a ha => (ft_put s.sS.kd a ha).elim (fun z => by rw [z]; exact w0) fun z => z.elim (fun z => by rw [z]; exact p0) .inr) fr (fun k' => by rw [cont_put, ← s.relT]) (fun k' l e => by
              by_cases z : k' = ([] : List Nat)
              · rw [if_pos z] at e; cases e
                rw [List.length_append, ol F s]
                have := tl []
                omega
              · rw [if_neg z] at e; exact Nat.le_trans (s.cT k' l e) (by omega)) (Nat.le_trans putM_len (by omega)))
            obtain ⟨F12, Y12, hF12⟩ := D12.ex
            have hh12 := Y12.h1
            have rt12 : H12 A.rt = some (.dK (kvM W.tm)) := Y12.rt
            have rd12 : H12 A.rd = some (.dK (rowK A W.nr)) := Y12.rd
            have hd12 := Y12.st.hd
            have gd : ((lkA W.tm []).map fun x => V.str (SX.S x)).getD (V.str (SX.S ([] : List Nat))) = V.str (SX.S ((lkA W.tm []).getD [])) := by cases lkA W.tm [] <;> rfl
            walk_at "sx"
            refine ⟨A.rd, .ref A.rt, rfl, by have g := DGet.k (k := Sum.inr (SX.S kTexts)) rd12; rw [row_texts] at g; exact g, ?_⟩
            walk_at "sx"
            refine ⟨.inl ⟨_, .inl rt12⟩, ?_⟩
            walk_at "sx"
            refine ⟨_, DGet.k (k := Sum.inr (SX.S ([] : List Nat))) rt12, ?_⟩
            rw [valV_kvM, gd]
            have tlk := tl []
            walk_at "sx"
            refine ⟨A.hd, .ref A.h1, rfl, by have g := DGet.k (k := Sum.inr (SX.S ([] : List Nat))) hd12; rw [hd_1] at g; exact g, ?_⟩
            walk_at "sx"
            refine ⟨A.rd, .ref A.rt, rfl, by have g := DGet.k (k := Sum.inr (SX.S kTexts)) rd12; rw [row_texts] at g; exact g, ?_⟩
            walk_at "sx"
            refine ⟨A.rt, _, rfl, DPut.k (k := Sum.inr (SX.S ([] : List Nat))) rt12 (by unfold kvM; rw [List.length_map]; exact Nat.lt_of_le_of_lt t3 (by decide)), ?_⟩
            rw [putK_kvM _ _ Y0.nT]
            have pk := putA_keys (k := []) (x := (lkA W.tm []).getD [] ++ wd ++ tz) W.tm Y0.nT
            have D13 := D12.upd (W' := { { { W with z1 := tz } with ss := putM W.ss [] ⟨wr, pa, oldT W.ss [] ++ (wd ++ tz)⟩, tc := fun k' => if k' = ([] : List Nat) then some (oldT W.ss [] ++ (wd ++ tz)) else W.tc k' } with tm := putA W.tm [] ((lkA W.tm []).getD [] ++ wd ++ tz) }) (o := .dK (kvM (putA W.tm [] ((lkA W.tm []).getD [] ++ wd ++ tz)))) (fun F s => s.rtU _ pk.1 (fun e he => (pk.2 e he).elim (fun z => by rw [z]; simp [K3]) fun z => Y0.kT e z.1) (fun e he => (pk.2 e he).elim (fun z => by
                rw [z]
                show ((lkA W.tm []).getD [] ++ wd ++ tz).length ≤ _
                rw [List.length_append, List.length_append]
                omega) fun z => Nat.le_trans (Y0.eT e z.1) (by omega))) (by simp [YA2.mut])
            walk_at "sx"
            refine k _ _ _ D13 ⟨sb.n, sb.f, fun k' => ?_⟩ (by omega)
            show (if k' = ([] : List Nat) then some (oldT W.ss [] ++ (wd ++ tz)) else W.tc k') = lkA (putA W.tm [] ((lkA W.tm []).getD [] ++ wd ++ tz)) k'
            rw [lkA_put, ol F11 Y11, sb.t, List.append_assoc]
          · have hh7 := Y7.h2
            walk_at "sx"
            refine ⟨A.hd, .ref A.h2, rfl, by have g := DGet.k (k := Sum.inr (SX.S kErr)) hd7; rw [hd_2] at g; exact g, ?_⟩
            walk_at "sx"
            intro a3 H8 a30 ha3 s8
            have D8 := D7.same s8
            have ap4 := S7.nep a30
            refine .a ⟨p, q, a3, m4, _, rfl, D8.s, by omega, off_of ha3 ap4.1 ap4.2, Nat.le_of_ble_eq_true rfl, Nat.le_of_ble_eq_true rfl, fun v m5 H9 hv hm5 S9 fr9 => ?_⟩
            have D9 := D8.draw S9 fr9
            obtain ⟨tz, hz, rfl⟩ : ∃ tz : List Nat, tz.length ≤ 1 ∧ v = V.str (SX.S tz) := by
              simp only [List.mem_cons, List.not_mem_nil, or_false] at hv
              rcases hv with rfl | rfl | rfl | rfl <;> exact ⟨_, by simp, rfl⟩
            obtain ⟨F9, Y9, hF9⟩ := D9.ex
            refine .a ⟨A.h2, A.d2, .str (SX.S tz), fSz A.y A.f2 W.z2 kErr, rfl, Y9.h2, Nat.le_of_ble_eq_true rfl, ?_⟩
            have D10 := D9.upd (W' := { W with z2 := tz }) (o := .ins T.C_StreamHandler A.d2 (fSz A.y A.f2 tz kErr)) (fun F s => s.h2U tz hz) (by simp [YA2.mut])
            rw [fSz_put]
            generalize L2.upd H9 A.h2 (.ins T.C_StreamHandler A.d2 (fSz A.y A.f2 tz kErr)) = H10 at D10 ⊢
            obtain ⟨F10, Y10, hF10⟩ := D10.ex
            have y10 := Y10.st.y
            have hh10 := Y10.h2
            have hd10 := Y10.st.hd
            walk_at "sx"
            refine ⟨A.hd, .ref A.h2, rfl, by have g := DGet.k (k := Sum.inr (SX.S kErr)) hd10; rw [hd_2] at g; exact g, ?_⟩
            walk_at "sx"
            refine .a ⟨A.y, A.dy, T.aGT_Yard_make_record, A.Y, .int W.nc, .str (SX.S [97]), 20, [73, 78, 70, 79], wd, firstNames, rfl, y10, Y10.ck, Y10.st.lv, Y10.st.n1, by decide +kernel, by decide +kernel, rfl, fun H' _ => T.gt_Yard_make_record H', fun H11 r dr g e hr hg r0 fr11 => ?_⟩
            have s11 : Same H10 H11 := fun b u e => fr11 b u (by simp) e
            have D11 := D10.same s11
            obtain ⟨F11, Y11, hF11⟩ := D11.ex
            have ol : ∀ F, YOk T F H11 A n { W with z2 := tz } → oldT W.ss kErr = (lkA W.tm kErr).getD [] := fun F s => by rw [oldT_cont, ← sb.t]; exact congrArg (·.getD []) (s.relT kErr)
            have lz : (wd ++ tz).length ≤ 10 := by rw [List.length_append]; omega
            have sl : W.ss.length ≤ 2 * n := Y0.lS
            refine .a ⟨A.h2, A.d2, A.y, A.dy, A.f2, r, dr, g, e, A.Y, .str (SX.S [97]), .int 20, .str (SX.S [73, 78, 70, 79]), .int W.nc, .int W.nc, wd, tz, kErr, W.ss, n + 1, rfl, Y11.h2, Y11.st.f2, Y11.st.y, hr, SqT.of hg, by omega, Y11.st.ss, Y11.ck, Y11.sS, by omega, by omega, by omega, fun H12 wr pa S' w0 p0 fr => ?_⟩
            have D12 := D11.store (n' := n + 1) (W' := { { W with z2 := tz } with ss := putM W.ss kErr ⟨wr, pa, oldT W.ss kErr ++ (wd ++ tz)⟩, tc := fun k' => if k' = kErr then some (oldT W.ss kErr ++ (wd ++ tz)) else W.tc k' }) (fun F s => s.stS (.inr rfl) S' (fun a ha => (ft_put s.sS.kd a ha).elim (fun z => by rw [z]; exact w0) fun z => z.elim (fun z => by rw [z]; exact p0) .inr) fr (fun k' => by rw [cont_put, ← s.relT]) (fun k' l e => by
              by_cases z : k' = kErr
              · rw [if_pos z] at e; cases e
                rw [List.length_append, ol F s]
                have := tl kErr
                omega
              · rw [if_neg z] at e; exact Nat.le_trans (s.cT k' l e) (by omega)) (Nat.le_trans putM_len (by omega)))
            obtain ⟨F12, Y12, hF12⟩ := D12.ex
            have hh12 := Y12.h2
            have rt12 : H12 A.rt = some (.dK (kvM W.tm)) := Y12.rt
            have rd12 : H12 A.rd = some (.dK (rowK A W.nr)) := Y12.rd
            have hd12 := Y12.st.hd
            have gd : ((lkA W.tm kErr).map fun x => V.str (SX.S x)).getD (V.str (SX.S [])) = V.str (SX.S ((lkA W.tm kErr).getD [])) := by cases lkA W.tm kErr <;> rfl
            walk_at "sx"
            refine ⟨A.rd, .ref A.rt, rfl, by have g := DGet.k (k := Sum.inr (SX.S kTexts)) rd12; rw [row_texts] at g; exact g, ?_⟩
            walk_at "sx"
            refine ⟨.inl ⟨_, .inl rt12⟩, ?_⟩
            walk_at "sx"
            refine ⟨_, DGet.k (k := Sum.inr (SX.S kErr)) rt12, ?_⟩
            rw [valV_kvM, gd]
            have tlk := tl kErr
            walk_at "sx"
            refine ⟨A.hd, .ref A.h2, rfl, by have g := DGet.k (k := Sum.inr (SX.S kErr)) hd12; rw [hd_2] at g; exact g, ?_⟩
            walk_at "sx"
            refine ⟨A.rd, .ref A.rt, rfl, by have g := DGet.k (k := Sum.inr (SX.S kTexts)) rd12; rw [row_texts] at g; exact g, ?_⟩
            walk_at "sx"
            refine ⟨A.rt, _, rfl, DPut.k (k := Sum.inr (SX.S kErr)) rt12 (by unfold kvM; rw [List.length_map]; exact Nat.lt_of_le_of_lt t3 (by decide)), ?_⟩
            rw [putK_kvM _ _ Y0.nT]
            have pk := putA_keys (k := kErr) (x := (lkA W.tm kErr).getD [] ++ wd ++ tz) W.tm Y0.nT
            have D13 := D12.upd (W' := { { { W with z2 := tz } with ss := putM W.ss kErr ⟨wr, pa, oldT W.ss kErr ++ (wd ++ tz)⟩, tc := fun k' => if k' = kErr then some (oldT W.ss kErr ++ (wd ++ tz)) else W.tc k' } with tm := putA W.tm kErr ((lkA W.tm kErr).getD [] ++ wd ++ tz) }) (o := .dK (kvM (putA W.tm kErr ((lkA W.tm kErr).getD [] ++ wd ++ tz)))) (fun F s => s.rtU _ pk.1 (fun e he => (pk.2 e he).elim (fun z => by rw [z]; simp [K3]) fun z => Y0.kT e z.1) (fun e he => (pk.2 e he).elim (fun z => by
                rw [z]
                show ((lkA W.tm kErr).getD [] ++ wd ++ tz).length ≤ _
                rw [List.length_append, List.length_append]
                omega) fun z => Nat.le_trans (Y0.eT e z.1) (by omega))) (by simp [YA2.mut])
            walk_at "sx"
            refine k _ _ _ D13 ⟨sb.n, sb.f, fun k' => ?_⟩ (by omega)
            show (if k' = kErr then some (oldT W.ss kErr ++ (wd ++ tz)) else W.tc k') = lkA (putA W.tm kErr ((lkA W.tm kErr).getD [] ++ wd ++ tz)) k'
            rw [lkA_put, ol F11 Y11, sb.t, List.append_assoc]
          · have hh7 := Y7.h3
            refine .inr ?_
            walk_at "sx"
            refine ⟨A.hd, .ref A.h3, rfl, by have g := DGet.k (k := Sum.inr (SX.S kFile)) hd7; rw [hd_3] at g; exact g, ?_⟩
            walk_at "sx"
            intro a3 H8 a30 ha3 s8
            have D8 := D7.same s8
            have ap4 := S7.nep a30
            refine .a ⟨p, q, a3, m4, _, rfl, D8.s, by omega, off_of ha3 ap4.1 ap4.2, Nat.le_of_ble_eq_true rfl, Nat.le_of_ble_eq_true rfl, fun v m5 H9 hv hm5 S9 fr9 => ?_⟩
            have D9 := D8.draw S9 fr9
            obtain ⟨tz, hz, rfl⟩ : ∃ tz : List Nat, tz.length ≤ 1 ∧ v = V.str (SX.S tz) := by
              simp only [List.mem_cons, List.not_mem_nil, or_false] at hv
              rcases hv with rfl | rfl | rfl | rfl <;> exact ⟨_, by simp, rfl⟩
            obtain ⟨F9, Y9, hF9⟩ := D9.ex
            refine .a ⟨A.h3, A.d3, .str (SX.S tz), fFh A.y A.f3 W.z3 kFile W.o, rfl, Y9.h3, Nat.le_of_ble_eq_true rfl, ?_⟩
            have D10 := D9.upd (W' := { W with z3 := tz, o := W.o }) (o := .ins T.C_FileHandler A.d3 (fFh A.y A.f3 tz kFile W.o)) (fun F s => s.h3U tz W.o hz) (by simp [YA2.mut])
            rw [fFh_put]
            generalize L2.upd H9 A.h3 (.ins T.C_FileHandler A.d3 (fFh A.y A.f3 tz kFile W.o)) = H10 at D10 ⊢
            obtain ⟨F10, Y10, hF10⟩ := D10.ex
            have y10 := Y10.st.y
            have hh10 := Y10.h3
            have hd10 := Y10.st.hd
            refine .inr ?_
            walk_at "sx"
            refine ⟨A.hd, .ref A.h3, rfl, by have g := DGet.k (k := Sum.inr (SX.S kFile)) hd10; rw [hd_3] at g; exact g, ?_⟩
            walk_at "sx"
            refine .a ⟨A.y, A.dy, T.aGT_Yard_make_record, A.Y, .int W.nc, .str (SX.S [97]), 20, [73, 78, 70, 79], wd, firstNames, rfl, y10, Y10.ck, Y10.st.lv, Y10.st.n1, by decide +kernel, by decide +kernel, rfl, fun H' _ => T.gt_Yard_make_record H', fun H11 r dr g e hr hg r0 fr11 => ?_⟩
            have s11 : Same H10 H11 := fun b u e => fr11 b u (by simp) e
            have D11 := D10.same s11
            obtain ⟨F11, Y11, hF11⟩ := D11.ex
            have ol : ∀ F, YOk T F H11 A n { W with z3 := tz, o := W.o } → oldT W.fs kFile = (lkA W.fm kFile).getD [] := fun F s => by rw [oldT_cont, ← sb.f]; exact congrArg (·.getD []) (s.relF kFile)
            have lz : (wd ++ tz).length ≤ 10 := by rw [List.length_append]; omega
            have sl : W.fs.length ≤ 2 * n := Y0.lF
            have h3m : A.h3 ∈ A.mut := by simp [YA2.mut]
            have ckm : A.Y.ck ∈ A.mut := by simp [YA2.mut]
            have ys : A.y ∈ A.stat := by simp [YA2.stat]
            have fss : A.Y.fs ∈ A.stat := by simp [YA2.stat]
            have nr : ∀ {a : Addr}, (a ∈ A.stat ∨ a ∈ A.mut ∨ a ∈ ft W.ss ∨ a ∈ ft W.fs) → a ≠ r := fun h z => Y10.trk h (by rw [z]; exact r0)
            refine .a ⟨A.h3, A.d3, A.y, A.dy, A.f3, r, dr, g, e, A.Y, .str (SX.S [97]), .int 20, .str (SX.S [73, 78, 70, 79]), .int W.nc, .int W.nc, wd, tz, kFile, W.o, W.fs, n + 1, rfl, Y11.h3, Y11.st.f3, Y11.st.y, hr, hg, by omega, Y11.st.fs, Y11.ck, Y11.sF, by omega, by omega, by omega,
              fun a ha => ⟨fun z => (Y11.mS _ h3m).2 (by rw [← z]; exact ha), fun z => (Y11.sep _ ys).2.2 (by rw [← z]; exact ha), nr (.inr (.inr (.inr ha))), fun z => (Y11.sep _ fss).2.2 (by rw [← z]; exact ha), fun z => (Y11.mS _ ckm).2 (by rw [← z]; exact ha)⟩,
              ⟨fun z => (Y11.sep _ ys).1 (by rw [← z]; exact h3m), nr (.inr (.inl h3m)), fun z => (Y11.sep _ fss).1 (by rw [← z]; exact h3m), (show A.h3 ≠ A.Y.ck from Y11.ne (i := 6) (j := 0) (by decide) (Nat.le_of_ble_eq_true rfl) (Nat.le_of_ble_eq_true rfl))⟩, fun H12 ks' S' l12 c12 f12 h12 fr => ?_⟩
            have D12 := D11.store (n' := n + 1) (W' := { { W with z3 := tz, o := W.o } with fs := ks', fc := fun k' => if k' = kFile then some (oldT W.fs kFile ++ (wd ++ tz)) else W.fc k', o := true }) (fun F s => s.stF (.inr rfl) S' f12 h12 fr (fun k' => by rw [c12, ← s.relF]) (fun k' l e => by
              by_cases z : k' = kFile
              · rw [if_pos z] at e; cases e
                rw [List.length_append, ol F s]
                have := fl kFile
                omega
              · rw [if_neg z] at e; exact Nat.le_trans (s.cF k' l e) (by omega)) (Nat.le_trans l12 (by show W.fs.length + 2 ≤ _; omega)))
            obtain ⟨F12, Y12, hF12⟩ := D12.ex
            have hh12 := Y12.h3
            have rf12 : H12 A.rf = some (.dK (kvM W.fm)) := Y12.rf
            have rd12 : H12 A.rd = some (.dK (rowK A W.nr)) := Y12.rd
            have hd12 := Y12.st.hd
            have gd : ((lkA W.fm kFile).map fun x => V.str (SX.S x)).getD (V.str (SX.S [])) = V.str (SX.S ((lkA W.fm kFile).getD [])) := by cases lkA W.fm kFile <;> rfl
            walk_at "sx"
            refine ⟨A.rd, .ref A.rf, rfl, by have g := DGet.k (k := Sum.inr (SX.S kFiles)) rd12; rw [row_files] at g; exact g, ?_⟩
            walk_at "sx"
            refine ⟨.inl ⟨_, .inl rf12⟩, ?_⟩
            walk_at "sx"
            refine ⟨_, DGet.k (k := Sum.inr (SX.S kFile)) rf12, ?_⟩
            rw [valV_kvM, gd]
            have flk := fl kFile
            walk_at "sx"
            refine ⟨A.hd, .ref A.h3, rfl, by have g := DGet.k (k := Sum.inr (SX.S kFile)) hd12; rw [hd_3] at g; exact g, ?_⟩
            walk_at "sx"
            refine ⟨A.rd, .ref A.rf, rfl, by have g := DGet.k (k := Sum.inr (SX.S kFiles)) rd12; rw [row_files] at g; exact g, ?_⟩
            walk_at "sx"
            refine ⟨A.rf, _, rfl, DPut.k (k := Sum.inr (SX.S kFile)) rf12 (by unfold kvM; rw [List.length_map]; exact Nat.lt_of_le_of_lt l5 (by decide)), ?_⟩
            rw [putK_kvM _ _ Y0.nF]
            have pk := putA_keys (k := kFile) (x := (lkA W.fm kFile).getD [] ++ wd ++ tz) W.fm Y0.nF
            have D13 := D12.upd (W' := { { { W with z3 := tz, o := W.o } with fs := ks', fc := fun k' => if k' = kFile then some (oldT W.fs kFile ++ (wd ++ tz)) else W.fc k', o := true } with fm := putA W.fm kFile ((lkA W.fm kFile).getD [] ++ wd ++ tz) }) (o := .dK (kvM (putA W.fm kFile ((lkA W.fm kFile).getD [] ++ wd ++ tz)))) (fun F s => s.rfU _ pk.1 (fun e he => (pk.2 e he).elim (fun z => by rw [z]; simp [K5, kFile]) fun z => Y0.kF e z.1) (fun e he => (pk.2 e he).elim (fun z => by
                rw [z]
                show ((lkA W.fm kFile).getD [] ++ wd ++ tz).length ≤ _
                rw [List.length_append, List.length_append]
                omega) fun z => Nat.le_trans (Y0.eF e z.1) (by omega))) (by simp [YA2.mut])
            walk_at "sx"
            refine k _ _ _ D13 ⟨sb.n, fun k' => ?_, sb.t⟩ (by omega)
            show (if k' = kFile then some (oldT W.fs kFile ++ (wd ++ tz)) else W.fc k') = lkA (putA W.fm kFile ((lkA W.fm kFile).getD [] ++ wd ++ tz)) k'
            rw [lkA_put, ol F11 Y11, sb.f, List.append_assoc]
end
end My

namespace My
open PySem PySem.Spec PyProof.Rows L2 SuX
theorem ix_listK {X : Cx} {K : PySem.W.Frag} (h : X.K = K) : IxR X (rIxL K) := h ▸ ix_list
/-! ### while a yard's handlers and the law's row for it are laid -/
structure Bd (H0 H : Hp) (hl ar ah : Addr) (hs rs as : List V) (N : List (Addr × HO)) : Prop where
  at_ : ∀ e ∈ N, H e.1 = some e.2
  nd : (N.map (·.1)).Nodup
  new : ∀ e ∈ N, H0 e.1 = none
  gl : H hl = some (.lst hs)
  gr : H ar = some (.lst rs)
  gh : H ah = some (.lst as)
  ex : H0 hl ≠ none ∧ H0 ar ≠ none ∧ H0 ah ≠ none
  ne : hl ≠ ar ∧ hl ≠ ah ∧ ar ≠ ah
  fr : ∀ b u, b ≠ hl → b ≠ ar → b ≠ ah → H0 b = some u → H b = some u
section
variable {H0 H H' : Hp} {hl ar ah x dx fl C : Addr} {hs hs' rs rs' as as' : List V} {N N' N1 N2 : List (Addr × HO)} {o o' ox : HO}
theorem Bd.start (h1 : H hl = some (.lst hs)) (h2 : H ar = some (.lst rs)) (h3 : H ah = some (.lst as)) (ne : hl ≠ ar ∧ hl ≠ ah ∧ ar ≠ ah) : Bd H H hl ar ah hs rs as [] :=
  ⟨fun _ h => absurd h List.not_mem_nil, List.nodup_nil, fun _ h => absurd h List.not_mem_nil, h1, h2, h3, ⟨(by rw [h1]; exact fun z => nomatch z), (by rw [h2]; exact fun z => nomatch z), (by rw [h3]; exact fun z => nomatch z)⟩, ne, fun _ _ _ _ _ e => e⟩
theorem Bd.th (d : Bd H0 H hl ar ah hs rs as N) {b : Addr} (h : H0 b ≠ none) : H b ≠ none := by
  by_cases e1 : b = hl
  · rw [e1, d.gl]; exact fun z => nomatch z
  · by_cases e2 : b = ar
    · rw [e2, d.gr]; exact fun z => nomatch z
    · by_cases e3 : b = ah
      · rw [e3, d.gh]; exact fun z => nomatch z
      · cases e : H0 b with
        | none => exact absurd e h
        | some u => rw [d.fr b u e1 e2 e3 e]; exact fun z => nomatch z
theorem Bd.free (d : Bd H0 H hl ar ah hs rs as N) {b : Addr} (h : H b = none) : H0 b = none := by
  cases e : H0 b with
  | none => rfl
  | some u => exact absurd h (d.th (by rw [e]; exact fun z => nomatch z))
theorem Bd.out (d : Bd H0 H hl ar ah hs rs as N) (h : H0 x = none) : x ≠ hl ∧ x ≠ ar ∧ x ≠ ah := ⟨fun z => d.ex.1 (by rw [← z]; exact h), fun z => d.ex.2.1 (by rw [← z]; exact h), fun z => d.ex.2.2 (by rw [← z]; exact h)⟩
/-- all that stood stands, and N2 is new -/
theorem Bd.more (d : Bd H0 H hl ar ah hs rs as N) (k : ∀ b u, b ≠ hl → H b = some u → H' b = some u) (h : H' hl = some (.lst hs')) (a2 : ∀ e ∈ N2, H' e.1 = some e.2) (f2 : ∀ e ∈ N2, H e.1 = none) (n2 : (N2.map (·.1)).Nodup) : Bd H0 H' hl ar ah hs' rs as (N ++ N2) :=
  ⟨fun e he => (List.mem_append.mp he).elim (fun z => k _ _ (d.out (d.new e z)).1 (d.at_ e z)) (a2 e), nd_app d.nd n2 (fun e he e2 he2 z => by have := f2 e2 he2; rw [← z, d.at_ e he] at this; cases this),
    fun e he => (List.mem_append.mp he).elim (d.new e) (fun z => d.free (f2 e z)), h, k _ _ d.ne.1.symm d.gr, k _ _ d.ne.2.1.symm d.gh, d.ex, d.ne, fun b u n1 n3 n4 e => k b u n1 (d.fr b u n1 n3 n4 e)⟩
theorem Bd.same (d : Bd H0 H hl ar ah hs rs as N) (s : Same H H') : Bd H0 H' hl ar ah hs rs as N := by
  have := d.more (N2 := []) (fun b u _ e => s b u e) (s _ _ d.gl) (fun _ h => absurd h List.not_mem_nil) (fun _ h => absurd h List.not_mem_nil) List.nodup_nil
  rwa [List.append_nil] at this
theorem Bd.lay (d : Bd H0 H hl ar ah hs rs as N) (hx : H x = none) : Bd H0 (upd H x o) hl ar ah hs rs as (N ++ [(x, o)]) :=
  d.more (fun b u _ e => same_new hx b u e) (same_new hx _ _ d.gl) (fun e he => by rw [List.mem_singleton.mp he]; exact upd_same) (fun e he => by rw [List.mem_singleton.mp he]; exact hx) (List.nodup_cons.mpr ⟨List.not_mem_nil, List.nodup_nil⟩)
theorem Bd.setr (d : Bd H0 H hl ar ah hs rs as N) : Bd H0 (upd H ar (.lst rs')) hl ar ah hs rs' as N :=
  ⟨fun e he => by rw [upd_ne (d.out (d.new e he)).2.1]; exact d.at_ e he, d.nd, d.new, by rw [upd_ne d.ne.1]; exact d.gl, upd_same, by rw [upd_ne d.ne.2.2.symm]; exact d.gh, d.ex, d.ne, fun b u n1 n2 n3 e => by rw [upd_ne n2]; exact d.fr b u n1 n2 n3 e⟩
theorem Bd.seth (d : Bd H0 H hl ar ah hs rs as N) : Bd H0 (upd H ah (.lst as')) hl ar ah hs rs as' N :=
  ⟨fun e he => by rw [upd_ne (d.out (d.new e he)).2.2]; exact d.at_ e he, d.nd, d.new, by rw [upd_ne d.ne.2.1]; exact d.gl, by rw [upd_ne d.ne.2.2]; exact d.gr, upd_same, d.ex, d.ne, fun b u n1 n2 n3 e => by rw [upd_ne n3]; exact d.fr b u n1 n2 n3 e⟩
theorem Bd.put (d : Bd H0 H hl ar ah hs rs as (N1 ++ (x, o) :: N2)) : Bd H0 (upd H x o') hl ar ah hs rs as (N1 ++ (x, o') :: N2) := by
  have mx : (x, o) ∈ N1 ++ (x, o) :: N2 := List.mem_append_right _ List.mem_cons_self
  have xo := d.out (d.new _ mx)
  have nd := d.nd
  rw [List.map_append, List.map_cons, List.nodup_append] at nd
  have nd2 := List.nodup_cons.mp nd.2.1
  have n1 : ∀ e ∈ N1, e.1 ≠ x := fun e he => nd.2.2 e.1 (List.mem_map_of_mem (f := fun e => e.1) he) x List.mem_cons_self
  have n2 : ∀ e ∈ N2, e.1 ≠ x := fun e he z => nd2.1 (by rw [← z]; exact List.mem_map_of_mem (f := fun e => e.1) he)
  refine ⟨fun e he => ?_, ?_, fun e he => ?_, by rw [upd_ne xo.1.symm]; exact d.gl, by rw [upd_ne xo.2.1.symm]; exact d.gr, by rw [upd_ne xo.2.2.symm]; exact d.gh, d.ex, d.ne, fun b u h1 h2 h3 e => by rw [upd_ne (fun z => by rw [z, d.new _ mx] at e; cases e)]; exact d.fr b u h1 h2 h3 e⟩
  · rcases List.mem_append.mp he with h | h
    · rw [upd_ne (n1 e h)]; exact d.at_ e (List.mem_append_left _ h)
    · rcases List.mem_cons.mp h with h | h
      · rw [h]; exact upd_same
      · rw [upd_ne (n2 e h)]; exact d.at_ e (List.mem_append_right _ (List.mem_cons_of_mem _ h))
  · rw [List.map_append, List.map_cons, List.nodup_append]; exact nd
  · rcases List.mem_append.mp he with h | h
    · exact d.new e (List.mem_append_left _ h)
    · rcases List.mem_cons.mp h with h | h
      · rw [h]; exact d.new (x, o) mx
      · exact d.new e (List.mem_append_right _ (List.mem_cons_of_mem _ h))
theorem Bd.made (d : Bd H0 H hl ar ah hs rs as N) (hx : H x = none) (hd : H dx = none) (h1 : H' x = some ox) (h2 : H' fl = some (.lst [])) (h3 : mkH H C x dx fl = none) (h4 : H' hl = some (.lst hs')) (s : SameY x hl (mkH H C x dx) H') : Bd H0 H' hl ar ah hs' rs as (N ++ [(x, ox), (fl, .lst [])]) := by
  have f := mkH_none h3
  refine d.more (fun b u n e => s b u (neN e hx) n (mkH_old hx hd e)) h4 (fun e he => ?_) (fun e he => ?_) (List.nodup_cons.mpr ⟨by simp; exact f.1.symm, List.nodup_cons.mpr ⟨List.not_mem_nil, List.nodup_nil⟩⟩)
  · rcases List.mem_cons.mp he with z | z
    · rw [z]; exact h1
    · rw [List.mem_singleton.mp z]; exact h2
  · rcases List.mem_cons.mp he with z | z
    · rw [z]; exact hx
    · rw [List.mem_singleton.mp z]; exact f.2.2
theorem Bd.get (d : Bd H0 H hl ar ah hs rs as N) {i : Nat} (h : N[i]? = some (x, o)) : H x = some o := d.at_ (x, o) (List.mem_of_getElem? h)
end
theorem nd_ne {L : List Addr} (nd : L.Nodup) {i j : Nat} {x y : Addr} (hi : L[i]? = some x) (hj : L[j]? = some y) (ne : i ≠ j) : x ≠ y := fun e => by
  subst e
  obtain ⟨h1, e1⟩ := List.getElem?_eq_some_iff.mp hi
  obtain ⟨h2, e2⟩ := List.getElem?_eq_some_iff.mp hj
  exact ne ((List.getElem_inj nd).mp (e1.trans e2.symm))
theorem pick_mem {L : List Addr} {n : Nat} (hn : n = L.length) {is : List Nat} (hb : ∀ i ∈ is, i < n) (b : Addr) (h : b ∈ is.map fun i => L.getD i 0) : b ∈ L := by
  obtain ⟨i, hi, rfl⟩ := List.mem_map.mp h
  have bi : i < L.length := hn ▸ hb i hi
  show L.getD i 0 ∈ L
  rw [List.getD_eq_getElem?_getD, List.getElem?_eq_getElem bi]
  exact List.getElem_mem _
theorem pick_nd {L : List Addr} {n : Nat} (nd : L.Nodup) (hn : n = L.length) : ∀ (is : List Nat), is.Nodup → (∀ i ∈ is, i < n) → (is.map fun i => L.getD i 0).Nodup
  | [], _, _ => List.nodup_nil
  | i :: r, hm, hb => by
    have hn' := List.nodup_cons.mp hm
    refine List.nodup_cons.mpr ⟨fun z => ?_, pick_nd nd hn r hn'.2 fun j hj => hb j (List.mem_cons_of_mem _ hj)⟩
    obtain ⟨j, hj, e⟩ := List.mem_map.mp z
    have bi : i < L.length := hn ▸ hb i List.mem_cons_self
    have bj : j < L.length := hn ▸ hb j (List.mem_cons_of_mem _ hj)
    have e' : L[j] = L[i] := by
      simp only [List.getD_eq_getElem?_getD, List.getElem?_eq_getElem bi, List.getElem?_eq_getElem bj, Option.getD_some] at e
      exact e
    have := (List.getElem_inj nd).mp e'
    exact hn'.1 (by rw [← this]; exact hj)
section
variable {K : PySem.W.Frag} {mg : Str → Option Value}
/-- a yard that has been made, with what it lays -/
def GL (T : Txt K mg) (y dy : Addr) (v : V) (Y : YA) : List (Addr × HO) := (y, .ins T.C_Yard dy (fYd Y)) :: YL T y v Y
structure Pre (T : Txt K mg) (H : Hp) (y dy : Addr) (v : V) (Y : YA) : Prop where
  at_ : ∀ e ∈ GL T y dy v Y, H e.1 = some e.2
  nd : ((GL T y dy v Y).map (·.1)).Nodup
theorem Pre.of {T : Txt K mg} {H0 H' : Hp} {y dy : Addr} {v : V} {Y : YA} (t : TK H0 y (YL T y v Y) H') (hy : H' y = some (.ins T.C_Yard dy (fYd Y))) : Pre T H' y dy v Y :=
  ⟨fun e he => (List.mem_cons.mp he).elim (fun z => by rw [z]; exact hy) (t.at_ e), List.nodup_cons.mpr ⟨fun z => by
    obtain ⟨e, he, q⟩ := List.mem_map.mp z
    exact t.nx e he q, t.nd⟩⟩
theorem Pre.keep {T : Txt K mg} {H H' : Hp} {y dy : Addr} {v : V} {Y : YA} (p : Pre T H y dy v Y) (k : ∀ b ∈ (GL T y dy v Y).map (·.1), ∀ u, H b = some u → H' b = some u) : Pre T H' y dy v Y :=
  ⟨fun e he => k _ (List.mem_map_of_mem (f := fun e => e.1) he) _ (p.at_ e he), p.nd⟩
theorem Pre.get {T : Txt K mg} {H : Hp} {y dy x : Addr} {o : HO} {v : V} {Y : YA} (p : Pre T H y dy v Y) (i : Nat) (h : (GL T y dy v Y)[i]? = some (x, o)) : H x = some o := p.at_ (x, o) (List.mem_of_getElem? h)
/-- whose is what -/
structure Own (H : Hp) (X : List Addr) (S : Nat → Addr → Prop) : Prop where
  tr : ∀ j, j < 2 → ∀ b, S j b → H b ≠ none
  dis : ∀ b, S 0 b → S 1 b → False
  off : ∀ j, j < 2 → ∀ b, S j b → b ∉ X
theorem Own.ne {H : Hp} {X : List Addr} {S : Nat → Addr → Prop} (o : Own H X S) {i j : Nat} (hi : i < 2) (hj : j < 2) (ne : i ≠ j) {b : Addr} (h1 : S i b) (h2 : S j b) : False := by
  match i, j, hi, hj with
  | 0, 0, _, _ => exact ne rfl
  | 0, 1, _, _ => exact o.dis b h1 h2
  | 1, 0, _, _ => exact o.dis b h2 h1
  | 1, 1, _, _ => exact ne rfl
theorem Own.go {H H' : Hp} {X : List Addr} {S : Nat → Addr → Prop} (o : Own H X S) {d : Nat} (hd : d < 2) (hX : ∀ b ∈ X, H b ≠ none) (S' : Addr → Prop) (h1 : ∀ b, S' b → S d b ∨ H b = none) (h2 : ∀ b, S' b → H' b ≠ none) (h3 : ∀ j, j < 2 → j ≠ d → ∀ b, S j b → H' b ≠ none) : Own H' X (fun j b => if j = d then S' b else S j b) := by
  refine ⟨fun j hj b hb => ?_, fun b h0 h1' => ?_, fun j hj b hb => ?_⟩
  · by_cases e : j = d
    · rw [if_pos e] at hb; exact h2 b hb
    · rw [if_neg e] at hb; exact h3 j hj e b hb
  · match d, hd with
    | 0, _ =>
      have q : S' b := by simpa using h0
      have r : S 1 b := by simpa using h1'
      exact (h1 b q).elim (fun z => o.dis b z r) (o.tr 1 (by decide) b r)
    | 1, _ =>
      have q : S 0 b := by simpa using h0
      have r : S' b := by simpa using h1'
      exact (h1 b r).elim (fun z => o.dis b q z) (o.tr 0 (by decide) b q)
  · by_cases e : j = d
    · rw [if_pos e] at hb
      exact fun z => (h1 b hb).elim (fun w => o.off d hd b w z) (hX b z)
    · rw [if_neg e] at hb
      exact o.off j hj b hb
/-- what a yard holds at first -/
def W0 (v : Int) : YVal := ⟨v, v, fun _ => none, fun _ => none, [], [], [], [], [10], [10], [10], [10], false⟩
theorem W0.stb (v : Int) : Stb (W0 v) := ⟨rfl, fun _ => rfl, fun _ => rfl⟩
/-- a yard with its handlers and row stands -/
theorem ymk {T : Txt K mg} {H0 H : Hp} {v : Int} {ar ah : Addr} {hs rs as : List V} {ls D t0 t1 t2 : Addr} {ol od ot0 ot1 ot2 : HO} (A : YA2)
    (p : Pre T H0 A.y A.dy (.int v) A.Y) (nX : ∀ b ∈ (GL T A.y A.dy (.int v) A.Y).map (·.1), b ≠ ar ∧ b ≠ ah)
    (d : Bd H0 H A.Y.hl ar ah hs rs as [(A.rd, .dK (rowK A v)), (A.rf, .dK []), (A.rt, .dK []), (ls, ol), (D, od), (A.h0, .ins T.C_StreamHandler A.d0 (fSh A.y A.f0 kOut)), (A.f0, .lst []), (t0, ot0), (A.h1, .ins T.C_StreamHandler A.d1 (fSh A.y A.f1 [])), (A.f1, .lst []), (t1, ot1),
      (A.h2, .ins T.C_StreamHandler A.d2 (fSh A.y A.f2 kErr)), (A.f2, .lst []), (t2, ot2), (A.hd, .dK (hdK A)), (A.h3, .ins T.C_FileHandler A.d3 (fFh A.y A.f3 [10] kFile false)), (A.f3, .lst [])]) :
    YOk T (fun b => b ∈ A.mut) H A 0 (W0 v) ∧ ∀ b, b ∈ A.mut ∨ b ∈ A.stat → b ∈ (GL T A.y A.dy (.int v) A.Y).map (·.1) ∨ H0 b = none := by
  have nd := nd_app p.nd d.nd (fun e he e2 he2 z => by have := d.new e2 he2; rw [← z, p.at_ e he] at this; cases this)
  have pk := pick_nd (n := 37) nd rfl [1, 6, 8, 25, 28, 31, 35, 20, 21, 22, 0, 2, 3, 5, 7, 26, 29, 32, 36, 34] (by decide) (by decide)
  have g : ∀ (i : Nat) (hi : i ≠ 14) (hb : i < 20) (x : Addr) (o : HO), (GL T A.y A.dy (.int v) A.Y)[i]? = some (x, o) → H x = some o := fun i hi hb x o e => by
    have m : x ∈ (GL T A.y A.dy (.int v) A.Y).map (·.1) := List.mem_map_of_mem (f := fun e : Addr × HO => e.1) (List.mem_of_getElem? e)
    refine d.fr x o (fun z => ?_) (nX x m).1 (nX x m).2 (p.get i e)
    exact nd_ne p.nd (i := i) (j := 14) (x := x) (y := A.Y.hl) (by rw [List.getElem?_map, e]; rfl) rfl hi z
  have pk2 : (A.mut ++ A.stat).Nodup := pk
  have pk3 := List.nodup_append.mp pk2
  refine ⟨⟨⟨g 0 (by decide) (by decide) _ _ rfl, g 2 (by decide) (by decide) _ _ rfl, g 3 (by decide) (by decide) _ _ rfl, g 5 (by decide) (by decide) _ _ rfl, g 7 (by decide) (by decide) _ _ rfl, d.get (i := 6) rfl, d.get (i := 9) rfl, d.get (i := 12) rfl, d.get (i := 16) rfl, d.get (i := 14) rfl⟩,
    g 1 (by decide) (by decide) _ _ rfl, ⟨g 6 (by decide) (by decide) _ _ rfl, fun _ h => absurd h List.not_mem_nil, List.nodup_nil, List.nodup_nil, List.nodup_nil, Nat.zero_le _⟩, ⟨g 8 (by decide) (by decide) _ _ rfl, fun _ h => absurd h List.not_mem_nil, List.nodup_nil, List.nodup_nil, List.nodup_nil, Nat.zero_le _⟩,
    d.get (i := 5) rfl, d.get (i := 8) rfl, d.get (i := 11) rfl, d.get (i := 15) rfl, d.get (i := 0) rfl, d.get (i := 1) rfl, d.get (i := 2) rfl, fun _ => rfl, fun _ => rfl, List.nodup_nil, List.nodup_nil, fun _ h => absurd h List.not_mem_nil, fun _ h => absurd h List.not_mem_nil, fun _ h => absurd h List.not_mem_nil, fun _ h => absurd h List.not_mem_nil,
    (fun _ _ e => nomatch e), (fun _ _ e => nomatch e), Nat.zero_le _, Nat.zero_le _, ⟨Nat.le_refl _, Nat.le_refl _, Nat.le_refl _, Nat.le_refl _⟩, pk3.1, fun a ha => ⟨fun z => pk3.2.2 a z a ha rfl, List.not_mem_nil, List.not_mem_nil⟩, fun a ha => ⟨List.not_mem_nil, List.not_mem_nil⟩, fun a ha => List.not_mem_nil,
    fun b => ⟨.inl, fun h => h.elim id fun h => h.elim (fun z => absurd z List.not_mem_nil) (fun z => absurd z List.not_mem_nil)⟩⟩, fun b hb => ?_⟩
  have mb := pick_mem (L := (GL T A.y A.dy (.int v) A.Y ++ [(A.rd, .dK (rowK A v)), (A.rf, .dK []), (A.rt, .dK []), (ls, ol), (D, od), (A.h0, .ins T.C_StreamHandler A.d0 (fSh A.y A.f0 kOut)), (A.f0, .lst []), (t0, ot0), (A.h1, .ins T.C_StreamHandler A.d1 (fSh A.y A.f1 [])), (A.f1, .lst []), (t1, ot1),
      (A.h2, .ins T.C_StreamHandler A.d2 (fSh A.y A.f2 kErr)), (A.f2, .lst []), (t2, ot2), (A.hd, .dK (hdK A)), (A.h3, .ins T.C_FileHandler A.d3 (fFh A.y A.f3 [10] kFile false)), (A.f3, .lst [])]).map (fun e : Addr × HO => e.1)) (n := 37) rfl (is := [1, 6, 8, 25, 28, 31, 35, 20, 21, 22, 0, 2, 3, 5, 7, 26, 29, 32, 36, 34]) (by decide) b (List.mem_append.mpr hb : b ∈ A.mut ++ A.stat)
  obtain ⟨e, he, rfl⟩ := List.mem_map.mp mb
  exact (List.mem_append.mp he).elim (fun h => .inl (List.mem_map_of_mem (f := fun e => e.1) h)) fun h => .inr (d.new e h)
end
end My

namespace My
open PySem PySem.Spec PyProof.Rows L2 SuX
theorem Stm.keep {H H' : Hp} {p q : Addr} {n : Int} (S : Stm H p q n) (kp : ∀ u, H p = some u → H' p = some u) (kq : ∀ u, H q = some u → H' q = some u) : Stm H' p q n := by
  obtain ⟨⟨cs, a, c, SA⟩, n0, n1⟩ := S
  exact ⟨⟨cs, a, c, ⟨kp _ SA.hp, kq _ SA.hq, SA.a0, SA.c0, SA.c1⟩⟩, n0, n1⟩
section
variable {K : PySem.W.Frag} {mg : Str → Option Value}
/-- some yards have their handlers -/
structure Sg (T : Txt K mg) (H : Hp) (p q ay ar ah : Addr) (ys dys : Nat → Addr) (Yv : Nat → YA) (vv : Nat → Int) (As : Nat → YA2) (i : Nat) (m : Int) : Prop where
  dr : Stm H p q m
  hy : H ay = some (.lst [.ref (ys 0), .ref (ys 1)])
  hr : H ar = some (.lst ((List.range i).map fun j => .ref (As j).rd))
  hh : H ah = some (.lst ((List.range i).map fun j => .ref (As j).hd))
  nd : [p, q, ay, ar, ah].Nodup
  sy : ∀ j, j < i → (As j).y = ys j
  ex : ∃ S, Own H [p, q, ay, ar, ah] S ∧ (∀ j, i ≤ j → j < 2 → Pre T H (ys j) (dys j) (.int (vv j)) (Yv j) ∧ ∀ b ∈ (GL T (ys j) (dys j) (.int (vv j)) (Yv j)).map (·.1), S j b) ∧ ∀ j, j < i → ∃ F, YOk T F H (As j) 0 (W0 (vv j)) ∧ ∀ b, F b ∨ b ∈ (As j).stat → S j b
theorem Sg.next {T : Txt K mg} {H H' : Hp} {p q ay ar ah : Addr} {ys dys : Nat → Addr} {Yv : Nat → YA} {vv : Nat → Int} {As : Nat → YA2} {i : Nat} {m : Int} {hs : List V} {ls D t0 t1 t2 : Addr} {ol od ot0 ot1 ot2 : HO} (s : Sg T H p q ay ar ah ys dys Yv vv As i m) (hi : i < 2) (A : YA2) (ey : A.y = ys i) (ed : A.dy = dys i) (eY : A.Y = Yv i)
    (d : Bd H H' A.Y.hl ar ah hs (((List.range i).map fun j => V.ref (As j).rd) ++ [.ref A.rd]) (((List.range i).map fun j => V.ref (As j).hd) ++ [.ref A.hd]) [(A.rd, .dK (rowK A (vv i))), (A.rf, .dK []), (A.rt, .dK []), (ls, ol), (D, od), (A.h0, .ins T.C_StreamHandler A.d0 (fSh A.y A.f0 kOut)), (A.f0, .lst []), (t0, ot0), (A.h1, .ins T.C_StreamHandler A.d1 (fSh A.y A.f1 [])), (A.f1, .lst []), (t1, ot1),
      (A.h2, .ins T.C_StreamHandler A.d2 (fSh A.y A.f2 kErr)), (A.f2, .lst []), (t2, ot2), (A.hd, .dK (hdK A)), (A.h3, .ins T.C_FileHandler A.d3 (fFh A.y A.f3 [10] kFile false)), (A.f3, .lst [])]) :
    Sg T H' p q ay ar ah ys dys Yv vv (fun j => if j = i then A else As j) (i + 1) m := by
  obtain ⟨S, o, pr, dn⟩ := s.ex
  obtain ⟨P, PS⟩ := pr i (Nat.le_refl _) hi
  rw [← ey, ← ed, ← eY] at P PS
  have nX : ∀ j, j < 2 → ∀ b, S j b → b ≠ p ∧ b ≠ q ∧ b ≠ ay ∧ b ≠ ar ∧ b ≠ ah := fun j hj b hb => by
    have := o.off j hj b hb
    simp only [List.mem_cons, List.not_mem_nil, or_false, not_or] at this
    exact this
  have hl : S i A.Y.hl := PS _ (List.mem_map_of_mem (f := fun e : Addr × HO => e.1) (List.mem_of_getElem? (show (GL T A.y A.dy (.int (vv i)) A.Y)[14]? = some (A.Y.hl, _) from rfl)))
  have hX := nX i hi _ hl
  have pX : p ≠ ar ∧ p ≠ ah ∧ q ≠ ar ∧ q ≠ ah ∧ ay ≠ ar ∧ ay ≠ ah := by
    have := s.nd
    simp only [List.nodup_cons, List.mem_cons, List.not_mem_nil, or_false, not_or] at this
    obtain ⟨⟨a1, a2, a3, a4⟩, ⟨b1, b2, b3⟩, ⟨c1, c2⟩, _⟩ := this
    exact ⟨a3, a4, b2, b3, c1, c2⟩
  obtain ⟨YK, YS⟩ := ymk A P (fun b hb => ⟨(nX i hi b (PS b hb)).2.2.2.1, (nX i hi b (PS b hb)).2.2.2.2⟩) d
  have kj : ∀ j, j < 2 → j ≠ i → ∀ b, S j b → ∀ u, H b = some u → H' b = some u := fun j hj ne b hb u e =>
    d.fr b u (fun z => o.ne hi hj ne.symm (by rw [← z] at hl; exact hl) hb) (nX j hj b hb).2.2.2.1 (nX j hj b hb).2.2.2.2 e
  refine ⟨s.dr.keep (fun u => d.fr p u hX.1.symm pX.1 pX.2.1) (fun u => d.fr q u hX.2.1.symm pX.2.2.1 pX.2.2.2.1), d.fr ay _ hX.2.2.1.symm pX.2.2.2.2.1 pX.2.2.2.2.2 s.hy, ?_, ?_, s.nd, fun j hj => ?_, ?_⟩
  · rw [d.gr, List.range_succ, List.map_append]
    refine congrArg (fun z => some (HO.lst z)) (congr (congrArg HAppend.hAppend (List.map_congr_left fun j hj => ?_)) ?_)
    · rw [if_neg (Nat.ne_of_lt (List.mem_range.mp hj))]
    · simp
  · rw [d.gh, List.range_succ, List.map_append]
    refine congrArg (fun z => some (HO.lst z)) (congr (congrArg HAppend.hAppend (List.map_congr_left fun j hj => ?_)) ?_)
    · rw [if_neg (Nat.ne_of_lt (List.mem_range.mp hj))]
    · simp
  · by_cases e : j = i
    · show (if j = i then A else As j).y = ys j
      rw [if_pos e, ey, e]
    · show (if j = i then A else As j).y = ys j
      rw [if_neg e]; exact s.sy j (by omega)
  · have hXt : ∀ b ∈ [p, q, ay, ar, ah], H b ≠ none := by
      intro b hb
      simp only [List.mem_cons, List.not_mem_nil, or_false] at hb
      rcases hb with rfl | rfl | rfl | rfl | rfl
      · exact s.dr.there.1
      · exact s.dr.there.2
      · rw [s.hy]; exact fun z => nomatch z
      · rw [s.hr]; exact fun z => nomatch z
      · rw [s.hh]; exact fun z => nomatch z
    refine ⟨fun j b => if j = i then (b ∈ A.mut ∨ b ∈ A.stat) else S j b, o.go hi hXt _ (fun b hb => (YS b hb).imp (PS b) id) (fun b hb => YK.tr b hb) (fun j hj ne b hb => d.th (o.tr j hj b hb)), fun j h1 h2 => ?_, fun j hj => ?_⟩
    · have ne : j ≠ i := by omega
      obtain ⟨Pj, PSj⟩ := pr j (by omega) h2
      exact ⟨Pj.keep fun b hb => kj j h2 ne b (PSj b hb), fun b hb => by show (if j = i then _ else _); rw [if_neg ne]; exact PSj b hb⟩
    · by_cases e : j = i
      · subst e
        exact ⟨_, by rw [if_pos rfl]; exact YK, fun b hb => by show (if j = j then _ else _); rw [if_pos rfl]; rw [if_pos rfl] at hb; exact hb⟩
      · obtain ⟨F, Y, YS'⟩ := dn j (by omega)
        exact ⟨F, by rw [if_neg e]; exact Y.keep fun b hb => kj j (by omega) e b (YS' b hb), fun b hb => by show (if j = i then _ else _); rw [if_neg e]; rw [if_neg e] at hb; exact YS' b hb⟩
/-- both yards stand -/
structure Mn (T : Txt K mg) (H : Hp) (X : List Addr) (p q ay ar ah : Addr) (As : Nat → YA2) (n : Nat) (m : Int) : Prop where
  dr : Stm H p q m
  hy : H ay = some (.lst [.ref (As 0).y, .ref (As 1).y])
  hr : H ar = some (.lst [.ref (As 0).rd, .ref (As 1).rd])
  hh : H ah = some (.lst [.ref (As 0).hd, .ref (As 1).hd])
  nd : [p, q, ay, ar, ah].Nodup
  bX : ∀ b ∈ [p, q, ay, ar, ah], b ∈ X
  tX : ∀ b ∈ X, H b ≠ none
  ex : ∃ S, Own H X S ∧ ∀ j, j < 2 → ∃ F W, YOk T F H (As j) n W ∧ Stb W ∧ ∀ b, F b ∨ b ∈ (As j).stat → S j b
variable {T : Txt K mg} {H H' : Hp} {X : List Addr} {p q ay ar ah : Addr} {ys dys : Nat → Addr} {Yv : Nat → YA} {vv : Nat → Int} {As : Nat → YA2} {i n : Nat} {m m' : Int}
theorem Sg.mn (s : Sg T H p q ay ar ah ys dys Yv vv As 2 m) : Mn T H [p, q, ay, ar, ah] p q ay ar ah As 0 m := by
  obtain ⟨S, o, _, dn⟩ := s.ex
  refine ⟨s.dr, by rw [s.sy 0 (by decide), s.sy 1 (by decide)]; exact s.hy, s.hr, s.hh, s.nd, fun _ h => h, fun b hb => ?_, S, o, fun j hj => ?_⟩
  · simp only [List.mem_cons, List.not_mem_nil, or_false] at hb
    rcases hb with rfl | rfl | rfl | rfl | rfl
    · exact s.dr.there.1
    · exact s.dr.there.2
    · rw [s.hy]; exact fun z => nomatch z
    · rw [s.hr]; exact fun z => nomatch z
    · rw [s.hh]; exact fun z => nomatch z
  · obtain ⟨F, Y, YS⟩ := dn j hj
    exact ⟨F, _, Y, W0.stb _, YS⟩
theorem Mn.same (s : Mn T H X p q ay ar ah As n m) (h : Same H H') : Mn T H' X p q ay ar ah As n m := by
  have th : ∀ b, H b ≠ none → H' b ≠ none := fun b e => by
    cases q : H b with
    | none => exact absurd q e
    | some u => rw [h b u q]; exact fun z => nomatch z
  obtain ⟨S, o, f⟩ := s.ex
  refine ⟨s.dr.same h, h _ _ s.hy, h _ _ s.hr, h _ _ s.hh, s.nd, s.bX, fun b hb => th b (s.tX b hb), S, ⟨fun j hj b hb => th b (o.tr j hj b hb), o.dis, o.off⟩, fun j hj => ?_⟩
  obtain ⟨F, W, Y, sb, YS⟩ := f j hj
  exact ⟨F, W, Y.same h, sb, YS⟩
theorem Mn.draw (s : Mn T H X p q ay ar ah As n m) (S' : Stm H' p q m') (fr : Same (off H p q) (off H' p q)) : Mn T H' X p q ay ar ah As n m' := by
  have k : ∀ b, b ≠ p → b ≠ q → ∀ u, H b = some u → H' b = some u := fun b h1 h2 u e => off_same _ _ (fr b u (by unfold off; rw [if_neg (fun z => z.elim h1 h2)]; exact e))
  have th : ∀ b, H b ≠ none → H' b ≠ none := fun b e => by
    by_cases e1 : b = p
    · rw [e1]; exact S'.there.1
    · by_cases e2 : b = q
      · rw [e2]; exact S'.there.2
      · cases w : H b with
        | none => exact absurd w e
        | some u => rw [k b e1 e2 u w]; exact fun z => nomatch z
  have pX := s.nd
  simp only [List.nodup_cons, List.mem_cons, List.not_mem_nil, or_false, not_or] at pX
  obtain ⟨⟨a1, a2, a3, a4⟩, ⟨b1, b2, b3⟩, ⟨c1, c2⟩, _⟩ := pX
  obtain ⟨S, o, f⟩ := s.ex
  refine ⟨S', k _ (fun z => a2 z.symm) (fun z => b1 z.symm) _ s.hy, k _ (fun z => a3 z.symm) (fun z => b2 z.symm) _ s.hr, k _ (fun z => a4 z.symm) (fun z => b3 z.symm) _ s.hh, s.nd, s.bX, fun b hb => th b (s.tX b hb), S, ⟨fun j hj b hb => th b (o.tr j hj b hb), o.dis, o.off⟩, fun j hj => ?_⟩
  obtain ⟨F, W, Y, sb, YS⟩ := f j hj
  refine ⟨F, W, Y.keep fun b hb => k b (fun z => o.off j hj b (YS b hb) (s.bX b (by rw [z]; simp))) (fun z => o.off j hj b (YS b hb) (s.bX b (by rw [z]; simp))), sb, YS⟩
/-- one more that is nobody's -/
theorem Mn.add (s : Mn T H X p q ay ar ah As n m) {x : Addr} {o : HO} (hx : H x = none) : Mn T (upd H x o) (x :: X) p q ay ar ah As n m := by
  have s' := s.same (same_new (o := o) hx)
  obtain ⟨S, w, f⟩ := s.ex
  have ne : ∀ b, H b ≠ none → b ≠ x := fun b e z => e (by rw [z]; exact hx)
  have th : ∀ b, H b ≠ none → (upd H x o) b ≠ none := fun b e => by rw [upd_ne (ne b e)]; exact e
  refine ⟨s'.dr, s'.hy, s'.hr, s'.hh, s.nd, fun b hb => List.mem_cons_of_mem _ (s.bX b hb), fun b hb => ?_, S, ⟨fun j hj b hb => th b (w.tr j hj b hb), w.dis, fun j hj b hb z => ?_⟩, fun j hj => ?_⟩
  · rcases List.mem_cons.mp hb with z | z
    · rw [z, upd_same]; exact fun z => nomatch z
    · exact th b (s.tX b z)
  · rcases List.mem_cons.mp z with z | z
    · exact ne b (w.tr j hj b hb) z
    · exact w.off j hj b hb z
  · obtain ⟨F, W, Y, sb, YS⟩ := f j hj
    exact ⟨F, W, Y.new hx, sb, YS⟩
theorem Mn.drop (s : Mn T H X p q ay ar ah As n m) : Mn T H [p, q, ay, ar, ah] p q ay ar ah As n m := by
  obtain ⟨S, w, f⟩ := s.ex
  exact ⟨s.dr, s.hy, s.hr, s.hh, s.nd, fun _ h => h, fun b hb => s.tX b (s.bX b hb), S, ⟨w.tr, w.dis, fun j hj b hb z => w.off j hj b hb (s.bX b z)⟩, f⟩
/-- it is written over -/
theorem Mn.put (s : Mn T H (x :: [p, q, ay, ar, ah]) p q ay ar ah As n m) {o : HO} (nx : x ∉ [p, q, ay, ar, ah]) : Mn T (upd H x o) (x :: [p, q, ay, ar, ah]) p q ay ar ah As n m := by
  have nx' := nx
  simp only [List.mem_cons, List.not_mem_nil, or_false, not_or] at nx'
  obtain ⟨S, w, f⟩ := s.ex
  have th : ∀ b, H b ≠ none → (upd H x o) b ≠ none := fun b e => by
    by_cases z : b = x
    · rw [z, upd_same]; exact fun z => nomatch z
    · rw [upd_ne z]; exact e
  have k : ∀ b, b ≠ x → ∀ u, H b = some u → (upd H x o) b = some u := fun b z u e => by rw [upd_ne z]; exact e
  refine ⟨s.dr.put nx'.1 nx'.2.1, k _ (fun z => nx'.2.2.1 z.symm) _ s.hy, k _ (fun z => nx'.2.2.2.1 z.symm) _ s.hr, k _ (fun z => nx'.2.2.2.2 z.symm) _ s.hh, s.nd, s.bX, fun b hb => th b (s.tX b hb), S, ⟨fun j hj b hb => th b (w.tr j hj b hb), w.dis, w.off⟩, fun j hj => ?_⟩
  obtain ⟨F, W, Y, sb, YS⟩ := f j hj
  exact ⟨F, W, Y.keep fun b hb => k b fun z => w.off j hj b (YS b hb) (by rw [z]; exact List.mem_cons_self), sb, YS⟩
/-- something is done at one yard -/
theorem Mn.at_ (s : Mn T H X p q ay ar ah As n m) {d : Nat} (hd : d < 2) : ∃ F W, YOk T F H (As d) n W ∧ Stb W ∧ (∀ b, F b ∨ b ∈ (As d).stat → b ∉ X) ∧
    ∀ H' F' W' n' m', YOk T F' H' (As d) n' W' → (∀ b, F' b → F b ∨ H b = none) → Stb W' → (∀ b u, ¬ F b → b ≠ p → b ≠ q → H b = some u → H' b = some u) → (n' = n ∨ n' = n + 1) → Stm H' p q m' → Mn T H' X p q ay ar ah As n' m' := by
  obtain ⟨S, w, f⟩ := s.ex
  obtain ⟨F, W, Y, sb, YS⟩ := f d hd
  have pX := s.nd
  simp only [List.nodup_cons, List.mem_cons, List.not_mem_nil, or_false, not_or] at pX
  obtain ⟨⟨a1, a2, a3, a4⟩, ⟨b1, b2, b3⟩, ⟨c1, c2⟩, _⟩ := pX
  have oX : ∀ b, F b ∨ b ∈ (As d).stat → b ∉ X := fun b hb => w.off d hd b (YS b hb)
  refine ⟨F, W, Y, sb, oX, fun H' F' W' n' m' Y' hF' sb' fr hn S' => ?_⟩
  have nF : ∀ b, b ∈ X → ¬ F b := fun b hb z => oX b (.inl z) hb
  have kX : ∀ b ∈ X, H' b ≠ none := fun b hb => by
    by_cases e1 : b = p
    · rw [e1]; exact S'.there.1
    · by_cases e2 : b = q
      · rw [e2]; exact S'.there.2
      · cases e : H b with
        | none => exact absurd e (s.tX b hb)
        | some u => rw [fr b u (nF b hb) e1 e2 e]; exact fun z => nomatch z
  have kj : ∀ j, j < 2 → j ≠ d → ∀ b, S j b → ∀ u, H b = some u → H' b = some u := fun j hj ne b hb u e =>
    fr b u (fun z => w.ne hj hd ne hb (YS b (.inl z))) (fun z => w.off j hj b hb (s.bX b (by rw [z]; simp))) (fun z => w.off j hj b hb (s.bX b (by rw [z]; simp))) e
  refine ⟨S', fr _ _ (nF _ (s.bX _ (by simp))) (fun z => a2 z.symm) (fun z => b1 z.symm) s.hy, fr _ _ (nF _ (s.bX _ (by simp))) (fun z => a3 z.symm) (fun z => b2 z.symm) s.hr, fr _ _ (nF _ (s.bX _ (by simp))) (fun z => a4 z.symm) (fun z => b3 z.symm) s.hh, s.nd, s.bX, kX,
    fun j b => if j = d then (F' b ∨ b ∈ (As d).stat) else S j b, w.go hd s.tX _ (fun b hb => ?_) (fun b hb => Y'.tr b hb) (fun j hj ne b hb => ?_), fun j hj => ?_⟩
  · rcases hb with h | h
    · exact (hF' b h).imp (fun z => YS b (.inl z)) id
    · exact .inl (YS b (.inr h))
  · cases e : H b with
    | none => exact absurd e (w.tr j hj b hb)
    | some u => rw [kj j hj ne b hb u e]; exact fun z => nomatch z
  · by_cases e : j = d
    · subst e
      exact ⟨F', W', Y', sb', fun b hb => by show (if j = j then _ else _); rw [if_pos rfl]; exact hb⟩
    · obtain ⟨G, V, YG, sbG, YSG⟩ := f j hj
      have YG' := YG.keep (H' := H') fun b hb => kj j hj e b (YSG b hb)
      refine ⟨G, V, ?_, sbG, fun b hb => by show (if j = d then _ else _); rw [if_neg e]; exact YSG b hb⟩
      rcases hn with rfl | rfl
      · exact YG'
      · exact YG'.up
end
end My

namespace My
open PySem PySem.Spec PyProof.Rows L2 SuX
local macro_rules | `(tactic| walk_at "hp") => `(tactic| first | assumption | exact upd_same | (refine Eq.trans (upd_ne (by first | assumption | (apply Ne.symm; assumption))) ?_; walk_at "hp"))
local macro_rules | `(tactic| walk_at "ixl") => `(tactic| (refine' ⟨_, ?xs, _, ?vv, rfl, rfl, SqL.of ?hh, ?aa, ?qq⟩; (case hh => walk_at "hp"); (case aa => rfl)))
local macro_rules | `(tactic| walk_at "setl") => `(tactic| (refine' ⟨_, ?xs, _, ?jj, rfl, rfl, ?hh, ?aa, ?qq⟩; (case hh => walk_at "hp"); (case aa => rfl)))
local macro_rules | `(tactic| walk_at "cond") => `(tactic| first | exact ⟨_, rfl⟩ | exact Nat.le_of_lt (small1000 (Nat.le_of_ble_eq_true rfl)) | decide | omega | (dsimp only; omega) | exact ⟨by decide, by decide⟩ | exact Or.inr ⟨by decide, by decide⟩ | exact Or.inl ⟨by decide, by decide⟩ | exact ⟨by decide, by decide, by decide⟩ | exact ⟨by omega, by omega⟩ | exact ⟨by omega, by omega, by omega⟩ | (simp only [List.length_cons, List.length_nil, List.length_append, List.length_take, List.length_drop]; omega) | (refine ⟨?_, ?_, ?_⟩ <;> first | decide | omega | (simp only [List.length_cons, List.length_nil, List.length_append, List.length_take, List.length_drop, Option.getD_some, Option.getD_none]; omega)))
local macro_rules | `(tactic| walk_at "st") => `(tactic| repeat (first | refine ⟨_, rfl, ?_⟩ | refine ⟨_, _, rfl, rfl, ?_⟩ | walk_at "ixl" | walk_at "setl" | refine ⟨rfl, ?_⟩ | refine Or.inl ⟨_, rfl, ?_⟩ | refine And.intro (by walk_at "cond") ?_))
local macro_rules | `(tactic| walk_at "cls") => `(tactic| first | exact OC.cl (by assumption) | exact (‹Txt _ _›).o_Clock.cl | exact (‹Txt _ _›).o_LevelTable.cl | exact (‹Txt _ _›).o_Store.cl | exact (‹Txt _ _›).o_Written.cl | exact (‹Txt _ _›).o_Roster.cl | exact (‹Txt _ _›).o_Handler.cl | exact (‹Txt _ _›).o_Logger.cl | exact (‹Txt _ _›).o_LoggerTree.cl | exact (‹Txt _ _›).o_StreamHandler.cl | exact (‹Txt _ _›).o_FileHandler.cl | exact (‹Txt _ _›).o_LogRecord.cl | exact (‹Txt _ _›).o_Yard.cl)
local macro_rules | `(tactic| walk_at "na") => `(tactic| first | (refine na_of (by assumption) ?_; decide) | (refine na_of (‹Txt _ _›).o_Clock ?_; decide) | (refine na_of (‹Txt _ _›).o_LevelTable ?_; decide) | (refine na_of (‹Txt _ _›).o_Store ?_; decide) | (refine na_of (‹Txt _ _›).o_Written ?_; decide) | (refine na_of (‹Txt _ _›).o_Roster ?_; decide) | (refine na_of (‹Txt _ _›).o_Handler ?_; decide) | (refine na_of (‹Txt _ _›).o_Logger ?_; decide) | (refine na_of (‹Txt _ _›).o_LoggerTree ?_; decide) | (refine na_of (‹Txt _ _›).o_StreamHandler ?_; decide) | (refine na_of (‹Txt _ _›).o_FileHandler ?_; decide) | (refine na_of (‹Txt _ _›).o_LogRecord ?_; decide) | (refine na_of (‹Txt _ _›).o_Yard ?_; decide))
local macro_rules | `(tactic| walk_at "fld") => `(tactic| (refine' ⟨_, _, _, _, ?vv, rfl, ?hh, ?cc, ?nn, ?ll, ?qq⟩; (case hh => walk_at "hp"); (case cc => walk_at "cls"); (case nn => walk_at "na"); (case ll => exact rfl)))
local macro_rules | `(tactic| walk_at "sto") => `(tactic| (refine' ⟨_, _, _, _, rfl, ?hh, ?cc, ?nn, ?ll, ?qq⟩; (case hh => walk_at "hp"); (case cc => walk_at "cls"); (case nn => walk_at "na"); (case ll => first | exact Nat.le_of_ble_eq_true rfl | assumption)))
local macro_rules | `(tactic| walk_at "mth") => `(tactic| (refine' ⟨_, _, _, rfl, ?hh, ?ll, ?qq⟩; (case hh => walk_at "hp"); (case ll => exact rfl)))
local macro_rules | `(tactic| walk_at "sx") => `(tactic| repeat (first | refine ⟨_, rfl, ?_⟩ | refine ⟨_, _, rfl, rfl, ?_⟩ | walk_at "ixl" | walk_at "setl" | refine ⟨rfl, ?_⟩ | refine Or.inl ⟨_, rfl, ?_⟩ | walk_at "fld" | walk_at "sto" | walk_at "mth" | refine And.intro (by walk_at "cond") ?_))
section
variable {P : Program} {w : World} {K : PySem.W.Frag} {mg : Str → Option Value} {base : Heap}
theorem at2 {f : Nat → V} {i : Nat} (h : i < 2) : atI [f 0, f 1] ((i : Nat) : Int) = some (f i) := by
  match i, h with
  | 0, _ => rfl
  | 1, _ => rfl
theorem merge3 {k1 k2 k3 : List Nat} {v1 v2 v3 : V} (h12 : k1 ≠ k2) (h13 : k1 ≠ k3) (h23 : k2 ≠ k3) : mergeK [] [((Sum.inr (SX.S k1) : Key), v1), (Sum.inr (SX.S k2), v2), (Sum.inr (SX.S k3), v3)] = [(Sum.inr (SX.S k1), v1), (Sum.inr (SX.S k2), v2), (Sum.inr (SX.S k3), v3)] := by
  have e1 : ¬ ((Sum.inr (SX.S k1) : Key) = Sum.inr (SX.S k2)) := fun z => h12 ((key_iff _ _).mp z)
  have e2 : ¬ ((Sum.inr (SX.S k1) : Key) = Sum.inr (SX.S k3)) := fun z => h13 ((key_iff _ _).mp z)
  have e3 : ¬ ((Sum.inr (SX.S k2) : Key) = Sum.inr (SX.S k3)) := fun z => h23 ((key_iff _ _).mp z)
  simp [mergeK, putK, e1, e2, e3]
structure He where
  k : List Nat
  (x dx f t : Addr)
def heO {K : PySem.W.Frag} {mg : Str → Option Value} (T : Txt K mg) (y : Addr) (e : He) : List (Addr × HO) := [(e.x, .ins T.C_StreamHandler e.dx (fSh y e.f e.k)), (e.f, .lst []), (e.t, .tup [.str (SX.S e.k), .ref e.x])]
theorem three : ∀ {es : List He} {a b c : List Nat}, es.map He.k = [a, b, c] → ∃ e0 e1 e2, es = [e0, e1, e2] ∧ e0.k = a ∧ e1.k = b ∧ e2.k = c
  | [], _, _, _, h => by cases h
  | [_], _, _, _, h => by cases h
  | [_, _], _, _, _, h => by cases h
  | [e0, e1, e2], _, _, _, h => by cases h; exact ⟨_, _, _, rfl, rfl, rfl, rfl⟩
  | _ :: _ :: _ :: _ :: _, _, _, _, h => by cases h
theorem at2h {g : Nat → V} {v : V} {i : Nat} (h : i < 2) : atI ((List.range i).map g ++ [v]) ((i : Nat) : Int) = some v := by
  match i, h with
  | 0, _ => rfl
  | 1, _ => rfl
theorem put4 {k1 k2 k3 k4 : List Nat} {v1 v2 v3 v4 : V} (h1 : k1 ≠ k4) (h2 : k2 ≠ k4) (h3 : k3 ≠ k4) : putK [((Sum.inr (SX.S k1) : Key), v1), (Sum.inr (SX.S k2), v2), (Sum.inr (SX.S k3), v3)] (Sum.inr (SX.S k4)) v4 = [(Sum.inr (SX.S k1), v1), (Sum.inr (SX.S k2), v2), (Sum.inr (SX.S k3), v3), (Sum.inr (SX.S k4), v4)] := by
  have e1 : ¬ ((Sum.inr (SX.S k1) : Key) = Sum.inr (SX.S k4)) := fun z => h1 ((key_iff _ _).mp z)
  have e2 : ¬ ((Sum.inr (SX.S k2) : Key) = Sum.inr (SX.S k4)) := fun z => h2 ((key_iff _ _).mp z)
  have e3 : ¬ ((Sum.inr (SX.S k3) : Key) = Sum.inr (SX.S k4)) := fun z => h3 ((key_iff _ _).mp z)
  simp [putK, e1, e2, e3]
def k3V : List V := K3.map fun k => V.str (SX.S k)
theorem comp_rng {lo : Int} {n : Nat} {D : Addr} {g : TG} {tt : TT} {te : TE} {σ : L2.St} {vs : List Nat} {H1 : Hp} {Q : Hp → Prop} (W : Nat → Hp → Prop) (h0 : W 0 (upd H1 D (.lst []))) (hend : ∀ H, W n H → Q H)
    (hs : ∀ (i : Nat) H, i < n → W i H → ∀ N : Hp → Prop, N = (fun H' => Hd (W (i + 1) H')) → g (.int (lo + i)) (wipe σ vs) H fun σ2 H2 => wipe σ2 vs = wipe σ vs ∧ tt σ2 H2 fun b H3 => if b = true then te σ2 H3 fun y H4 => ∃ acc, H4 D = some (.lst acc) ∧ acc.length < sizeLine ∧ N (upd H4 D (.lst (acc ++ [y]))) else N H3) :
    ∃ W : Nat → Nat → Hp → Prop, (∃ m, W 0 m (upd H1 D (.lst []))) ∧ ∀ i m H, W i m H → ((Itr lo n).stop i H ∧ Q H) ∨ ((Itr lo n).go i H ∧ ∃ Nx : Hp → Prop, (∀ H', Nx H' → ∃ m', m' < m ∧ W (i + 1) m' H') ∧
      ∀ x H', (Itr lo n).yld i H x H' → g x (wipe σ vs) H' fun σ2 H2 => wipe σ2 vs = wipe σ vs ∧ tt σ2 H2 fun b H3 => if b = true then te σ2 H3 fun y H4 => ∃ acc, H4 D = some (.lst acc) ∧ acc.length < sizeLine ∧ Nx (upd H4 D (.lst (acc ++ [y]))) else Nx H3) := by
  refine ⟨fun i m H => W i H ∧ m = n - i ∧ i ≤ n, ⟨_, h0, rfl, Nat.zero_le _⟩, ?_⟩
  rintro i m H ⟨hw, rfl, hi⟩
  by_cases hlt : i < n
  · refine .inr ⟨hlt, fun H' => Hd (W (i + 1) H'), fun H' z => ⟨n - (i + 1), by omega, z.out, rfl, by omega⟩, ?_⟩
    rintro x H' ⟨rfl, rfl⟩
    exact hs i H' hlt hw _ rfl
  · have e : i = n := by omega
    subst e
    exact .inl ⟨Nat.le_refl _, hend H hw⟩
def spLaw (K : PySem.W.Frag) : Sp := fun vs H Q _ => Hd (∃ (a : Addr) (cs : List Int), vs = [.ref a] ∧ SqL K H a (cs.map V.int) ∧ ∀ H', Q (.bl true) H')
theorem ok_law (T : Txt K mg) (Z : Dct P w K mg T) : FnOk P w K mg base CX0 10 T.f_law T.fd_law ["_law_script"] (spLaw K) := by
  have G__law_draw : FnOk P w K mg base CX0 1 _ _ _ spDraw := ok_draw T
  have G__law_pick : FnOk P w K mg base CX0 2 _ _ _ spPick := ok_pick T
  have G__law_yard_deed : FnOk P w K mg base CX0 9 _ _ _ (spDeed T) := ok_deed T Z
  have G__law_yard_right : FnOk P w K mg base CX0 5 _ _ _ (spRight T) := ok_right T
  have G_Yard : FnOk P w K mg base CX0 5 _ _ _ (spYard T) := ok_yard T Z
  have G_StreamHandler : FnOk P w K mg base CX0 3 _ _ _ (spStream T.C_StreamHandler T.C_Roster K) := ok_stream T Z
  have G_FileHandler : FnOk P w K mg base (L2.CX P w) 3 _ _ _ (spFile T.C_FileHandler T.C_Roster K) := ok_file T Z
  obtain ⟨dsY, hdY, hbY⟩ := T.dd_Yard_init
  refine T.D_law.F.ok sc_law (fun vs H Q E h => ?_) (fun cdv A outer s H vs Q E hr h => ?_)
  · obtain ⟨a, cs, rfl, _⟩ := h.out
    rfl
  · obtain ⟨a, cs, rfl, ha, k⟩ := h.out
    have hu := hu_of hr
    refine ⟨_, (pss_cons (ps_set (i := 1) sc_law.nd rfl (by first | exact Or.inl rfl | exact Or.inr rfl) (pe_lstG (pa_cons (pe_callTy call_list_of (by rfl) T.B.n_list (by decide +kernel) (pa_cons (pv 0) pa_nil)) (pa_cons pe_int (pa_cons pe_int (pa_cons pe_int pa_nil))))))
  (pss_cons (ps_set (i := 2) sc_law.nd rfl (by first | exact Or.inl rfl | exact Or.inr rfl) (pe_call G__law_pick (hr.mono (by first | decide | omega)) rfl T.D__law_pick.g T.D__law_pick.F.kp T.D__law_pick.b .nil pass0 (pa_cons (pv 1) (pa_cons (pe_lstG (pa_cons pe_int (pa_cons pe_int (pa_cons (pe_op op_pow pe_int pe_int) pa_nil)))) pa_nil))))
  (pss_cons (ps_asg (pe_tup (pa_cons (pe_lst (pa_cons (pe_make0 T.M_Yard G_Yard (hr.mono (by first | decide | omega)) rfl T.g_Yard hbY hdY pass0) (pa_cons (pe_makeK0 T.M_Yard G_Yard (hr.mono (by first | decide | omega)) rfl T.g_Yard T.kb_Yard_init pass0 (pk_cons (pv 2) pk_nil)) pa_nil))) (pa_cons (pe_lst pa_nil) (pa_cons (pe_lst pa_nil) pa_nil)))) (pg_tup rfl (pgs_cons (pg_name (i := 3) sc_law.nd rfl (by first | exact Or.inl rfl | exact Or.inr rfl)) (pgs_cons (pg_name (i := 4) sc_law.nd rfl (by first | exact Or.inl rfl | exact Or.inr rfl)) (pgs_cons (pg_name (i := 5) sc_law.nd rfl (by first | exact Or.inl rfl | exact Or.inr rfl)) pgs_nil)))))
  (pss_cons (ps_for PassesOwn.never rfl (pi_range1 rfl T.B.n_range (pa_cons pe_int pa_nil)) (pg_name (i := 6) sc_law.nd rfl (by first | exact Or.inl rfl | exact Or.inr rfl))
    (pss_cons (ps_set (i := 7) sc_law.nd rfl (by first | exact Or.inl rfl | exact Or.inr rfl) (pe_ix ix_list (pv 3) (pv 6) (fun _ _ => rfl)))
  (pss_cons (ps_expr (pe_bm PySem.F.plainAttrs_list PySem.F.slot_list_append PySem.F.type_list_append mt_append (pv 4) (pa_cons (pe_disp (pps_cons (SL.pe_strL [110, 111, 119] (by decide +kernel)) (pe_op op_mul (pv 2) (pv 6)) (pps_cons (SL.pe_strL [102, 105, 108, 101, 115] (by decide +kernel)) pe_dnewK (pps_cons (SL.pe_strL [116, 101, 120, 116, 115] (by decide +kernel)) pe_dnewK pps_nil))) rfl rfl (List.cons_ne_nil _ _) (by decide)) pa_nil)))
  (pss_cons (ps_expr (pe_bm PySem.F.plainAttrs_list PySem.F.slot_list_append PySem.F.type_list_append mt_append (pv 5) (pa_cons (pe_callTy (call_dictP rfl) (by rfl) T.B.n_dict (by decide +kernel) (pa_cons (pe_lc (own := [("_law_key", 9)]) (g := gName 9) rfl sc_law.nd (pi_list (pe_lst (pa_cons (SL.pe_strL [111, 117, 116] (by decide +kernel)) (pa_cons (SL.pe_strL [] (by decide +kernel)) (pa_cons (SL.pe_strL [101, 114, 114] (by decide +kernel)) pa_nil))))) (blkOk_by (N := ["_law_script", "_law_stream", "_law_begin", "_law_yards", "_law_rows", "_law_handlers", "_law_at", "_law_yard", "_law_turn", "_law_key", "_law_k"]) (sc := defScope s_law) (by decide +kernel)) (fun _ _ _ _ _ => (pg_name (i := 9) sc_law.nd rfl (by first | exact Or.inl rfl | exact Or.inr rfl))) (fun _ _ _ _ _ => pts_nil) (fun _ _ _ _ _ => (pe_tup (pa_cons (pv 9) (pa_cons (pe_make T.M_StreamHandler G_StreamHandler (hr.mono (by first | decide | omega)) rfl T.g_StreamHandler T.b_StreamHandler_init .nil pass0 (pa_cons (pv 7) (pa_cons (pv 9) pa_nil))) pa_nil))))) pa_nil)) pa_nil)))
  (pss_one (ps_dput hu (pe_ix ix_list (pv 5) (pv 6) (fun _ _ => rfl)) (SL.pe_strL [102] (by decide +kernel)) (pe_make T.M_FileHandler G_FileHandler (hr.mono (by first | decide | omega)) rfl T.g_FileHandler T.b_FileHandler_init .nil passes_no (pa_cons (pv 7) (pa_cons (SL.pe_strL [102] (by decide +kernel)) (pa_cons (SL.pe_strL [97] (by decide +kernel)) (pa_cons pe_bl pa_nil))))) rfl))))))
  (pss_cons (ps_for PassesOwn.never rfl (pi_range1 rfl T.B.n_range (pa_cons (pe_op op_add pe_int (pe_call G__law_draw (hr.mono (by first | decide | omega)) rfl T.D__law_draw.g T.D__law_draw.F.kp T.D__law_draw.b .nil pass0 (pa_cons (pv 1) (pa_cons pe_int pa_nil)))) pa_nil)) (pg_name (i := 8) sc_law.nd rfl (by first | exact Or.inl rfl | exact Or.inr rfl))
    (pss_cons (ps_set (i := 6) sc_law.nd rfl (by first | exact Or.inl rfl | exact Or.inr rfl) (pe_call G__law_draw (hr.mono (by first | decide | omega)) rfl T.D__law_draw.g T.D__law_draw.F.kp T.D__law_draw.b .nil pass0 (pa_cons (pv 1) (pa_cons pe_int pa_nil))))
  (pss_cons (ps_if (pt_cmpR op_notN (pe_call G__law_yard_deed (hr.mono (by first | decide | omega)) rfl T.D__law_yard_deed.g T.D__law_yard_deed.F.kp T.D__law_yard_deed.b .nil pass0 (pa_cons (pv 1) (pa_cons (pe_ix ix_list (pv 3) (pv 6) (fun _ _ => rfl)) (pa_cons (pe_ix ix_list (pv 4) (pv 6) (fun _ _ => rfl)) (pa_cons (pe_ix ix_list (pv 5) (pv 6) (fun _ _ => rfl)) pa_nil))))) pe_non (nomark _))
    (pss_one (ps_ret pe_bl))
    pss_nil)
  (pss_one (ps_if (pt_not (pt_val (pe_callB (cr_all rfl) (by rfl) T.B.n_all (by decide +kernel) (pa_cons (pe_lc (own := [("_law_k", 10)]) (g := gName 10) rfl sc_law.nd (pi_range1 rfl T.B.n_range (pa_cons pe_int pa_nil)) (blkOk_by (N := ["_law_script", "_law_stream", "_law_begin", "_law_yards", "_law_rows", "_law_handlers", "_law_at", "_law_yard", "_law_turn", "_law_key", "_law_k"]) (sc := defScope s_law) (by decide +kernel)) (fun _ _ _ _ _ => (pg_name (i := 10) sc_law.nd rfl (by first | exact Or.inl rfl | exact Or.inr rfl))) (fun _ _ _ _ _ => pts_nil) (fun _ _ _ _ _ => (pe_call G__law_yard_right (hr.mono (by first | decide | omega)) rfl T.D__law_yard_right.g T.D__law_yard_right.F.kp T.D__law_yard_right.b .nil pass0 (pa_cons (pe_ix (ix_listK (K := K) rfl) (pv 3) (pv 10) (fun _ _ => rfl)) (pa_cons (pe_ix (ix_listK (K := K) rfl) (pv 4) (pv 10) (fun _ _ => rfl)) pa_nil))))) pa_nil))))
    (pss_one (ps_ret pe_bl))
    pss_nil)))))
  (pss_one (ps_ret pe_bl))))))), ?_⟩
    walk_at "sx"
    refine ⟨a, cs.map V.int, rfl, .inl ha, fun q hq => ?_⟩
    walk_at "sx"
    intro p H1 p0 hp s1
    have hq1 : H1 q = some (.lst (cs.map V.int)) := s1 _ _ upd_same
    have S1 : Stm H1 p q 0 := ⟨⟨cs, 0, 0, ⟨hp, hq1, by decide, by decide, by decide⟩⟩, by decide, by decide⟩
    walk_at "sx"
    intro a1 H2 a10 ha1 s2
    have S2 := S1.same s2
    have ap1 := S1.nep a10
    refine .a ⟨p, q, a1, 0, _, rfl, S2, by decide, off_of ha1 ap1.1 ap1.2, Nat.le_of_ble_eq_true rfl, Nat.le_of_ble_eq_true rfl, fun v m3 H3 hv hm3 S3 fr3 => ?_⟩
    obtain ⟨bg, bg0, bg1, rfl⟩ : ∃ bg : Int, 0 ≤ bg ∧ bg ≤ 1000000000000 ∧ v = V.int bg := by
      simp only [List.mem_cons, List.not_mem_nil, or_false] at hv
      rcases hv with rfl | rfl | rfl <;> exact ⟨_, by decide, by decide, rfl⟩
    clear hv fr3 S2 S1 s1 s2 ha1 hp hq1
    walk_at "sx"
    intro y0 dy0 n0 nd0 ne0
    refine .a ⟨y0, dy0, .int (bg * ((0 : Nat) : Int)), by simp, upd_same, fun H4 Y0 t0 hy0 => ⟨rfl, ?_⟩⟩
    have s34 : Same H3 H4 := fun b u e => t0.same b u (neN e n0) (mkH_old n0 nd0 e)
    have f0 : ∀ b ∈ (GL T y0 dy0 (.int (bg * ((0 : Nat) : Int))) Y0).map (·.1), H3 b = none := fun b hb => by
      rcases List.mem_cons.mp hb with z | z
      · rw [z]; exact n0
      · obtain ⟨e, he, q⟩ := List.mem_map.mp z
        rw [← q]; exact (mkH_none (t0.new e he)).2.2
    have P0 : Pre T H4 y0 dy0 (.int (bg * ((0 : Nat) : Int))) Y0 := Pre.of t0 hy0
    have S4 := S3.same s34
    clear t0 hy0
    walk_at "sx"
    intro y1 dy1 n1 nd1 ne1
    refine .a ⟨y1, dy1, .int (bg * ((1 : Nat) : Int)), by simp, upd_same, fun H5 Y1 t1 hy1 => ⟨rfl, ?_⟩⟩
    have s45 : Same H4 H5 := fun b u e => t1.same b u (neN e n1) (mkH_old n1 nd1 e)
    have f1 : ∀ b ∈ (GL T y1 dy1 (.int (bg * ((1 : Nat) : Int))) Y1).map (·.1), H4 b = none := fun b hb => by
      rcases List.mem_cons.mp hb with z | z
      · rw [z]; exact n1
      · obtain ⟨e, he, q⟩ := List.mem_map.mp z
        rw [← q]; exact (mkH_none (t1.new e he)).2.2
    have P1 : Pre T H5 y1 dy1 (.int (bg * ((1 : Nat) : Int))) Y1 := Pre.of t1 hy1
    have P0' : Pre T H5 y0 dy0 (.int (bg * ((0 : Nat) : Int))) Y0 := P0.keep fun b _ u e => s45 b u e
    have S5 := S4.same s45
    clear t1 hy1
    walk_at "sx"
    intro ay ay0
    have e1 : Same H5 (upd H5 ay (.lst [.ref y0, .ref y1])) := same_new ay0
    have hay : (upd H5 ay (.lst [.ref y0, .ref y1])) ay = some (.lst [.ref y0, .ref y1]) := upd_same
    generalize upd H5 ay (.lst [.ref y0, .ref y1]) = H6 at e1 hay ⊢
    walk_at "sx"
    intro ar ar0
    have e2 : Same H6 (upd H6 ar (.lst [])) := same_new ar0
    have har : (upd H6 ar (.lst [])) ar = some (.lst []) := upd_same
    generalize upd H6 ar (.lst []) = H7 at e2 har ⊢
    walk_at "sx"
    intro ah ah0
    have e3 : Same H7 (upd H7 ah (.lst [])) := same_new ah0
    have hah : (upd H7 ah (.lst [])) ah = some (.lst []) := upd_same
    generalize upd H7 ah (.lst []) = H8 at e3 hah ⊢
    walk_at "sx"
    intro tp tp0
    have e4 : Same H8 (upd H8 tp (.tup [.ref ay, .ref ar, .ref ah])) := same_new tp0
    have htp : (upd H8 tp (.tup [.ref ay, .ref ar, .ref ah])) tp = some (.tup [.ref ay, .ref ar, .ref ah]) := upd_same
    generalize upd H8 tp (.tup [.ref ay, .ref ar, .ref ah]) = H9 at e4 htp ⊢
    walk_at "sx"
    refine ⟨tp, _, rfl, SqT.of htp, rfl, ?_⟩
    have s59 : Same H5 H9 := (e1.trans e2).trans (e3.trans e4)
    obtain ⟨ys, eys⟩ : ∃ ys : Nat → Addr, ys = fun j => match j with | 0 => y0 | _ + 1 => y1 := ⟨_, rfl⟩
    obtain ⟨dys, edys⟩ : ∃ dys : Nat → Addr, dys = fun j => match j with | 0 => dy0 | _ + 1 => dy1 := ⟨_, rfl⟩
    obtain ⟨Yv, eYv⟩ : ∃ Yv : Nat → YA, Yv = fun j => match j with | 0 => Y0 | _ + 1 => Y1 := ⟨_, rfl⟩
    obtain ⟨vv, evv⟩ : ∃ vv : Nat → Int, vv = fun j : Nat => bg * ((j : Nat) : Int) := ⟨_, rfl⟩
    have SG : Sg T H9 p q ay ar ah ys dys Yv vv (fun _ => ⟨0, 0, 0, 0, 0, 0, 0, 0, 0, 0, 0, 0, 0, 0, 0, 0, 0, 0, Y0⟩) 0 m3 := by
      subst eys edys eYv evv
      have pq := S5.there
      have pqn : p ≠ q := by obtain ⟨cs', a', c', SA⟩ := S5.ex; exact SA.ne
      have nn : ∀ {b x : Addr} {G : Hp}, G b ≠ none → G x = none → b ≠ x := fun h1 h2 z => h1 (by rw [z]; exact h2)
      have up : ∀ {G G' : Hp} {b : Addr}, Same G G' → G b ≠ none → G' b ≠ none := fun {G G' b} s h => by
        cases e : G b with
        | none => exact absurd e h
        | some u => rw [s b u e]; exact fun z => nomatch z
      have t0 : ∀ b ∈ (GL T y0 dy0 (.int (bg * ((0 : Nat) : Int))) Y0).map (·.1), H4 b ≠ none := fun b hb => by
        obtain ⟨e, he, z⟩ := List.mem_map.mp hb
        rw [← z, P0.at_ e he]; exact fun z => nomatch z
      have t1 : ∀ b ∈ (GL T y1 dy1 (.int (bg * ((1 : Nat) : Int))) Y1).map (·.1), H5 b ≠ none := fun b hb => by
        obtain ⟨e, he, z⟩ := List.mem_map.mp hb
        rw [← z, P1.at_ e he]; exact fun z => nomatch z
      have pq3 := S3.there
      have pq4 := S4.there
      have off : ∀ b, H5 b ≠ none → b ≠ p → b ≠ q → b ∉ [p, q, ay, ar, ah] := fun b h h1 h2 => by
        simp only [List.mem_cons, List.not_mem_nil, or_false, not_or]
        exact ⟨h1, h2, nn h ay0, nn (up e1 h) ar0, nn (up e2 (up e1 h)) ah0⟩
      refine ⟨S5.same s59, (e2.trans (e3.trans e4)) _ _ hay, (e3.trans e4) _ _ har, e4 _ _ hah, ?_, fun j hj => absurd hj (Nat.not_lt_zero j), fun j b => match j with
        | 0 => b ∈ (GL T y0 dy0 (.int (bg * ((0 : Nat) : Int))) Y0).map (·.1)
        | _ + 1 => b ∈ (GL T y1 dy1 (.int (bg * ((1 : Nat) : Int))) Y1).map (·.1), ⟨fun j hj b hb => ?_, fun b h0 h1 => t0 b h0 (f1 b h1), fun j hj b hb => ?_⟩, fun j _ hj => ?_, fun j hj => absurd hj (Nat.not_lt_zero j)⟩
      · simp only [List.nodup_cons, List.mem_cons, List.not_mem_nil, or_false, not_or, not_false_eq_true, List.nodup_nil, and_true]
        exact ⟨⟨pqn, nn pq.1 ay0, nn (up e1 pq.1) ar0, nn (up e2 (up e1 pq.1)) ah0⟩, ⟨nn pq.2 ay0, nn (up e1 pq.2) ar0, nn (up e2 (up e1 pq.2)) ah0⟩, ⟨neN hay ar0, neN (e2 _ _ hay) ah0⟩, neN har ah0⟩
      · match j, hj with
        | 0, _ => exact up s59 (up s45 (t0 b hb))
        | 1, _ => exact up s59 (t1 b hb)
      · match j, hj with
        | 0, _ => exact off b (up s45 (t0 b hb)) (fun z => pq3.1 (by rw [← z]; exact f0 b hb)) (fun z => pq3.2 (by rw [← z]; exact f0 b hb))
        | 1, _ => exact off b (t1 b hb) (fun z => pq4.1 (by rw [← z]; exact f1 b hb)) (fun z => pq4.2 (by rw [← z]; exact f1 b hb))
      · match j, hj with
        | 0, _ => exact ⟨P0'.keep fun b _ u e => s59 b u e, fun b hb => hb⟩
        | 1, _ => exact ⟨P1.keep fun b _ u e => s59 b u e, fun b hb => hb⟩
    clear eys edys eYv P0 P0' P1 f0 f1 S4 S5 e1 e2 e3 e4 htp hay har hah s34 s45 s59 n0 n1 nd0 nd1 ne0 ne1 ay0 ar0 ah0 tp0
    refine ⟨_, _, rfl, _, _, rfl, _, _, rfl, rfl, ?_⟩
    walk_at "sx"
    refine for_rng (lo := 0) (n := 2) (fun i σ H' => ∃ (As : Nat → YA2) (v6 v7 v8 v9 v10 : Option V), σ = [some (.ref a), some (.ref p), some (.int bg), some (.ref ay), some (.ref ar), some (.ref ah), v6, v7, v8, v9, v10] ∧ Sg T H' p q ay ar ah ys dys Yv vv As i m3) ⟨_, _, _, _, _, _, rfl, SG⟩ ?_ ?_
    · rintro σ H' ⟨As, v6, v7, v8, v9, v10, rfl, s2⟩
      have M0 := s2.mn
      walk_at "sx"
      refine .a ⟨p, q, m3, 21, rfl, M0.dr, by omega, by decide, by decide, fun dd m4 G2 dd0 dd1 hm4 S4 fr4 => ?_⟩
      have M1 := M0.draw S4 fr4
      walk_at "sx"
      have hnn : (4 + dd).toNat ≤ 24 := by omega
      generalize (4 + dd).toNat = nn at hnn ⊢
      refine for_rng (lo := 0) (n := nn) (fun i σ H' => ∃ (v6 v7 v8 v9 v10 : Option V) (m : Int), σ = [some (.ref a), some (.ref p), some (.int bg), some (.ref ay), some (.ref ar), some (.ref ah), v6, v7, v8, v9, v10] ∧ Mn T H' [p, q, ay, ar, ah] p q ay ar ah As i m ∧ m ≤ 8 * (i : Int) + 3) ⟨_, _, _, _, _, _, rfl, M1, by omega⟩ ?_ ?_
      · rintro σ H' ⟨v6, v7, v8, v9, v10, m, rfl, M, hm⟩
        walk_at "sx"
        exact k _
      rintro R0 i σ H3 hi ⟨v6, v7, v8, v9, v10, m, rfl, M2, hm⟩ N hN
      walk_at "sx"
      refine .a ⟨p, q, m, 2, rfl, M2.dr, by omega, by decide, by decide, fun d m5 H4 e0 e1 hm5 S5 fr5 => ?_⟩
      have M3 := M2.draw S5 fr5
      obtain ⟨dn, rfl⟩ : ∃ dn : Nat, d = (dn : Int) := ⟨d.toNat, by omega⟩
      have hdn : dn < 2 := by omega
      walk_at "sx"
      refine ⟨ay, _, _, .ref (As dn).y, rfl, rfl, SqL.of M3.hy, at2 (f := fun j => V.ref (As j).y) hdn, ?_⟩
      walk_at "sx"
      refine ⟨ar, _, _, .ref (As dn).rd, rfl, rfl, SqL.of M3.hr, at2 (f := fun j => V.ref (As j).rd) hdn, ?_⟩
      walk_at "sx"
      refine ⟨ah, _, _, .ref (As dn).hd, rfl, rfl, SqL.of M3.hh, at2 (f := fun j => V.ref (As j).hd) hdn, ?_⟩
      walk_at "sx"
      obtain ⟨F, W, Y, sb, oX, go⟩ := M3.at_ hdn
      refine .a ⟨p, q, As dn, F, i, W, m5, rfl, Y, sb, by omega, M3.dr, by omega, fun b hb => ⟨fun z => oX b hb (by rw [z]; simp), fun z => oX b hb (by rw [z]; simp)⟩, fun H5 W5 m6 dch sb5 hm6 => ?_⟩
      obtain ⟨F5, Y5, hF5⟩ := dch.ex
      have M5 := go H5 F5 W5 (i + 1) m6 Y5 hF5 sb5 dch.fr (.inr rfl) dch.s
      clear go dch Y5 hF5 sb5 oX Y sb F W F5 W5
      walk_at "sx"
      intro D hD
      have nD : D ∉ [p, q, ay, ar, ah] := fun z => M5.tX D z hD
      have M6 := M5.add (o := .lst []) hD
      refine comp_rng (lo := 0) (fun j H6 => ∃ bs : List Bool, H6 D = some (.lst (bs.map V.bl)) ∧ bs.length = j ∧ (∀ b ∈ bs, b = true) ∧ Mn T H6 (D :: [p, q, ay, ar, ah]) p q ay ar ah As (i + 1) m6) ⟨[], upd_same, rfl, fun _ h => absurd h List.not_mem_nil, M6⟩ ?_ ?_
      · rintro H6 ⟨bs, hb, bl, ba, M7⟩
        walk_at "sx"
        refine ⟨D, bs, rfl, SqL.of hb, ?_⟩
        have hall : bs.all id = true := List.all_eq_true.mpr fun b hb => ba b hb
        rw [hall]
        walk_at "sx"
        show if (!true) = true then _ else _
        refine if_false_of rfl ?_
        walk_at "sx"
        show N _ _
        rw [hN]
        exact .a ⟨_, _, _, _, _, m6, rfl, M7.drop, by omega⟩
      rintro j H6 hj ⟨bs, hb, bl, ba, M7⟩ N2 hN2
      have hj2 : j < 2 := hj
      walk_at "sx"
      rw [Int.zero_add (j : Int)]
      refine ⟨ay, _, _, .ref (As j).y, rfl, rfl, SqL.of M7.hy, at2 (f := fun j => V.ref (As j).y) hj2, ?_⟩
      walk_at "sx"
      refine ⟨ar, _, _, .ref (As j).rd, rfl, rfl, SqL.of M7.hr, at2 (f := fun j => V.ref (As j).rd) hj2, ?_⟩
      walk_at "sx"
      obtain ⟨F, W, Y, sb, oX, go⟩ := M7.at_ hj2
      refine .a ⟨As j, F, i + 1, W, rfl, Y, sb, by omega, fun H7 W7 R => ?_⟩
      obtain ⟨F7, Y7, hF7⟩ := R.ex
      have sb7 : Stb W7 := by
        obtain ⟨a1, b1, rfl⟩ := R.vl
        exact ⟨sb.n, sb.f, sb.t⟩
      have M8 := go H7 F7 W7 (i + 1) m6 Y7 hF7 sb7 (fun b u nf _ _ e => R.fr b u nf e) (.inl rfl) (M7.dr.keep (fun u => R.fr p u fun z => oX p (.inl z) (by simp)) (fun u => R.fr q u fun z => oX q (.inl z) (by simp)))
      have hb7 := R.fr D _ (fun z => oX D (.inl z) List.mem_cons_self) hb
      refine ⟨_, hb7, by rw [List.length_map, bl]; exact Nat.lt_of_lt_of_le hj2 (by decide), ?_⟩
      rw [hN2]
      refine .a ⟨bs ++ [true], by rw [upd_same, List.map_append]; rfl, by rw [List.length_append, bl]; rfl, fun b hb => (List.mem_append.mp hb).elim (ba b) (fun z => List.mem_singleton.mp z), M8.put nD⟩
    · rintro R0 i σ H' hi ⟨As, v6, v7, v8, v9, v10, rfl, sg⟩ N hN
      walk_at "sx"
      rw [Int.zero_add]
      obtain ⟨S, ow, pr, dn⟩ := sg.ex
      obtain ⟨PR, PS⟩ := pr i (Nat.le_refl _) hi
      refine ⟨ay, _, _, .ref (ys i), rfl, rfl, SqL.of sg.hy, at2 (f := fun j => V.ref (ys j)) hi, ?_⟩
      have hl14 := PR.get 14 rfl
      have ne3 : (Yv i).hl ≠ ar ∧ (Yv i).hl ≠ ah ∧ ar ≠ ah := by
        have h1 := ow.off i hi _ (PS (Yv i).hl (List.mem_map_of_mem (f := fun e : Addr × HO => e.1) (List.mem_of_getElem? (show (GL T (ys i) (dys i) (.int (vv i)) (Yv i))[14]? = some ((Yv i).hl, _) from rfl))))
        have h2 := sg.nd
        simp only [List.nodup_cons, List.mem_cons, List.not_mem_nil, or_false, not_or] at h1 h2
        exact ⟨h1.2.2.2.1, h1.2.2.2.2, h2.2.2.2.1⟩
      have D0 := Bd.start hl14 sg.hr sg.hh ne3
      have ysX : ys i ≠ (Yv i).hl := nd_ne PR.nd (i := 0) (j := 14) rfl rfl (by decide)
      walk_at "sx"
      refine ⟨.inl ⟨rfl, _, SqL.of D0.gr⟩, ?_⟩
      intro rd rd0
      have D1 := D0.lay (o := .dK []) rd0
      generalize upd H' rd (.dK []) = H1 at D1 ⊢
      walk_at "sx"
      refine ⟨.inr ⟨by omega, by omega⟩, ?_⟩
      rw [show ((fun i j : Int => V.int (i * j)) bg (i : Int)) = V.int (vv i) from by rw [evv]]
      walk_at "sx"
      intro rf rf0
      have D2 := D1.lay (o := .dK []) rf0
      generalize upd H1 rf (.dK []) = H2 at D2 ⊢
      walk_at "sx"
      intro rt rt0
      have D3 := D2.lay (o := .dK []) rt0
      generalize upd H2 rt (.dK []) = H3 at D3 ⊢
      walk_at "sx"
      refine ⟨D3.get (i := 0) rfl, [(Sum.inr (SX.S kNow), V.int (vv i)), (Sum.inr (SX.S kFiles), V.ref rf), (Sum.inr (SX.S kTexts), V.ref rt)], rfl, Nat.le_of_ble_eq_true rfl, ?_⟩
      rw [merge3 (by decide) (by decide) (by decide)]
      have D4 := Bd.put (N1 := []) (N2 := [(rf, .dK []), (rt, .dK [])]) (o' := .dK [(Sum.inr (SX.S kNow), V.int (vv i)), (Sum.inr (SX.S kFiles), V.ref rf), (Sum.inr (SX.S kTexts), V.ref rt)]) D3
      generalize upd H3 rd (.dK [(Sum.inr (SX.S kNow), V.int (vv i)), (Sum.inr (SX.S kFiles), V.ref rf), (Sum.inr (SX.S kTexts), V.ref rt)]) = H4 at D4 ⊢
      walk_at "sx"
      refine ⟨_, _, _, rfl, rfl, D4.gr, by rw [List.length_map, List.length_range]; exact Nat.lt_of_lt_of_le hi (by decide), ?_⟩
      have D5 := D4.setr (rs' := ((List.range i).map fun j => V.ref (As j).rd) ++ [.ref rd])
      generalize upd H4 ar (.lst (((List.range i).map fun j => V.ref (As j).rd) ++ [.ref rd])) = H5 at D5 ⊢
      walk_at "sx"
      refine ⟨.inl ⟨rfl, _, SqL.of D5.gh⟩, ?_⟩
      walk_at "sx"
      intro ls ls0
      have D6 := D5.lay (o := .lst [.str (SX.S [111, 117, 116]), .str (SX.S []), .str (SX.S [101, 114, 114])]) ls0
      generalize upd H5 ls (.lst [.str (SX.S [111, 117, 116]), .str (SX.S []), .str (SX.S [101, 114, 114])]) = H6 at D6 ⊢
      walk_at "sx"
      have nXi : ∀ b ∈ (GL T (ys i) (dys i) (.int (vv i)) (Yv i)).map (·.1), b ≠ ar ∧ b ≠ ah := fun b hb => by
        have h1 := ow.off i hi _ (PS b hb)
        simp only [List.mem_cons, List.not_mem_nil, or_false, not_or] at h1
        exact ⟨h1.2.2.2.1, h1.2.2.2.2⟩
      have my : ys i ∈ (GL T (ys i) (dys i) (.int (vv i)) (Yv i)).map (·.1) := List.mem_cons_self
      have mro : (Yv i).ro ∈ (GL T (ys i) (dys i) (.int (vv i)) (Yv i)).map (·.1) := List.mem_map_of_mem (f := fun e : Addr × HO => e.1) (List.mem_of_getElem? (show (GL T (ys i) (dys i) (.int (vv i)) (Yv i))[9]? = some ((Yv i).ro, _) from rfl))
      have roX : (Yv i).ro ≠ (Yv i).hl := nd_ne PR.nd (i := 9) (j := 14) rfl rfl (by decide)
      have ky : ∀ {H9 : Hp} {hs rs as : List V} {N : List (Addr × HO)}, Bd H' H9 (Yv i).hl ar ah hs rs as N → H9 (ys i) = some (.ins T.C_Yard (dys i) (fYd (Yv i))) ∧ H9 (Yv i).ro = some (.ins T.C_Roster (Yv i).dro (fRo (Yv i).hl (Yv i).ld (Yv i).fl)) := fun d =>
        ⟨d.fr _ _ ysX (nXi _ my).1 (nXi _ my).2 (PR.get 0 rfl), d.fr _ _ roX (nXi _ mro).1 (nXi _ mro).2 (PR.get 9 rfl)⟩
      refine ⟨⟨_, SqL.of (D6.get (i := 3) rfl)⟩, fun D hD => ?_⟩
      refine lc_listN (xs := k3V) (fun n H9 => ∃ es : List He, es.map He.k = K3.take n ∧ Bd H' H9 (Yv i).hl ar ah ([.ref (Yv i).lr] ++ es.map fun e => V.ref e.x) (((List.range i).map fun j => V.ref (As j).rd) ++ [.ref rd]) ((List.range i).map fun j => V.ref (As j).hd)
        ([(rd, .dK [(Sum.inr (SX.S kNow), V.int (vv i)), (Sum.inr (SX.S kFiles), V.ref rf), (Sum.inr (SX.S kTexts), V.ref rt)]), (rf, .dK []), (rt, .dK []), (ls, .lst k3V)] ++ (D, .lst (es.map fun e => V.ref e.t)) :: es.flatMap (heO T (ys i))))
        ⟨[], rfl, D6.lay (o := .lst []) hD⟩ (fun n H9 _ ⟨es, _, d⟩ => SqL.of (d.get (i := 3) rfl)) ?_ ?_
      · rintro n v H9 hv ⟨es, ek, d⟩ N2 hN2
        obtain ⟨kk, hk, rfl⟩ : ∃ kk, K3[n]? = some kk ∧ V.str (SX.S kk) = v := txS_at (ls := K3) hv
        walk_at "sx"
        intro x dx x0 dx0 dne
        obtain ⟨hy9, hro9⟩ := ky d
        refine .a ⟨x, dx, ys i, T.C_Yard, dys i, (Yv i).ro, (Yv i).dro, (Yv i).hl, (Yv i).ld, (Yv i).fl, kk, fYd (Yv i), _, rfl, upd_same, mkH_old x0 dx0 hy9, T.o_Yard.cl, (by refine na_of T.o_Yard ?_; decide), rfl, (neN hy9 x0).symm, mkH_old x0 dx0 hro9, (neN hro9 x0).symm, mkH_old x0 dx0 d.gl, ?_, fun H10 fl x1 f1 f0 a1 sY => ⟨rfl, ?_⟩⟩
        · have q := congrArg List.length ek
          rw [List.length_map] at q
          rw [List.length_append, List.length_map, q]
          have q2 : (K3.take n).length ≤ 3 := by rw [List.length_take]; exact Nat.min_le_right _ _
          exact Nat.lt_of_le_of_lt (Nat.add_le_add_left q2 _) (show 1 + 3 < sizeLine by decide)
        have d10 := d.made x0 dx0 x1 f1 f0 a1 sY
        walk_at "sx"
        intro t t0
        have d11 := d10.lay (o := .tup [.str (SX.S kk), .ref x]) t0
        generalize upd H10 t (.tup [.str (SX.S kk), .ref x]) = H11 at d11 ⊢
        refine ⟨_, d11.get (i := 4) rfl, ?_, ?_⟩
        · have q := congrArg List.length ek
          rw [List.length_map] at q
          rw [List.length_map, q]
          have q2 : (K3.take n).length ≤ 3 := by rw [List.length_take]; exact Nat.min_le_right _ _
          exact Nat.lt_of_le_of_lt q2 (by decide)
        have d12 := Bd.put (N1 := [(rd, .dK [(Sum.inr (SX.S kNow), V.int (vv i)), (Sum.inr (SX.S kFiles), V.ref rf), (Sum.inr (SX.S kTexts), V.ref rt)]), (rf, .dK []), (rt, .dK []), (ls, .lst k3V)]) (x := D) (o := .lst (es.map fun e => V.ref e.t)) (o' := .lst ((es.map fun e => V.ref e.t) ++ [V.ref t])) (N2 := (es.flatMap (heO T (ys i)) ++ [(x, .ins T.C_StreamHandler dx (fSh (ys i) fl kk)), (fl, .lst [])]) ++ [(t, .tup [.str (SX.S kk), .ref x])]) d11
        rw [hN2]
        refine ⟨es ++ [⟨kk, x, dx, fl, t⟩], ?_, ?_⟩
        · rw [List.map_append, ek, List.take_succ, hk]; rfl
        · rw [List.map_append, List.map_append, List.flatMap_append, ← List.append_assoc]
          rw [List.append_assoc (es.flatMap (heO T (ys i)))] at d12
          exact d12
      rintro H9 ⟨es, ek, d⟩

      obtain ⟨e0, e1, e2, rfl, h0, h1, h2⟩ := three (show es.map He.k = [kOut, [], kErr] from ek)
      obtain ⟨k0, X0, d0, F0, t0⟩ := e0
      obtain ⟨k1, X1, d1, F1, t1⟩ := e1
      obtain ⟨k2, X2, d2, F2, t2⟩ := e2
      obtain rfl : k0 = kOut := h0
      obtain rfl : k1 = [] := h1
      obtain rfl : k2 = kErr := h2
      walk_at "sx"
      refine ⟨D, [t0, t1, t2], [(Sum.inr (SX.S kOut), .ref X0), (Sum.inr (SX.S []), .ref X1), (Sum.inr (SX.S kErr), .ref X2)], rfl, SqL.of (d.get (i := 4) rfl), .cons (SqT.of (d.get (i := 7) rfl)) (.cons (SqT.of (d.get (i := 10) rfl)) (.cons (SqT.of (d.get (i := 13) rfl)) .nil)), fun hd hd0 => ?_⟩
      rw [merge3 (by decide) (by decide) (by decide)]
      have D8 := d.lay (o := .dK [(Sum.inr (SX.S kOut), .ref X0), (Sum.inr (SX.S []), .ref X1), (Sum.inr (SX.S kErr), .ref X2)]) hd0
      generalize upd H9 hd (.dK [(Sum.inr (SX.S kOut), .ref X0), (Sum.inr (SX.S []), .ref X1), (Sum.inr (SX.S kErr), .ref X2)]) = H10 at D8 ⊢
      walk_at "sx"
      refine ⟨_, _, _, rfl, rfl, D8.gh, by rw [List.length_map, List.length_range]; exact Nat.lt_of_lt_of_le hi (by decide), ?_⟩
      have D9 := D8.seth (as' := ((List.range i).map fun j => V.ref (As j).hd) ++ [.ref hd])
      generalize upd H10 ah (.lst (((List.range i).map fun j => V.ref (As j).hd) ++ [.ref hd])) = H11 at D9 ⊢
      walk_at "sx"
      intro x dx x0 dx0 dne
      obtain ⟨hy9, hro9⟩ := ky D9
      refine .a ⟨x, dx, ys i, T.C_Yard, dys i, (Yv i).ro, (Yv i).dro, (Yv i).hl, (Yv i).ld, (Yv i).fl, [102], fYd (Yv i), _, rfl, upd_same, mkH_old x0 dx0 hy9, T.o_Yard.cl, (by refine na_of T.o_Yard ?_; decide), rfl, (neN hy9 x0).symm, mkH_old x0 dx0 hro9, (neN hro9 x0).symm, mkH_old x0 dx0 D9.gl, Nat.le_of_ble_eq_true rfl, fun H12 fl x1 f1 f0 a1 sY => ⟨rfl, ?_⟩⟩
      have D10 := D9.made x0 dx0 x1 f1 f0 a1 sY
      walk_at "sx"
      refine ⟨ah, _, _, .ref hd, rfl, rfl, SqL.of D10.gh, at2h hi, ?_⟩
      walk_at "sx"
      refine ⟨hd, _, rfl, DPut.k (k := Sum.inr (SX.S [102])) (D10.get (i := 14) rfl) (Nat.le_of_ble_eq_true rfl), ?_⟩
      rw [put4 (by decide) (by decide) (by decide)]
      walk_at "sx"

      have D11 := Bd.put (N1 := [(rd, .dK [(Sum.inr (SX.S kNow), V.int (vv i)), (Sum.inr (SX.S kFiles), V.ref rf), (Sum.inr (SX.S kTexts), V.ref rt)]), (rf, .dK []), (rt, .dK []), (ls, .lst k3V), (D, .lst [V.ref t0, V.ref t1, V.ref t2]),
        (X0, .ins T.C_StreamHandler d0 (fSh (ys i) F0 kOut)), (F0, .lst []), (t0, .tup [.str (SX.S kOut), .ref X0]), (X1, .ins T.C_StreamHandler d1 (fSh (ys i) F1 [])), (F1, .lst []), (t1, .tup [.str (SX.S []), .ref X1]), (X2, .ins T.C_StreamHandler d2 (fSh (ys i) F2 kErr)), (F2, .lst []), (t2, .tup [.str (SX.S kErr), .ref X2])])
        (x := hd) (o' := .dK [(Sum.inr (SX.S kOut), .ref X0), (Sum.inr (SX.S []), .ref X1), (Sum.inr (SX.S kErr), .ref X2), (Sum.inr (SX.S [102]), .ref x)]) (N2 := [(x, .ins T.C_FileHandler dx (fFh (ys i) fl [10] [102] false)), (fl, .lst [])]) D10
      show N _ _
      rw [hN]
      exact .a ⟨_, _, _, _, _, _, rfl, Sg.next sg hi ⟨ys i, dys i, X0, d0, F0, X1, d1, F1, X2, d2, F2, x, dx, fl, hd, rd, rf, rt, Yv i⟩ rfl rfl rfl D11⟩
end
end My

/-! the head by facts: what the top leaves, read off by Bools in the kernel -/
namespace HdF
open PySem PySem.Spec PyProof.Rows L2 He SuX
/-! ### defs with super() -/
structure SupE where
  C : Str
  m : Str
  qual : Str
  st : Stmt
  dfl : List Dv := []
abbrev WS : Type := Option (Str × Str × Arguments × FuncBody × Scope × Addr × List Str × Addr)
def wS (K : PySem.W.Frag) (p : Str × Option Str) : WS := match K.lookup (fAd K p) with
  | some ⟨_, _, .func fd, _⟩ => some (fd.name, fd.qualname, fd.params, fd.body, fd.scope, fd.globals, fd.closure.map (·.1), fd.builtins)
  | _ => none
def SupE.val (d : SupE) : WS := some (d.m, d.qual, defArgs d.st, .stmts (defBody d.st), defScope d.st, mainGlobals, ["__class__"], builtinsNs)
def cellB (K : PySem.W.Frag) (D : Addr) : List (Str × Addr) → Bool
  | [(_, cc)] => (match K.lookup cc with
    | some ⟨_, _, .cell (some (.ref E)), _⟩ => decide (E = D)
    | _ => false)
  | _ => false
def fileB (K : PySem.W.Frag) (file : Str) (cd : Value) : Bool := match cd with
  | .ref cda => (match K.lookup cda with
    | some ⟨_, _, .fields vs, _⟩ => (match (vs[2]? : Option Value) with
      | some (.str y _) => decide (y = file)
      | _ => false)
    | _ => false)
  | _ => false
def SupE.ok (file : Str) (d : SupE) (K : PySem.W.Frag) : Bool := PySem.W.keepIn K (.ref (fAd K (d.C, some d.m))) && ((PySem.W.clsIn K (ga K d.C)).isSome && (match K.lookup (fAd K (d.C, some d.m)) with
  | some ⟨_, _, .func fd, _⟩ => PySem.W.codeIn K fd.code d.qual && (cellB K (ga K d.C) fd.closure && (fileB K file fd.code && dflB K fd.defaults (d.dfl.map (Dv.v K))))
  | _ => false))
theorem cellB_ok {K : PySem.W.Frag} {D : Addr} {l : List (Str × Addr)} (h : cellB K D l = true) : ∃ y cc cl cld csl, l = [(y, cc)] ∧ K.lookup cc = some ⟨cl, cld, .cell (some (.ref D)), csl⟩ := by
  match l, h with
  | [(y, cc)], h =>
    have h1 : (match K.lookup cc with
      | some ⟨_, _, .cell (some (.ref E)), _⟩ => decide (E = D)
      | _ => false) = true := h
    split at h1
    · rename_i cl cld E csl q
      have e := of_decide_eq_true h1
      subst e
      exact ⟨y, cc, _, _, _, rfl, q⟩
    · cases h1
theorem fileB_ok {K : PySem.W.Frag} {file : Str} {cd : Value} (h : fileB K file cd = true) : ∃ cda cl cld vs csl t, cd = .ref cda ∧ K.lookup cda = some ⟨cl, cld, .fields vs, csl⟩ ∧ vs[2]? = some (.str file t) := by
  unfold fileB at h
  split at h
  · split at h
    · split at h
      · rename_i q _ y t q2
        have e := of_decide_eq_true h
        subst e
        exact ⟨_, _, _, _, _, t, rfl, q, q2⟩
      · cases h
    · cases h
  · cases h
/-- .. its defaults -/
structure SupDf (K : PySem.W.Frag) (m qual : Str) (st : Stmt) (dvs : List V) (fd : FuncData) : Prop where
  ex : ∃ (cc cda : Addr) (dV kV doc pm ct : Value) (an : Option Addr), fd = PySem.W.fnX m qual (defArgs st) (defBody st) (defScope st) [("__class__", cc)] dV kV doc pm an (.ref cda) ct ∧ DflV K dV dvs
theorem SupDf.bindsN {K : PySem.W.Frag} {m qual : Str} {st : Stmt} {fd : FuncData} {ps : List Str} (F : SupDf K m qual st [] fd)
    (h : ∀ (cc cda : Addr) (kV doc pm ct : Value) (an : Option Addr) (us : List Value), us.length = ps.length → bindArgs (PySem.W.fnX m qual (defArgs st) (defBody st) (defScope st) [("__class__", cc)] .none kV doc pm an (.ref cda) ct) ⟨us, []⟩ = pure (ps.zip us)) : Binds K fd ps [] := by
  obtain ⟨cc, cda, dV, kV, doc, pm, ct, an, rfl, hD⟩ := F.ex
  rcases hD with ⟨_, rfl⟩ | ⟨e, _⟩
  · exact .all (h cc cda kV doc pm ct an)
  · exact absurd rfl e
theorem SupDf.binds1 {K : PySem.W.Frag} {m qual : Str} {st : Stmt} {dvs : List V} {fd : FuncData} {ps : List Str} (F : SupDf K m qual st dvs fd) (n j : Nat) (hd : dvs ≠ []) (hn : n + (dvs.length - j) = ps.length)
    (h : ∀ (T cc cda : Addr) (kV doc pm ct : Value) (an : Option Addr) (us its : List Value), us.length = n → its.length = dvs.length →
      ∃ k, bindArgs (PySem.W.fnX m qual (defArgs st) (defBody st) (defScope st) [("__class__", cc)] (.ref T) kV doc pm an (.ref cda) ct) ⟨us, []⟩ = seqItems? (.ref T) >>= k ∧ k (some its.toArray) = pure (ps.zip (us ++ its.drop j))) : ∃ ds, Vals (dvs.drop j) ds ∧ Binds K fd ps ds := by
  obtain ⟨cc, cda, dV, kV, doc, pm, ct, an, rfl, hD⟩ := F.ex
  rcases hD with ⟨e, _⟩ | ⟨_, T, o, its, mm, rfl, lT, oT, rT⟩
  · exact absurd e hd
  · refine ⟨its.drop j, rT.drop j, fun s us X hlen => ?_⟩
    have l1 : its.length = dvs.length := rT.length.symm
    have l2 : us.length = n := by
      rw [List.length_append, List.length_drop, l1] at hlen
      omega
    obtain ⟨k, e1, e2⟩ := h T cc cda kV doc pm ct an us its l2 l1
    refine BindsTo.of_looks fun M => ?_
    rw [e1]
    exact looks_items X lT oT (.of_pure e2)
theorem SupE.supF {K : PySem.W.Frag} {file : Str} {d : SupE} (e : wS K (d.C, some d.m) = d.val) (c : d.ok file K = true) : ∃ fd, SupF K file d.m d.qual d.st (fAd K (d.C, some d.m)) fd (ga K d.C) ∧ SupDf K d.m d.qual d.st (d.dfl.map (Dv.v K)) fd := by
  obtain ⟨kp, c2⟩ := ba c
  obtain ⟨cs, c3⟩ := ba c2
  unfold wS at e
  cases q : K.lookup (fAd K (d.C, some d.m)) with
  | none =>
    rw [q] at c3
    cases c3
  | some o =>
    obtain ⟨oc, od, dt, osl⟩ := o
    rw [q] at c3 e
    cases dt with
    | func fd =>
      obtain ⟨n1, n2, n3, n4, n5, n6, n7, n8, n9, n10, n11, n12, n13, n14, n15⟩ := fd
      have e2 : @Eq (Option (Str × Str × Arguments × FuncBody × Scope × Addr × List Str × Addr)) (some (n1, n2, n3, n4, n5, n6, n7.map (·.1), n15)) (some (d.m, d.qual, defArgs d.st, FuncBody.stmts (defBody d.st), defScope d.st, mainGlobals, [("__class__" : Str)], builtinsNs)) := e
      simp only [Option.some.injEq, Prod.mk.injEq] at e2
      obtain ⟨h1, h2, h3, h4, h5, h6, h7, h8⟩ := e2
      subst h1 h2 h3 h4 h5 h6 h8
      have c4 : (PySem.W.codeIn K n13 d.qual && (cellB K (ga K d.C) n7 && (fileB K file n13 && dflB K n8 (d.dfl.map (Dv.v K))))) = true := c3
      obtain ⟨k1, k2⟩ := ba c4
      obtain ⟨k3, k45⟩ := ba k2
      obtain ⟨k4, k5⟩ := ba k45
      obtain ⟨y, cc, cl, cld, csl, rfl, hc⟩ := cellB_ok k3
      obtain ⟨cda, ccl, cdd, vs, ccs, t, rfl, hd, hv⟩ := fileB_ok k4
      have hy : y = ("__class__" : Str) := List.head_eq_of_cons_eq h7
      subst hy
      exact ⟨_, ⟨⟨oc, cl, ccl, od, cld, cdd, n8, n9, n10, n11, n12, cda, cc, n14, osl, csl, ccs, vs, t, rfl, q, k1, hc, hd, hv⟩, kp, cs⟩, ⟨cc, cda, n8, n9, n10, n11, n14, n12, rfl, dflB_ok k5⟩⟩
    | _ => cases c3
/-! ### what super() finds: the class at C, behind D, its method m, that of the class B -/
def eqS (a b : Option Bool) : Bool := decide (a = b)
def supB (D C B m : Str) (K : PySem.W.Frag) : Bool := (PySem.W.clsIn K (ga K C)).isSome && (decide (PySem.W.mroIn K (ga K C) (.ref (ga K D)) = some true) && (eqO (PySem.W.nsIn K PySem.cStatics "thirdparty.any") (some none) &&
  (eqO (PySem.W.ks_superIn K (ga K C) (ga K D) m) (some (some (.ref (fAd K (B, some m))))) && (decide (PySem.W.typeIn K (.ref (fAd K (B, some m))) = some (.type "function")) && PySem.W.fnIn K (fAd K (B, some m))))))
theorem supB_ok {D C B m : Str} {K : PySem.W.Frag} (h : supB D C B m K = true) : SupM K (ga K D) (ga K C) m (fAd K (B, some m)) := by
  obtain ⟨h1, h⟩ := ba h
  obtain ⟨h2, h⟩ := ba h
  obtain ⟨h3, h⟩ := ba h
  obtain ⟨h4, h⟩ := ba h
  obtain ⟨h5, h6⟩ := ba h
  exact ⟨h1, of_decide_eq_true h2, eqO_ok h3, eqO_ok h4, of_decide_eq_true h5, h6⟩
/-! ### classes, methods -/
def ocB (C : Str) (fs : List Str) (K : PySem.W.Frag) : Bool := (Fa.cls C).ok K && fs.all fun f => (Fa.noat C f).ok K
theorem ocB_ok {C : Str} {fs : List Str} {K : PySem.W.Frag} (h : ocB C fs K = true) : OC K (ga K C) fs := by
  obtain ⟨h1, h2⟩ := ba h
  exact ⟨cls_ok h1, fun f hf => eqO_ok (List.all_eq_true.mp h2 f hf)⟩
/-- a method that the class at C finds, that of the class B -/
def metB (C B m : Str) (K : PySem.W.Frag) : Bool := eqO (PySem.W.findIn K (.ref (ga K C)) m) (some (some (.ref (fAd K (B, some m))))) && (PySem.W.isFn K (.ref (fAd K (B, some m))) && PySem.W.keepIn K (.ref (fAd K (B, some m))))
theorem metB_ok {C B m : Str} {K : PySem.W.Frag} (h : metB C B m K = true) : Meth K (ga K C) m (fAd K (B, some m)) := by
  obtain ⟨h1, h⟩ := ba h
  obtain ⟨h2, h3⟩ := ba h
  exact ⟨eqO_ok h1, h2, h3⟩
def mkB (C : Str) (K : PySem.W.Frag) : Bool := PySem.W.makesIn K (ga K C) && (eqO (PySem.W.findIn K (.ref (ga K C)) "__init__") (some (some (.ref (fAd K (C, some "__init__"))))) && (PySem.W.isFn K (.ref (fAd K (C, some "__init__"))) && PySem.W.keepIn K (.ref (ga K C))))
theorem mkB_ok {C : Str} {K : PySem.W.Frag} (h : mkB C K = true) : Mk K (ga K C) (fAd K (C, some "__init__")) := by
  obtain ⟨h1, h⟩ := ba h
  obtain ⟨h2, h⟩ := ba h
  obtain ⟨h3, h4⟩ := ba h
  exact ⟨h1, eqO_ok h2, h3, h4⟩
/-! ### a def without defaults -/
theorem fun_of {K : PySem.W.Frag} {x qual : Str} {st : Stmt} {kws : List (Str × V)} {f : Addr} {fd : FuncData} (F : FunD K x qual (defArgs st) (defBody st) (defScope st) [] kws f fd) : Fun K x qual st f fd := by
  obtain ⟨oc, od, dV, kV, doc, pm, an, cdv, ct, osl, e, lk, hcd, hd, _⟩ := F.ex
  rcases hd with ⟨_, rfl⟩ | ⟨h, _⟩
  · exact ⟨⟨oc, od, kV, doc, pm, an, cdv, ct, osl, e, lk, hcd⟩, F.kp⟩
  · exact absurd rfl h
/-! ### own errors whose __init__ stores its one argument -/
/-- the qualified name of a class's __init__ -/
def qe (cn : Str) : Str := PySem.Str.append cn (".__init__" : Str)
def errW (cn f : Str) (p1 p2 q1 q2 q3 q4 : Pos) : FnW := some ("__init__", qe cn, My.eA f p1 p2, .stmts (My.eB f q1 q2 q3 q4), My.eS f, mainGlobals, [], builtinsNs)
def excB (K : PySem.W.Frag) (C : Addr) : Bool := match K.lookup C with
  | some ⟨.type c, _, .cls cd, sl⟩ => decide (c = "type") && (cd.hasDict && (!cd.hasDel && ((match cd.mro with
    | .ref C' :: bm => decide (C' = C) && PySem.HandSPX.refsVE bm
    | _ => false) && (match sl.toList with
    | [_, _, _, _, some (.builtin n), _] => decide (n = "ValueError.__new__")
    | _ => false))))
  | _ => false
theorem excB_ok {K : PySem.W.Frag} {C : Addr} (h : excB K C = true) : ∃ nm q N bs bm sn sub ab col dd k0 k1 k2 k3 k5,
    K.lookup C = some (excClassObj nm q C N bs bm true sn sub ab col dd k0 k1 k2 k3 k5 "ValueError.__new__") ∧ PySem.HandSPX.refsVE bm = true := by
  unfold excB at h
  split at h
  · rename_i c dd cd sl ho
    obtain ⟨h1, h⟩ := ba h
    obtain ⟨h2, h⟩ := ba h
    obtain ⟨h3, h⟩ := ba h
    obtain ⟨h4, h5⟩ := ba h
    split at h4
    · rename_i C' bm hm
      obtain ⟨h6, h7⟩ := ba h4
      split at h5
      · rename_i k0 k1 k2 k3 n k5 hs
        have e1 := of_decide_eq_true h1
        have e2 := of_decide_eq_true h6
        have e3 := of_decide_eq_true h5
        subst e1 e2 e3
        obtain ⟨nm, bs, mro, ns, qn, hd, sn, sub, ab, col, del⟩ := cd
        dsimp only at hm h2 h3
        subst hm h2
        have e4 : del = false := by
          cases del with
          | false => rfl
          | true => cases h3
        subst e4
        have hsl : sl = #[k0, k1, k2, k3, some (.builtin "ValueError.__new__"), k5] := by
          obtain ⟨l⟩ := sl
          simp only at hs
          rw [hs]
        subst hsl
        exact ⟨_, _, _, _, _, _, _, _, _, _, _, _, _, _, _, ho, h7⟩
      · cases h5
    · cases h4
  · cases h
def noneB : Value → Bool
  | .none => true
  | _ => false
theorem noneB_ok {v : Value} (h : noneB v = true) : v = .none := by
  cases v with
  | none => rfl
  | _ => cases h
def errB (cn f : Str) (K : PySem.W.Frag) : Bool := eqO (PySem.W.nsIn K mainGlobals cn) (some (some (.ref (ga K cn)))) && (excB K (ga K cn) && (eqO (PySem.W.findIn K (.ref (ga K cn)) "__setattr__") (some (some (.builtin "object.__setattr__"))) &&
  (eqO (PySem.W.findIn K (.ref (ga K cn)) "__getattribute__") (some (some (.builtin "BaseException.__getattribute__"))) && (eqO (PySem.W.findIn K (.ref (ga K cn)) "__getattr__") (some none) && (eqO (PySem.W.findIn K (.ref (ga K cn)) f) (some none) &&
  (eqO (PySem.W.findIn K (.ref (ga K cn)) "__init__") (some (some (.ref (fAd K (cn, some "__init__"))))) && (decide (PySem.W.typeIn K (.ref (fAd K (cn, some "__init__"))) = some (.type "function")) && (PySem.W.keepIn K (.ref (ga K cn)) &&
  (decide (PySem.W.subIn K (.ref (ga K cn)) (.type "BaseException") = some true) && (decide (PySem.W.typeIn K (.ref (ga K cn)) = some (.type "type")) && (PySem.W.hasDictIn K (ga K cn) && (match K.lookup (fAd K (cn, some "__init__")) with
    | some ⟨_, _, .func fd, _⟩ => PySem.W.codeIn K fd.code (qe cn) && (noneB fd.defaults && noneB fd.kwdefaults)
    | _ => false))))))))))))
theorem errB_ok {cn f : Str} {K : PySem.W.Frag} {h : Heap} {mg : Str → Option Value} {p1 p2 q1 q2 q3 q4 : Pos} (X : K.In h) (G : h.Ns mainGlobals mg) (one : My.OneF f) (e : fnW K (cn, some "__init__") = errW cn f p1 p2 q1 q2 q3 q4) (c : errB cn f K = true) :
    My.ErrTxt K mg cn f (ga K cn) (fAd K (cn, some "__init__")) := by
  obtain ⟨c1, c⟩ := ba c
  obtain ⟨c2, c⟩ := ba c
  obtain ⟨c3, c⟩ := ba c
  obtain ⟨c4, c⟩ := ba c
  obtain ⟨c5, c⟩ := ba c
  obtain ⟨c6, c⟩ := ba c
  obtain ⟨c7, c⟩ := ba c
  obtain ⟨c8, c⟩ := ba c
  obtain ⟨c9, c⟩ := ba c
  obtain ⟨c10, c⟩ := ba c
  obtain ⟨c11, c⟩ := ba c
  obtain ⟨c12, c13⟩ := ba c
  refine ⟨one, PySem.W.mg_of X G (eqO_ok c1), excB_ok c2, eqO_ok c3, eqO_ok c4, eqO_ok c5, eqO_ok c6, eqO_ok c7, of_decide_eq_true c8, c9, of_decide_eq_true c10, of_decide_eq_true c11, c12, ?_⟩
  unfold fnW at e
  cases q : K.lookup (fAd K (cn, some "__init__")) with
  | none =>
    rw [q] at c13
    cases c13
  | some o =>
    obtain ⟨oc, od, dt, osl⟩ := o
    rw [q] at c13 e
    cases dt with
    | func fd =>
      obtain ⟨n1, n2, n3, n4, n5, n6, n7, n8, n9, n10, n11, n12, n13, n14, n15⟩ := fd
      have e2 : @Eq (Option (Str × Str × Arguments × FuncBody × Scope × Addr × List (Str × Addr) × Addr)) (some (n1, n2, n3, n4, n5, n6, n7, n15)) (some (("__init__" : Str), qe cn, My.eA f p1 p2, FuncBody.stmts (My.eB f q1 q2 q3 q4), My.eS f, mainGlobals, [], builtinsNs)) := e
      simp only [Option.some.injEq, Prod.mk.injEq] at e2
      obtain ⟨h1, h2, h3, h4, h5, h6, h7, h8⟩ := e2
      subst h1 h2 h3 h4 h5 h6 h7 h8
      have c14 : (PySem.W.codeIn K n13 (qe cn) && (noneB n8 && noneB n9)) = true := c13
      obtain ⟨k1, k2⟩ := ba c14
      obtain ⟨k3, k4⟩ := ba k2
      have e8 := noneB_ok k3
      have e9 := noneB_ok k4
      subst e8 e9
      exact ⟨oc, od, _, n10, n11, n12, n13, n14, osl, p1, p2, q1, q2, q3, q4, rfl, k1⟩
    | _ => cases c13
/-! ### a dict of the module whose keys are ints and texts -/
def keyW (e : DictEntry) : Option (Key × Int) := match e.key with
  | .int i _ => some (.inl i, e.hash)
  | .str x _ => some (.inr x, e.hash)
  | _ => none
def dicW2 (K : PySem.W.Frag) (a : Addr) : Option (List (Option (Key × Int))) := match K.lookup a with
  | some ⟨.type c, none, .dict es _, sl⟩ => (match decide (c = "dict") && (sl.isEmpty && !(a == sysModules)) with
    | true => some (es.toList.map keyW)
    | false => none)
  | _ => none
def dicV (w : World) (ks : List Key) : Option (List (Option (Key × Int))) := some (ks.map fun k => some (k, keyH w k))
def dicB (a : PySem.W.Frag → Addr) (vs : PySem.W.Frag → List V) (K : PySem.W.Frag) : Bool := match K.lookup (a K) with
  | some ⟨_, _, .dict es _, _⟩ => relAll (vs K) (es.toList.map (·.val))
  | _ => false
theorem keys_of {P : Program} {w : World} : ∀ {es : List DictEntry} {kvs : List (Key × V)}, es.map keyW = (kvs.map (·.1)).map (fun k => some (k, keyH w k)) → relAll (kvs.map (·.2)) (es.map (·.val)) = true →
    ∃ vs : List (Key × Value), KV kvs vs ∧ Pairs (mixKind P w) es vs ∧ vs.map (·.1) = kvs.map (·.1) ∧ ∀ e ∈ es, ∃ k, (mixKind P w).is k e.key = true ∧ e.hash = (mixKind P w).hash k
  | [], [], _, _ => ⟨[], .nil, .nil, rfl, fun _ h => absurd h List.not_mem_nil⟩
  | [], _ :: _, h, _ => by cases h
  | _ :: _, [], h, _ => by cases h
  | e :: es, kv :: kvs, h, h2 => by
    have h1 : keyW e :: es.map keyW = some (kv.1, keyH w kv.1) :: (kvs.map (·.1)).map (fun k => some (k, keyH w k)) := h
    injection h1 with h3 h4
    obtain ⟨h5, h6⟩ := ba (show (relB kv.2 e.val && relAll (kvs.map (·.2)) (es.map (·.val))) = true from h2)
    obtain ⟨vs, r, p, n, z⟩ := keys_of (P := P) h4 h6
    have hk : keyIs kv.1 e.key = true ∧ e.hash = keyH w kv.1 := by
      unfold keyW at h3
      split at h3
      · rename_i i t q
        obtain ⟨e1, e2⟩ := Prod.mk.inj (Option.some.inj h3)
        rw [← e1] at e2 ⊢
        rw [q]
        exact ⟨keyIs_int i t, e2⟩
      · rename_i x t q
        obtain ⟨e1, e2⟩ := Prod.mk.inj (Option.some.inj h3)
        rw [← e1] at e2 ⊢
        rw [q]
        exact ⟨keyIs_str x t, e2⟩
      · cases h3
    refine ⟨(kv.1, e.val) :: vs, .cons ⟨rfl, relB_ok h5⟩ r, .cons hk.1 rfl p, by rw [List.map_cons, List.map_cons, n], fun u hu => ?_⟩
    rcases List.mem_cons.mp hu with rfl | hu
    · exact ⟨kv.1, hk.1, hk.2⟩
    · exact z u hu
theorem dkc_of {P : Program} {w : World} {K : PySem.W.Frag} {a : PySem.W.Frag → Addr} {kvs : List (Key × V)} (h1 : dicW2 K (a K) = dicV w (kvs.map (·.1))) (h2 : dicB a (fun _ => kvs.map (·.2)) K = true) (nd : (kvs.map (·.1)).Nodup) (len : kvs.length ≤ sizeLine) : DKc K P w (a K) kvs := by
  unfold dicW2 at h1
  unfold dicB at h2
  split at h1
  · rename_i c es n sl ho
    rw [ho] at h2
    have h3 : (match decide (c = "dict") && (sl.isEmpty && !(a K == sysModules)) with
      | true => some (es.toList.map keyW)
      | false => none) = dicV w (kvs.map (·.1)) := h1
    cases z : decide (c = "dict") && (sl.isEmpty && !(a K == sysModules)) with
    | false =>
      rw [z] at h3
      cases h3
    | true =>
      rw [z] at h3
      obtain ⟨z1, z2⟩ := ba z
      obtain ⟨z3, z4⟩ := ba z2
      have e1 : c = "dict" := of_decide_eq_true z1
      have e2 : sl = #[] := Array.isEmpty_iff.mp z3
      have e3 : (a K == sysModules) = false := by
        cases y : a K == sysModules with
        | false => rfl
        | true =>
          rw [y] at z4
          cases z4
      subst e1 e2
      obtain ⟨vs, r, p, nn, k⟩ := keys_of (P := P) (w := w) (Option.some.inj h3) h2
      refine ⟨len, e3, vs, r, fun h hk => ⟨_, es, n, hk _ _ ho, ⟨rfl, rfl, rfl⟩, rfl, fun e he => k e (Array.mem_toList_iff.mpr he), p, by rw [nn]; exact nd⟩⟩
  · cases h1
/-! ### an empty tuple that is a def's default -/
def tup0B (a : PySem.W.Frag → Addr) (K : PySem.W.Frag) : Bool := match K.lookup (a K) with
  | some ⟨.type c, _, .seq its _, _⟩ => decide (c = "tuple") && its.isEmpty
  | _ => false
theorem tup0_ok {a : PySem.W.Frag → Addr} {K : PySem.W.Frag} (h : tup0B a K = true) : ∃ eO eN eS, K.lookup (a K) = some ⟨.type "tuple", eO, .seq #[] eN, eS⟩ := by
  unfold tup0B at h
  split at h
  · rename_i c eO its n sl ho
    obtain ⟨h1, h2⟩ := ba h
    have e1 := of_decide_eq_true h1
    have e2 := Array.isEmpty_iff.mp h2
    subst e1 e2
    exact ⟨_, _, _, ho⟩
  · cases h
theorem nil_of {K : PySem.W.Frag} {fd : FuncData} {ps : List Str} (h : ∃ ds, Vals ([] : List V) ds ∧ Binds K fd ps ds) : Binds K fd ps [] := by
  obtain ⟨ds, hv, hb⟩ := h
  cases hv
  exact hb
/-! ### the Hook -/
abbrev AlF : Type := Bool × (List FnW × (List WS × List (Option (List (Option (Key × Int))))))
structure Fs where
  fs : List (PySem.W.Frag → Bool)
  fw : List ((Str × Option Str) × FnW)
  sw : List SupE
  dw : List (Str × List Key)
def obsF (F : Fs) (K : PySem.W.Frag) : AlF := (F.fs.all fun f => f K, (F.fw.map fun p => fnW K p.1, (F.sw.map fun d => wS K (d.C, some d.m), F.dw.map fun d => dicW2 K (ga K d.1))))
def valF (F : Fs) (w : World) : AlF := (true, (F.fw.map (·.2), (F.sw.map SupE.val, F.dw.map fun d => dicV w d.2)))
def SaysF (F : Fs) (w : World) (K : PySem.W.Frag) : Prop := obsF F K = valF F w
def obsFG (as : List Addr) (F : Fs) (g : Addr → Option Obj) : AlF := obsF F (frG g as)
def hookF (as : List Addr) (F : Fs) : PySem.W.Hook where
  α := AlF
  obs := fun s => obsFG as F s.heap.get?
  val := fun w => valF F w
  says := fun w h => ∃ K : PySem.W.Frag, K.In h ∧ SaysF F w K
  of := fun _ _ e => ⟨_, frG_in, e⟩
  keeps := fun _ _ _ ⟨K, hK, c⟩ k => ⟨K, PySem.W.Frag.In.keeps hK k, c⟩
theorem obsFG_eq {as : List Addr} {F : Fs} {g : Addr → Option Obj} {s : Shared} (h : ∀ a, g a = s.heap.get? a) : obsFG as F g = (hookF as F).obs s := by
  have e : g = s.heap.get? := funext h
  rw [e] <;> rfl
section
variable {F : Fs} {w : World} {K : PySem.W.Frag}
theorem SaysF.fact (c : SaysF F w K) (i : Nat) {f : PySem.W.Frag → Bool} (h : F.fs[i]? = some f) : f K = true :=
  List.all_eq_true.mp (show (F.fs.all fun f => f K) = true from congrArg (fun z : AlF => z.1) c) f (List.mem_of_getElem? h)
theorem SaysF.fnw (c : SaysF F w K) (i : Nat) {p : (Str × Option Str) × FnW} (h : F.fw[i]? = some p) : fnW K p.1 = p.2 := by
  have e : F.fw.map (fun p => fnW K p.1) = F.fw.map (·.2) := congrArg (fun z : AlF => z.2.1) c
  have e2 : (F.fw.map fun p => fnW K p.1)[i]? = (F.fw.map (·.2))[i]? := by rw [e]
  rw [List.getElem?_map, List.getElem?_map, h] at e2
  exact Option.some.inj e2
theorem SaysF.sup (c : SaysF F w K) (i : Nat) {d : SupE} (h : F.sw[i]? = some d) : wS K (d.C, some d.m) = d.val := by
  have e : F.sw.map (fun d => wS K (d.C, some d.m)) = F.sw.map SupE.val := congrArg (fun z : AlF => z.2.2.1) c
  have e2 : (F.sw.map fun d => wS K (d.C, some d.m))[i]? = (F.sw.map SupE.val)[i]? := by rw [e]
  rw [List.getElem?_map, List.getElem?_map, h] at e2
  exact Option.some.inj e2
theorem SaysF.dic (c : SaysF F w K) (i : Nat) {d : Str × List Key} (h : F.dw[i]? = some d) : dicW2 K (ga K d.1) = dicV w d.2 := by
  have e : F.dw.map (fun d => dicW2 K (ga K d.1)) = F.dw.map (fun d => dicV w d.2) := congrArg (fun z : AlF => z.2.2.2) c
  have e2 : (F.dw.map fun d => dicW2 K (ga K d.1))[i]? = (F.dw.map fun d => dicV w d.2)[i]? := by rw [e]
  rw [List.getElem?_map, List.getElem?_map, h] at e2
  exact Option.some.inj e2
end
end HdF

namespace My
open PySem PySem.Spec PyProof.Rows L2 SuX _root_.He HdF
theorem oneF_mode : OneF "mode" := ⟨by intros; rfl, by intros; rfl, by decide +kernel, by decide +kernel, by intros; rfl, by intros; rfl, by intros; rfl, by intros; rfl⟩
theorem oneF_name : OneF "name" := ⟨by intros; rfl, by intros; rfl, by decide +kernel, by decide +kernel, by intros; rfl, by intros; rfl, by intros; rfl, by intros; rfl⟩
def theFile : Str := PySem.Challenge.pw_recordyard_k15_clocks_streams_and_files.main.file
def dd__wall : _root_.He.DefD := ⟨("_wall", none), "_wall", "_wall", defArgs s__wall, defBody s__wall, defScope s__wall, [], []⟩
def dd_is_integer : _root_.He.DefD := ⟨("is_integer", none), "is_integer", "is_integer", defArgs s_is_integer, defBody s_is_integer, defScope s_is_integer, [], []⟩
def dd_own_copy : _root_.He.DefD := ⟨("own_copy", none), "own_copy", "own_copy", defArgs s_own_copy, defBody s_own_copy, defScope s_own_copy, [], []⟩
def dd_filled : _root_.He.DefD := ⟨("filled", none), "filled", "filled", defArgs s_filled, defBody s_filled, defScope s_filled, [], []⟩
def dd_made_record : _root_.He.DefD := ⟨("made_record", none), "made_record", "made_record", defArgs s_made_record, defBody s_made_record, defScope s_made_record, [.adr (dflAt ("made_record", none) 0), .non], []⟩
def dd_through_one : _root_.He.DefD := ⟨("through_one", none), "through_one", "through_one", defArgs s_through_one, defBody s_through_one, defScope s_through_one, [], []⟩
def dd_through_all : _root_.He.DefD := ⟨("through_all", none), "through_all", "through_all", defArgs s_through_all, defBody s_through_all, defScope s_through_all, [], []⟩
def dd_is_mode : _root_.He.DefD := ⟨("is_mode", none), "is_mode", "is_mode", defArgs s_is_mode, defBody s_is_mode, defScope s_is_mode, [], []⟩
def dd__law_draw : _root_.He.DefD := ⟨("_law_draw", none), "_law_draw", "_law_draw", defArgs s__law_draw, defBody s__law_draw, defScope s__law_draw, [], []⟩
def dd__law_pick : _root_.He.DefD := ⟨("_law_pick", none), "_law_pick", "_law_pick", defArgs s__law_pick, defBody s__law_pick, defScope s__law_pick, [], []⟩
def dd__law_same : _root_.He.DefD := ⟨("_law_same", none), "_law_same", "_law_same", defArgs s__law_same, defBody s__law_same, defScope s__law_same, [], []⟩
def dd__law_yard_right : _root_.He.DefD := ⟨("_law_yard_right", none), "_law_yard_right", "_law_yard_right", defArgs s__law_yard_right, defBody s__law_yard_right, defScope s__law_yard_right, [], []⟩
def dd__law_yard_deed : _root_.He.DefD := ⟨("_law_yard_deed", none), "_law_yard_deed", "_law_yard_deed", defArgs s__law_yard_deed, defBody s__law_yard_deed, defScope s__law_yard_deed, [], []⟩
def dd_law : _root_.He.DefD := ⟨("law", none), "law", "law", defArgs s_law, defBody s_law, defScope s_law, [], []⟩
def dd_Clock___init__ : _root_.He.DefD := ⟨("Clock", some "__init__"), "__init__", "Clock.__init__", defArgs s_Clock___init__, defBody s_Clock___init__, defScope s_Clock___init__, [], []⟩
def dd_Clock_now : _root_.He.DefD := ⟨("Clock", some "now"), "now", "Clock.now", defArgs s_Clock_now, defBody s_Clock_now, defScope s_Clock_now, [], []⟩
def dd_Clock_advance : _root_.He.DefD := ⟨("Clock", some "advance"), "advance", "Clock.advance", defArgs s_Clock_advance, defBody s_Clock_advance, defScope s_Clock_advance, [], []⟩
def dd_LevelTable___init__ : _root_.He.DefD := ⟨("LevelTable", some "__init__"), "__init__", "LevelTable.__init__", defArgs s_LevelTable___init__, defBody s_LevelTable___init__, defScope s_LevelTable___init__, [], []⟩
def dd_LevelTable_level_name : _root_.He.DefD := ⟨("LevelTable", some "level_name"), "level_name", "LevelTable.level_name", defArgs s_LevelTable_level_name, defBody s_LevelTable_level_name, defScope s_LevelTable_level_name, [], []⟩
def dd_LevelTable_number : _root_.He.DefD := ⟨("LevelTable", some "number"), "number", "LevelTable.number", defArgs s_LevelTable_number, defBody s_LevelTable_number, defScope s_LevelTable_number, [], []⟩
def dd_LevelTable_knows : _root_.He.DefD := ⟨("LevelTable", some "knows"), "knows", "LevelTable.knows", defArgs s_LevelTable_knows, defBody s_LevelTable_knows, defScope s_LevelTable_knows, [], []⟩
def dd_Store___init__ : _root_.He.DefD := ⟨("Store", some "__init__"), "__init__", "Store.__init__", defArgs s_Store___init__, defBody s_Store___init__, defScope s_Store___init__, [], []⟩
def dd_Store_has : _root_.He.DefD := ⟨("Store", some "has"), "has", "Store.has", defArgs s_Store_has, defBody s_Store_has, defScope s_Store_has, [], []⟩
def dd_Store_put : _root_.He.DefD := ⟨("Store", some "put"), "put", "Store.put", defArgs s_Store_put, defBody s_Store_put, defScope s_Store_put, [], []⟩
def dd_Store_write : _root_.He.DefD := ⟨("Store", some "write"), "write", "Store.write", defArgs s_Store_write, defBody s_Store_write, defScope s_Store_write, [], []⟩
def dd_Store_take_away : _root_.He.DefD := ⟨("Store", some "take_away"), "take_away", "Store.take_away", defArgs s_Store_take_away, defBody s_Store_take_away, defScope s_Store_take_away, [], []⟩
def dd_Store_text : _root_.He.DefD := ⟨("Store", some "text"), "text", "Store.text", defArgs s_Store_text, defBody s_Store_text, defScope s_Store_text, [], []⟩
def dd_Store_length : _root_.He.DefD := ⟨("Store", some "length"), "length", "Store.length", defArgs s_Store_length, defBody s_Store_length, defScope s_Store_length, [], []⟩
def dd_Store_all_names : _root_.He.DefD := ⟨("Store", some "all_names"), "all_names", "Store.all_names", defArgs s_Store_all_names, defBody s_Store_all_names, defScope s_Store_all_names, [], []⟩
def dd_Store_contents : _root_.He.DefD := ⟨("Store", some "contents"), "contents", "Store.contents", defArgs s_Store_contents, defBody s_Store_contents, defScope s_Store_contents, [], []⟩
def dd_Written___init__ : _root_.He.DefD := ⟨("Written", some "__init__"), "__init__", "Written.__init__", defArgs s_Written___init__, defBody s_Written___init__, defScope s_Written___init__, [], []⟩
def dd_Written_grow : _root_.He.DefD := ⟨("Written", some "grow"), "grow", "Written.grow", defArgs s_Written_grow, defBody s_Written_grow, defScope s_Written_grow, [], []⟩
def dd_Written_whole : _root_.He.DefD := ⟨("Written", some "whole"), "whole", "Written.whole", defArgs s_Written_whole, defBody s_Written_whole, defScope s_Written_whole, [], []⟩
def dd_Roster___init__ : _root_.He.DefD := ⟨("Roster", some "__init__"), "__init__", "Roster.__init__", defArgs s_Roster___init__, defBody s_Roster___init__, defScope s_Roster___init__, [], []⟩
def dd_Roster_enter : _root_.He.DefD := ⟨("Roster", some "enter"), "enter", "Roster.enter", defArgs s_Roster_enter, defBody s_Roster_enter, defScope s_Roster_enter, [], []⟩
def dd_Handler___init__ : _root_.He.DefD := ⟨("Handler", some "__init__"), "__init__", "Handler.__init__", defArgs s_Handler___init__, defBody s_Handler___init__, defScope s_Handler___init__, [], []⟩
def dd_Handler_setTerminator : _root_.He.DefD := ⟨("Handler", some "setTerminator"), "setTerminator", "Handler.setTerminator", defArgs s_Handler_setTerminator, defBody s_Handler_setTerminator, defScope s_Handler_setTerminator, [], []⟩
def dd_Handler_filtered : _root_.He.DefD := ⟨("Handler", some "filtered"), "filtered", "Handler.filtered", defArgs s_Handler_filtered, defBody s_Handler_filtered, defScope s_Handler_filtered, [], []⟩
def dd_Handler_handle : _root_.He.DefD := ⟨("Handler", some "handle"), "handle", "Handler.handle", defArgs s_Handler_handle, defBody s_Handler_handle, defScope s_Handler_handle, [], []⟩
def dd_Handler_formatted : _root_.He.DefD := ⟨("Handler", some "formatted"), "formatted", "Handler.formatted", defArgs s_Handler_formatted, defBody s_Handler_formatted, defScope s_Handler_formatted, [], []⟩
def dd_Handler_line : _root_.He.DefD := ⟨("Handler", some "line"), "line", "Handler.line", defArgs s_Handler_line, defBody s_Handler_line, defScope s_Handler_line, [], []⟩
def dd_Logger___init__ : _root_.He.DefD := ⟨("Logger", some "__init__"), "__init__", "Logger.__init__", defArgs s_Logger___init__, defBody s_Logger___init__, defScope s_Logger___init__, [], []⟩
def dd_LoggerTree___init__ : _root_.He.DefD := ⟨("LoggerTree", some "__init__"), "__init__", "LoggerTree.__init__", defArgs s_LoggerTree___init__, defBody s_LoggerTree___init__, defScope s_LoggerTree___init__, [], []⟩
def se_StreamHandler___init__ : SupE := ⟨"StreamHandler", "__init__", "StreamHandler.__init__", s_StreamHandler___init__, [.str (SX.S [115, 116, 100, 101, 114, 114])]⟩
def se_StreamHandler_setTerminator : SupE := ⟨"StreamHandler", "setTerminator", "StreamHandler.setTerminator", s_StreamHandler_setTerminator, []⟩
def se_StreamHandler_filtered : SupE := ⟨"StreamHandler", "filtered", "StreamHandler.filtered", s_StreamHandler_filtered, []⟩
def se_StreamHandler_handle : SupE := ⟨"StreamHandler", "handle", "StreamHandler.handle", s_StreamHandler_handle, []⟩
def se_StreamHandler_formatted : SupE := ⟨"StreamHandler", "formatted", "StreamHandler.formatted", s_StreamHandler_formatted, []⟩
def dd_StreamHandler_emit : _root_.He.DefD := ⟨("StreamHandler", some "emit"), "emit", "StreamHandler.emit", defArgs s_StreamHandler_emit, defBody s_StreamHandler_emit, defScope s_StreamHandler_emit, [], []⟩
def se_FileHandler___init__ : SupE := ⟨"FileHandler", "__init__", "FileHandler.__init__", s_FileHandler___init__, [.str (SX.S [97]), .bl false]⟩
def dd_FileHandler_open_file : _root_.He.DefD := ⟨("FileHandler", some "open_file"), "open_file", "FileHandler.open_file", defArgs s_FileHandler_open_file, defBody s_FileHandler_open_file, defScope s_FileHandler_open_file, [], []⟩
def se_FileHandler_setTerminator : SupE := ⟨"FileHandler", "setTerminator", "FileHandler.setTerminator", s_FileHandler_setTerminator, []⟩
def se_FileHandler_filtered : SupE := ⟨"FileHandler", "filtered", "FileHandler.filtered", s_FileHandler_filtered, []⟩
def se_FileHandler_handle : SupE := ⟨"FileHandler", "handle", "FileHandler.handle", s_FileHandler_handle, []⟩
def se_FileHandler_formatted : SupE := ⟨"FileHandler", "formatted", "FileHandler.formatted", s_FileHandler_formatted, []⟩
def dd_FileHandler_emit : _root_.He.DefD := ⟨("FileHandler", some "emit"), "emit", "FileHandler.emit", defArgs s_FileHandler_emit, defBody s_FileHandler_emit, defScope s_FileHandler_emit, [], []⟩
def dd_LogRecord___init__ : _root_.He.DefD := ⟨("LogRecord", some "__init__"), "__init__", "LogRecord.__init__", defArgs s_LogRecord___init__, defBody s_LogRecord___init__, defScope s_LogRecord___init__, [], []⟩
def dd_LogRecord_message : _root_.He.DefD := ⟨("LogRecord", some "message"), "message", "LogRecord.message", defArgs s_LogRecord_message, defBody s_LogRecord_message, defScope s_LogRecord_message, [], []⟩
def dd_Yard___init__ : _root_.He.DefD := ⟨("Yard", some "__init__"), "__init__", "Yard.__init__", defArgs s_Yard___init__, defBody s_Yard___init__, defScope s_Yard___init__, [.int 0], []⟩
def dd_Yard_now : _root_.He.DefD := ⟨("Yard", some "now"), "now", "Yard.now", defArgs s_Yard_now, defBody s_Yard_now, defScope s_Yard_now, [], []⟩
def dd_Yard_advance : _root_.He.DefD := ⟨("Yard", some "advance"), "advance", "Yard.advance", defArgs s_Yard_advance, defBody s_Yard_advance, defScope s_Yard_advance, [], []⟩
def dd_Yard_text : _root_.He.DefD := ⟨("Yard", some "text"), "text", "Yard.text", defArgs s_Yard_text, defBody s_Yard_text, defScope s_Yard_text, [], []⟩
def dd_Yard_put_file : _root_.He.DefD := ⟨("Yard", some "put_file"), "put_file", "Yard.put_file", defArgs s_Yard_put_file, defBody s_Yard_put_file, defScope s_Yard_put_file, [], []⟩
def dd_Yard_remove_file : _root_.He.DefD := ⟨("Yard", some "remove_file"), "remove_file", "Yard.remove_file", defArgs s_Yard_remove_file, defBody s_Yard_remove_file, defScope s_Yard_remove_file, [], []⟩
def dd_Yard_make_record : _root_.He.DefD := ⟨("Yard", some "make_record"), "make_record", "Yard.make_record", defArgs s_Yard_make_record, defBody s_Yard_make_record, defScope s_Yard_make_record, [.adr (dflAt ("Yard", some "make_record") 0), .non], []⟩
def dd_Yard_streams : _root_.He.DefD := ⟨("Yard", some "streams"), "streams", "Yard.streams", defArgs s_Yard_streams, defBody s_Yard_streams, defScope s_Yard_streams, [], []⟩
def dd_Yard_files : _root_.He.DefD := ⟨("Yard", some "files"), "files", "Yard.files", defArgs s_Yard_files, defBody s_Yard_files, defScope s_Yard_files, [], []⟩
def fsL0 : List (PySem.W.Frag → Bool) := [(Fa.free "all").ok, (Fa.free "bool").ok, (Fa.free "dict").ok, (Fa.free "int").ok, (Fa.free "isinstance").ok, (Fa.free "len").ok, (Fa.free "list").ok, (Fa.free "range").ok, (Fa.free "sorted").ok, (Fa.free "str").ok, (Fa.free "super").ok, (Fa.free "tuple").ok, (Fa.free "zip").ok, (fun K => _root_.He.DefD.ok K dd__wall), (Fa.glo "_wall").ok, (fun K => _root_.He.DefD.ok K dd_is_integer), (Fa.glo "is_integer").ok, (fun K => _root_.He.DefD.ok K dd_own_copy), (Fa.glo "own_copy").ok, (fun K => _root_.He.DefD.ok K dd_filled), (Fa.glo "filled").ok, (fun K => _root_.He.DefD.ok K dd_made_record), (Fa.glo "made_record").ok, (fun K => _root_.He.DefD.ok K dd_through_one), (Fa.glo "through_one").ok, (fun K => _root_.He.DefD.ok K dd_through_all), (Fa.glo "through_all").ok, (fun K => _root_.He.DefD.ok K dd_is_mode), (Fa.glo "is_mode").ok, (fun K => _root_.He.DefD.ok K dd__law_draw)]
def fsL1 : List (PySem.W.Frag → Bool) := [(Fa.glo "_law_draw").ok, (fun K => _root_.He.DefD.ok K dd__law_pick), (Fa.glo "_law_pick").ok, (fun K => _root_.He.DefD.ok K dd__law_same), (Fa.glo "_law_same").ok, (fun K => _root_.He.DefD.ok K dd__law_yard_right), (Fa.glo "_law_yard_right").ok, (fun K => _root_.He.DefD.ok K dd__law_yard_deed), (Fa.glo "_law_yard_deed").ok, (fun K => _root_.He.DefD.ok K dd_law), (Fa.glo "law").ok, (Fa.glo "Clock").ok, ocB "Clock" ["shown"], (fun K => _root_.He.DefD.ok K dd_Clock___init__), mkB "Clock", (fun K => _root_.He.DefD.ok K dd_Clock_now), metB "Clock" "Clock" "now", (fun K => _root_.He.DefD.ok K dd_Clock_advance), metB "Clock" "Clock" "advance", (Fa.glo "LevelTable").ok, ocB "LevelTable" ["names", "numbers"], (fun K => _root_.He.DefD.ok K dd_LevelTable___init__), mkB "LevelTable", (fun K => _root_.He.DefD.ok K dd_LevelTable_level_name), metB "LevelTable" "LevelTable" "level_name", (fun K => _root_.He.DefD.ok K dd_LevelTable_number), metB "LevelTable" "LevelTable" "number", (fun K => _root_.He.DefD.ok K dd_LevelTable_knows), metB "LevelTable" "LevelTable" "knows", (Fa.glo "Store").ok]
def fsL2 : List (PySem.W.Frag → Bool) := [ocB "Store" ["clock", "kept"], (fun K => _root_.He.DefD.ok K dd_Store___init__), mkB "Store", (fun K => _root_.He.DefD.ok K dd_Store_has), metB "Store" "Store" "has", (fun K => _root_.He.DefD.ok K dd_Store_put), metB "Store" "Store" "put", (fun K => _root_.He.DefD.ok K dd_Store_write), metB "Store" "Store" "write", (fun K => _root_.He.DefD.ok K dd_Store_take_away), metB "Store" "Store" "take_away", (fun K => _root_.He.DefD.ok K dd_Store_text), metB "Store" "Store" "text", (fun K => _root_.He.DefD.ok K dd_Store_length), metB "Store" "Store" "length", (fun K => _root_.He.DefD.ok K dd_Store_all_names), metB "Store" "Store" "all_names", (fun K => _root_.He.DefD.ok K dd_Store_contents), metB "Store" "Store" "contents", (Fa.glo "Written").ok, ocB "Written" ["parts", "size", "time"], (fun K => _root_.He.DefD.ok K dd_Written___init__), mkB "Written", (fun K => _root_.He.DefD.ok K dd_Written_grow), metB "Written" "Written" "grow", (fun K => _root_.He.DefD.ok K dd_Written_whole), metB "Written" "Written" "whole", (Fa.glo "Roster").ok, ocB "Roster" ["handlers", "leading", "failed"], (fun K => _root_.He.DefD.ok K dd_Roster___init__)]
def fsL3 : List (PySem.W.Frag → Bool) := [mkB "Roster", (fun K => _root_.He.DefD.ok K dd_Roster_enter), metB "Roster" "Roster" "enter", (Fa.glo "Handler").ok, ocB "Handler" [], (fun K => _root_.He.DefD.ok K dd_Handler___init__), mkB "Handler", (fun K => _root_.He.DefD.ok K dd_Handler_setTerminator), metB "Handler" "Handler" "setTerminator", (fun K => _root_.He.DefD.ok K dd_Handler_filtered), metB "Handler" "Handler" "filtered", (fun K => _root_.He.DefD.ok K dd_Handler_handle), metB "Handler" "Handler" "handle", (fun K => _root_.He.DefD.ok K dd_Handler_formatted), metB "Handler" "Handler" "formatted", (fun K => _root_.He.DefD.ok K dd_Handler_line), metB "Handler" "Handler" "line", (Fa.glo "Logger").ok, ocB "Logger" ["tree", "yard", "name", "level", "propagate", "disabled", "handlers", "filters", "parent"], (fun K => _root_.He.DefD.ok K dd_Logger___init__), mkB "Logger", (Fa.glo "LoggerTree").ok, ocB "LoggerTree" ["yard", "levels", "clock", "last_resort", "barred", "named", "root"], (fun K => _root_.He.DefD.ok K dd_LoggerTree___init__), mkB "LoggerTree", (Fa.glo "StreamHandler").ok, ocB "StreamHandler" ["yard", "level", "formatter", "filters", "name", "terminator", "closed", "stream"], se_StreamHandler___init__.ok theFile, mkB "StreamHandler", se_StreamHandler_setTerminator.ok theFile]
def fsL4 : List (PySem.W.Frag → Bool) := [metB "StreamHandler" "StreamHandler" "setTerminator", se_StreamHandler_filtered.ok theFile, metB "StreamHandler" "StreamHandler" "filtered", se_StreamHandler_handle.ok theFile, metB "StreamHandler" "StreamHandler" "handle", se_StreamHandler_formatted.ok theFile, metB "StreamHandler" "StreamHandler" "formatted", (fun K => _root_.He.DefD.ok K dd_StreamHandler_emit), metB "StreamHandler" "StreamHandler" "emit", (Fa.glo "FileHandler").ok, ocB "FileHandler" ["yard", "level", "formatter", "filters", "name", "terminator", "closed", "filename", "mode", "delay", "opened"], se_FileHandler___init__.ok theFile, mkB "FileHandler", (fun K => _root_.He.DefD.ok K dd_FileHandler_open_file), metB "FileHandler" "FileHandler" "open_file", se_FileHandler_setTerminator.ok theFile, metB "FileHandler" "FileHandler" "setTerminator", se_FileHandler_filtered.ok theFile, metB "FileHandler" "FileHandler" "filtered", se_FileHandler_handle.ok theFile, metB "FileHandler" "FileHandler" "handle", se_FileHandler_formatted.ok theFile, metB "FileHandler" "FileHandler" "formatted", (fun K => _root_.He.DefD.ok K dd_FileHandler_emit), metB "FileHandler" "FileHandler" "emit", (Fa.glo "LogRecord").ok, ocB "LogRecord" ["name", "levelno", "levelname", "msg", "given", "created", "extra"], (fun K => _root_.He.DefD.ok K dd_LogRecord___init__), mkB "LogRecord", (fun K => _root_.He.DefD.ok K dd_LogRecord_message)]
def fsL5 : List (PySem.W.Frag → Bool) := [metB "LogRecord" "LogRecord" "message", (Fa.glo "Yard").ok, ocB "Yard" ["clock", "levels", "stream_store", "file_store", "roster", "tree", "root"], (fun K => _root_.He.DefD.ok K dd_Yard___init__), mkB "Yard", (fun K => _root_.He.DefD.ok K dd_Yard_now), metB "Yard" "Yard" "now", (fun K => _root_.He.DefD.ok K dd_Yard_advance), metB "Yard" "Yard" "advance", (fun K => _root_.He.DefD.ok K dd_Yard_text), metB "Yard" "Yard" "text", (fun K => _root_.He.DefD.ok K dd_Yard_put_file), metB "Yard" "Yard" "put_file", (fun K => _root_.He.DefD.ok K dd_Yard_remove_file), metB "Yard" "Yard" "remove_file", (fun K => _root_.He.DefD.ok K dd_Yard_make_record), metB "Yard" "Yard" "make_record", (fun K => _root_.He.DefD.ok K dd_Yard_streams), metB "Yard" "Yard" "streams", (fun K => _root_.He.DefD.ok K dd_Yard_files), metB "Yard" "Yard" "files", tup0B (dflAt ("Yard", some "make_record") 0), errB "BadMode" "mode", supB "StreamHandler" "StreamHandler" "Handler" "handle", supB "FileHandler" "FileHandler" "Handler" "setTerminator", supB "FileHandler" "FileHandler" "Handler" "filtered", supB "FileHandler" "FileHandler" "Handler" "handle", supB "FileHandler" "FileHandler" "Handler" "formatted", metB "FileHandler" "Handler" "line", supB "FileHandler" "FileHandler" "Handler" "__init__"]
def fsL6 : List (PySem.W.Frag → Bool) := [errB "BadExtra" "name", (Fa.glo "KEPT_NAMES").ok, (fun K => tupB K "KEPT_NAMES" (keptNames.map fun l => Dv.str (SX.S l))), errB "BadLevel" "level", (Fa.glo "FIRST_NAMES").ok, (Fa.glo "FIRST_NUMBERS").ok, (Fa.int "NOTSET" 0).ok, (Fa.int "WARNING" 30).ok, supB "StreamHandler" "StreamHandler" "Handler" "setTerminator", supB "StreamHandler" "StreamHandler" "Handler" "filtered", supB "StreamHandler" "StreamHandler" "Handler" "formatted", metB "StreamHandler" "Handler" "line", supB "StreamHandler" "StreamHandler" "Handler" "__init__", dicB (fun K => ga K "FIRST_NAMES") (fun _ => (firstNames).map (·.2)), dicB (fun K => ga K "FIRST_NUMBERS") (fun _ => (firstNumbers).map (·.2))]
def fsL : List (PySem.W.Frag → Bool) := fsL0 ++ fsL1 ++ fsL2 ++ fsL3 ++ fsL4 ++ fsL5 ++ fsL6
def fwL0 : List ((Str × Option Str) × FnW) := [(dd__wall.at_, dd__wall.val), (dd_is_integer.at_, dd_is_integer.val), (dd_own_copy.at_, dd_own_copy.val), (dd_filled.at_, dd_filled.val), (dd_made_record.at_, dd_made_record.val), (dd_through_one.at_, dd_through_one.val), (dd_through_all.at_, dd_through_all.val), (dd_is_mode.at_, dd_is_mode.val), (dd__law_draw.at_, dd__law_draw.val), (dd__law_pick.at_, dd__law_pick.val), (dd__law_same.at_, dd__law_same.val), (dd__law_yard_right.at_, dd__law_yard_right.val), (dd__law_yard_deed.at_, dd__law_yard_deed.val), (dd_law.at_, dd_law.val), (dd_Clock___init__.at_, dd_Clock___init__.val), (dd_Clock_now.at_, dd_Clock_now.val), (dd_Clock_advance.at_, dd_Clock_advance.val), (dd_LevelTable___init__.at_, dd_LevelTable___init__.val), (dd_LevelTable_level_name.at_, dd_LevelTable_level_name.val), (dd_LevelTable_number.at_, dd_LevelTable_number.val), (dd_LevelTable_knows.at_, dd_LevelTable_knows.val), (dd_Store___init__.at_, dd_Store___init__.val), (dd_Store_has.at_, dd_Store_has.val), (dd_Store_put.at_, dd_Store_put.val), (dd_Store_write.at_, dd_Store_write.val), (dd_Store_take_away.at_, dd_Store_take_away.val), (dd_Store_text.at_, dd_Store_text.val), (dd_Store_length.at_, dd_Store_length.val), (dd_Store_all_names.at_, dd_Store_all_names.val), (dd_Store_contents.at_, dd_Store_contents.val)]
def fwL1 : List ((Str × Option Str) × FnW) := [(dd_Written___init__.at_, dd_Written___init__.val), (dd_Written_grow.at_, dd_Written_grow.val), (dd_Written_whole.at_, dd_Written_whole.val), (dd_Roster___init__.at_, dd_Roster___init__.val), (dd_Roster_enter.at_, dd_Roster_enter.val), (dd_Handler___init__.at_, dd_Handler___init__.val), (dd_Handler_setTerminator.at_, dd_Handler_setTerminator.val), (dd_Handler_filtered.at_, dd_Handler_filtered.val), (dd_Handler_handle.at_, dd_Handler_handle.val), (dd_Handler_formatted.at_, dd_Handler_formatted.val), (dd_Handler_line.at_, dd_Handler_line.val), (dd_Logger___init__.at_, dd_Logger___init__.val), (dd_LoggerTree___init__.at_, dd_LoggerTree___init__.val), (dd_StreamHandler_emit.at_, dd_StreamHandler_emit.val), (dd_FileHandler_open_file.at_, dd_FileHandler_open_file.val), (dd_FileHandler_emit.at_, dd_FileHandler_emit.val), (dd_LogRecord___init__.at_, dd_LogRecord___init__.val), (dd_LogRecord_message.at_, dd_LogRecord_message.val), (dd_Yard___init__.at_, dd_Yard___init__.val), (dd_Yard_now.at_, dd_Yard_now.val), (dd_Yard_advance.at_, dd_Yard_advance.val), (dd_Yard_text.at_, dd_Yard_text.val), (dd_Yard_put_file.at_, dd_Yard_put_file.val), (dd_Yard_remove_file.at_, dd_Yard_remove_file.val), (dd_Yard_make_record.at_, dd_Yard_make_record.val), (dd_Yard_streams.at_, dd_Yard_streams.val), (dd_Yard_files.at_, dd_Yard_files.val), (("BadMode", some "__init__"), errW "BadMode" "mode" ⟨25, 17, 25, 21⟩ ⟨25, 23, 25, 27⟩ ⟨26, 8, 26, 12⟩ ⟨26, 8, 26, 17⟩ ⟨26, 20, 26, 24⟩ ⟨26, 8, 26, 24⟩), (("BadExtra", some "__init__"), errW "BadExtra" "name" ⟨13, 17, 13, 21⟩ ⟨13, 23, 13, 27⟩ ⟨14, 8, 14, 12⟩ ⟨14, 8, 14, 17⟩ ⟨14, 20, 14, 24⟩ ⟨14, 8, 14, 24⟩), (("BadLevel", some "__init__"), errW "BadLevel" "level" ⟨9, 17, 9, 21⟩ ⟨9, 23, 9, 28⟩ ⟨10, 8, 10, 12⟩ ⟨10, 8, 10, 18⟩ ⟨10, 21, 10, 26⟩ ⟨10, 8, 10, 26⟩)]
def fwL : List ((Str × Option Str) × FnW) := fwL0 ++ fwL1
def swL0 : List (SupE) := [se_StreamHandler___init__, se_StreamHandler_setTerminator, se_StreamHandler_filtered, se_StreamHandler_handle, se_StreamHandler_formatted, se_FileHandler___init__, se_FileHandler_setTerminator, se_FileHandler_filtered, se_FileHandler_handle, se_FileHandler_formatted]
def swL : List (SupE) := swL0
def dwL0 : List (Str × List Key) := [("FIRST_NAMES", (firstNames).map (·.1)), ("FIRST_NUMBERS", (firstNumbers).map (·.1))]
def dwL : List (Str × List Key) := dwL0
def FF : Fs := ⟨fsL, fwL, swL, dwL⟩
theorem facts {P : Program} {w : World} {K : PySem.W.Frag} {h : Heap} {mg : Str → Option Value} {fa : Addr} (X : K.In h) (G : h.Ns mainGlobals mg) (hfa : mg ("law" : Str) = some (.ref fa)) (c : SaysF FF w K) (hPf : ((P.main.file : Str) == theFile) = true) (hPt : (P.main.scope.names.lookup ("super" : Str)).isSome = false) :
    ∃ fd : FuncData, (∀ (s : Shared) (v : Value), BindsTo s fd ⟨[v], []⟩ [("_law_script", v)]) ∧ ∀ base : Heap, K.In base → base.Ns mainGlobals mg → FnOk P w K mg base CX0 10 fa fd ["_law_script"] (spLaw K) := by
  obtain ⟨fd__wall, F__wall⟩ := _root_.He.DefD.funD (d := dd__wall) (c.fnw 0 rfl) (c.fact 13 rfl)
  have F__wall : FunD K "_wall" "_wall" (defArgs s__wall) (defBody s__wall) (defScope s__wall) [] [] (fAd K ("_wall", none)) fd__wall := F__wall
  have B__wall : Binds K fd__wall ["k"] [] := FunD.bindsN F__wall fun _ _ _ _ _ _ us hl => match us, hl with | [_], _ => rfl
  obtain ⟨fd_is_integer, F_is_integer⟩ := _root_.He.DefD.funD (d := dd_is_integer) (c.fnw 1 rfl) (c.fact 15 rfl)
  have F_is_integer : FunD K "is_integer" "is_integer" (defArgs s_is_integer) (defBody s_is_integer) (defScope s_is_integer) [] [] (fAd K ("is_integer", none)) fd_is_integer := F_is_integer
  have B_is_integer : Binds K fd_is_integer ["thing"] [] := FunD.bindsN F_is_integer fun _ _ _ _ _ _ us hl => match us, hl with | [_], _ => rfl
  obtain ⟨fd_own_copy, F_own_copy⟩ := _root_.He.DefD.funD (d := dd_own_copy) (c.fnw 2 rfl) (c.fact 17 rfl)
  have F_own_copy : FunD K "own_copy" "own_copy" (defArgs s_own_copy) (defBody s_own_copy) (defScope s_own_copy) [] [] (fAd K ("own_copy", none)) fd_own_copy := F_own_copy
  have B_own_copy : Binds K fd_own_copy ["thing"] [] := FunD.bindsN F_own_copy fun _ _ _ _ _ _ us hl => match us, hl with | [_], _ => rfl
  obtain ⟨fd_filled, F_filled⟩ := _root_.He.DefD.funD (d := dd_filled) (c.fnw 3 rfl) (c.fact 19 rfl)
  have F_filled : FunD K "filled" "filled" (defArgs s_filled) (defBody s_filled) (defScope s_filled) [] [] (fAd K ("filled", none)) fd_filled := F_filled
  have B_filled : Binds K fd_filled ["msg", "given"] [] := FunD.bindsN F_filled fun _ _ _ _ _ _ us hl => match us, hl with | [_, _], _ => rfl
  obtain ⟨fd_made_record, F_made_record⟩ := _root_.He.DefD.funD (d := dd_made_record) (c.fnw 4 rfl) (c.fact 21 rfl)
  have F_made_record : FunD K "made_record" "made_record" (defArgs s_made_record) (defBody s_made_record) (defScope s_made_record) [.ref (dflAt ("made_record", none) 0 K), .non] [] (fAd K ("made_record", none)) fd_made_record := F_made_record
  have B_made_record : Binds K fd_made_record ["levels", "created", "name", "level", "msg", "args", "extra"] [] := nil_of (FunD.binds1 F_made_record 7 2 (List.cons_ne_nil _ _) rfl (fun _ _ _ _ _ _ _ us its h1 h2 => match us, its, h1, h2 with | [_, _, _, _, _, _, _], [_, _], _, _ => ⟨_, rfl, rfl⟩))
  obtain ⟨fd_through_one, F_through_one⟩ := _root_.He.DefD.funD (d := dd_through_one) (c.fnw 5 rfl) (c.fact 23 rfl)
  have F_through_one : FunD K "through_one" "through_one" (defArgs s_through_one) (defBody s_through_one) (defScope s_through_one) [] [] (fAd K ("through_one", none)) fd_through_one := F_through_one
  have B_through_one : Binds K fd_through_one ["one", "record"] [] := FunD.bindsN F_through_one fun _ _ _ _ _ _ us hl => match us, hl with | [_, _], _ => rfl
  obtain ⟨fd_through_all, F_through_all⟩ := _root_.He.DefD.funD (d := dd_through_all) (c.fnw 6 rfl) (c.fact 25 rfl)
  have F_through_all : FunD K "through_all" "through_all" (defArgs s_through_all) (defBody s_through_all) (defScope s_through_all) [] [] (fAd K ("through_all", none)) fd_through_all := F_through_all
  have B_through_all : Binds K fd_through_all ["filters", "record"] [] := FunD.bindsN F_through_all fun _ _ _ _ _ _ us hl => match us, hl with | [_, _], _ => rfl
  obtain ⟨fd_is_mode, F_is_mode⟩ := _root_.He.DefD.funD (d := dd_is_mode) (c.fnw 7 rfl) (c.fact 27 rfl)
  have F_is_mode : FunD K "is_mode" "is_mode" (defArgs s_is_mode) (defBody s_is_mode) (defScope s_is_mode) [] [] (fAd K ("is_mode", none)) fd_is_mode := F_is_mode
  have B_is_mode : Binds K fd_is_mode ["thing"] [] := FunD.bindsN F_is_mode fun _ _ _ _ _ _ us hl => match us, hl with | [_], _ => rfl
  obtain ⟨fd__law_draw, F__law_draw⟩ := _root_.He.DefD.funD (d := dd__law_draw) (c.fnw 8 rfl) (c.fact 29 rfl)
  have F__law_draw : FunD K "_law_draw" "_law_draw" (defArgs s__law_draw) (defBody s__law_draw) (defScope s__law_draw) [] [] (fAd K ("_law_draw", none)) fd__law_draw := F__law_draw
  have B__law_draw : Binds K fd__law_draw ["_law_stream", "_law_many"] [] := FunD.bindsN F__law_draw fun _ _ _ _ _ _ us hl => match us, hl with | [_, _], _ => rfl
  obtain ⟨fd__law_pick, F__law_pick⟩ := _root_.He.DefD.funD (d := dd__law_pick) (c.fnw 9 rfl) (c.fact 31 rfl)
  have F__law_pick : FunD K "_law_pick" "_law_pick" (defArgs s__law_pick) (defBody s__law_pick) (defScope s__law_pick) [] [] (fAd K ("_law_pick", none)) fd__law_pick := F__law_pick
  have B__law_pick : Binds K fd__law_pick ["_law_stream", "_law_some"] [] := FunD.bindsN F__law_pick fun _ _ _ _ _ _ us hl => match us, hl with | [_, _], _ => rfl
  obtain ⟨fd__law_same, F__law_same⟩ := _root_.He.DefD.funD (d := dd__law_same) (c.fnw 10 rfl) (c.fact 33 rfl)
  have F__law_same : FunD K "_law_same" "_law_same" (defArgs s__law_same) (defBody s__law_same) (defScope s__law_same) [] [] (fAd K ("_law_same", none)) fd__law_same := F__law_same
  have B__law_same : Binds K fd__law_same ["_law_found", "_law_due"] [] := FunD.bindsN F__law_same fun _ _ _ _ _ _ us hl => match us, hl with | [_, _], _ => rfl
  obtain ⟨fd__law_yard_right, F__law_yard_right⟩ := _root_.He.DefD.funD (d := dd__law_yard_right) (c.fnw 11 rfl) (c.fact 35 rfl)
  have F__law_yard_right : FunD K "_law_yard_right" "_law_yard_right" (defArgs s__law_yard_right) (defBody s__law_yard_right) (defScope s__law_yard_right) [] [] (fAd K ("_law_yard_right", none)) fd__law_yard_right := F__law_yard_right
  have B__law_yard_right : Binds K fd__law_yard_right ["_law_yard", "_law_row"] [] := FunD.bindsN F__law_yard_right fun _ _ _ _ _ _ us hl => match us, hl with | [_, _], _ => rfl
  obtain ⟨fd__law_yard_deed, F__law_yard_deed⟩ := _root_.He.DefD.funD (d := dd__law_yard_deed) (c.fnw 12 rfl) (c.fact 37 rfl)
  have F__law_yard_deed : FunD K "_law_yard_deed" "_law_yard_deed" (defArgs s__law_yard_deed) (defBody s__law_yard_deed) (defScope s__law_yard_deed) [] [] (fAd K ("_law_yard_deed", none)) fd__law_yard_deed := F__law_yard_deed
  have B__law_yard_deed : Binds K fd__law_yard_deed ["_law_stream", "_law_yard", "_law_row", "_law_handlers"] [] := FunD.bindsN F__law_yard_deed fun _ _ _ _ _ _ us hl => match us, hl with | [_, _, _, _], _ => rfl
  obtain ⟨fd_law, F_law⟩ := _root_.He.DefD.funD (d := dd_law) (c.fnw 13 rfl) (c.fact 39 rfl)
  have F_law : FunD K "law" "law" (defArgs s_law) (defBody s_law) (defScope s_law) [] [] (fAd K ("law", none)) fd_law := F_law
  have B_law : Binds K fd_law ["_law_script"] [] := FunD.bindsN F_law fun _ _ _ _ _ _ us hl => match us, hl with | [_], _ => rfl
  obtain ⟨fd_Clock___init__, F_Clock___init__⟩ := _root_.He.DefD.funD (d := dd_Clock___init__) (c.fnw 14 rfl) (c.fact 43 rfl)
  have F_Clock___init__ : FunD K "__init__" "Clock.__init__" (defArgs s_Clock___init__) (defBody s_Clock___init__) (defScope s_Clock___init__) [] [] (fAd K ("Clock", some "__init__")) fd_Clock___init__ := F_Clock___init__
  have B_Clock___init__ : Binds K fd_Clock___init__ ["self", "shown"] [] := FunD.bindsN F_Clock___init__ fun _ _ _ _ _ _ us hl => match us, hl with | [_, _], _ => rfl
  obtain ⟨fd_Clock_now, F_Clock_now⟩ := _root_.He.DefD.funD (d := dd_Clock_now) (c.fnw 15 rfl) (c.fact 45 rfl)
  have F_Clock_now : FunD K "now" "Clock.now" (defArgs s_Clock_now) (defBody s_Clock_now) (defScope s_Clock_now) [] [] (fAd K ("Clock", some "now")) fd_Clock_now := F_Clock_now
  have B_Clock_now : Binds K fd_Clock_now ["self"] [] := FunD.bindsN F_Clock_now fun _ _ _ _ _ _ us hl => match us, hl with | [_], _ => rfl
  obtain ⟨fd_Clock_advance, F_Clock_advance⟩ := _root_.He.DefD.funD (d := dd_Clock_advance) (c.fnw 16 rfl) (c.fact 47 rfl)
  have F_Clock_advance : FunD K "advance" "Clock.advance" (defArgs s_Clock_advance) (defBody s_Clock_advance) (defScope s_Clock_advance) [] [] (fAd K ("Clock", some "advance")) fd_Clock_advance := F_Clock_advance
  have B_Clock_advance : Binds K fd_Clock_advance ["self", "milliseconds"] [] := FunD.bindsN F_Clock_advance fun _ _ _ _ _ _ us hl => match us, hl with | [_, _], _ => rfl
  obtain ⟨fd_LevelTable___init__, F_LevelTable___init__⟩ := _root_.He.DefD.funD (d := dd_LevelTable___init__) (c.fnw 17 rfl) (c.fact 51 rfl)
  have F_LevelTable___init__ : FunD K "__init__" "LevelTable.__init__" (defArgs s_LevelTable___init__) (defBody s_LevelTable___init__) (defScope s_LevelTable___init__) [] [] (fAd K ("LevelTable", some "__init__")) fd_LevelTable___init__ := F_LevelTable___init__
  have B_LevelTable___init__ : Binds K fd_LevelTable___init__ ["self"] [] := FunD.bindsN F_LevelTable___init__ fun _ _ _ _ _ _ us hl => match us, hl with | [_], _ => rfl
  obtain ⟨fd_LevelTable_level_name, F_LevelTable_level_name⟩ := _root_.He.DefD.funD (d := dd_LevelTable_level_name) (c.fnw 18 rfl) (c.fact 53 rfl)
  have F_LevelTable_level_name : FunD K "level_name" "LevelTable.level_name" (defArgs s_LevelTable_level_name) (defBody s_LevelTable_level_name) (defScope s_LevelTable_level_name) [] [] (fAd K ("LevelTable", some "level_name")) fd_LevelTable_level_name := F_LevelTable_level_name
  have B_LevelTable_level_name : Binds K fd_LevelTable_level_name ["self", "level"] [] := FunD.bindsN F_LevelTable_level_name fun _ _ _ _ _ _ us hl => match us, hl with | [_, _], _ => rfl
  obtain ⟨fd_LevelTable_number, F_LevelTable_number⟩ := _root_.He.DefD.funD (d := dd_LevelTable_number) (c.fnw 19 rfl) (c.fact 55 rfl)
  have F_LevelTable_number : FunD K "number" "LevelTable.number" (defArgs s_LevelTable_number) (defBody s_LevelTable_number) (defScope s_LevelTable_number) [] [] (fAd K ("LevelTable", some "number")) fd_LevelTable_number := F_LevelTable_number
  have B_LevelTable_number : Binds K fd_LevelTable_number ["self", "level"] [] := FunD.bindsN F_LevelTable_number fun _ _ _ _ _ _ us hl => match us, hl with | [_, _], _ => rfl
  obtain ⟨fd_LevelTable_knows, F_LevelTable_knows⟩ := _root_.He.DefD.funD (d := dd_LevelTable_knows) (c.fnw 20 rfl) (c.fact 57 rfl)
  have F_LevelTable_knows : FunD K "knows" "LevelTable.knows" (defArgs s_LevelTable_knows) (defBody s_LevelTable_knows) (defScope s_LevelTable_knows) [] [] (fAd K ("LevelTable", some "knows")) fd_LevelTable_knows := F_LevelTable_knows
  have B_LevelTable_knows : Binds K fd_LevelTable_knows ["self", "level"] [] := FunD.bindsN F_LevelTable_knows fun _ _ _ _ _ _ us hl => match us, hl with | [_, _], _ => rfl
  obtain ⟨fd_Store___init__, F_Store___init__⟩ := _root_.He.DefD.funD (d := dd_Store___init__) (c.fnw 21 rfl) (c.fact 61 rfl)
  have F_Store___init__ : FunD K "__init__" "Store.__init__" (defArgs s_Store___init__) (defBody s_Store___init__) (defScope s_Store___init__) [] [] (fAd K ("Store", some "__init__")) fd_Store___init__ := F_Store___init__
  have B_Store___init__ : Binds K fd_Store___init__ ["self", "clock"] [] := FunD.bindsN F_Store___init__ fun _ _ _ _ _ _ us hl => match us, hl with | [_, _], _ => rfl
  obtain ⟨fd_Store_has, F_Store_has⟩ := _root_.He.DefD.funD (d := dd_Store_has) (c.fnw 22 rfl) (c.fact 63 rfl)
  have F_Store_has : FunD K "has" "Store.has" (defArgs s_Store_has) (defBody s_Store_has) (defScope s_Store_has) [] [] (fAd K ("Store", some "has")) fd_Store_has := F_Store_has
  have B_Store_has : Binds K fd_Store_has ["self", "name"] [] := FunD.bindsN F_Store_has fun _ _ _ _ _ _ us hl => match us, hl with | [_, _], _ => rfl
  obtain ⟨fd_Store_put, F_Store_put⟩ := _root_.He.DefD.funD (d := dd_Store_put) (c.fnw 23 rfl) (c.fact 65 rfl)
  have F_Store_put : FunD K "put" "Store.put" (defArgs s_Store_put) (defBody s_Store_put) (defScope s_Store_put) [] [] (fAd K ("Store", some "put")) fd_Store_put := F_Store_put
  have B_Store_put : Binds K fd_Store_put ["self", "name", "text"] [] := FunD.bindsN F_Store_put fun _ _ _ _ _ _ us hl => match us, hl with | [_, _, _], _ => rfl
  obtain ⟨fd_Store_write, F_Store_write⟩ := _root_.He.DefD.funD (d := dd_Store_write) (c.fnw 24 rfl) (c.fact 67 rfl)
  have F_Store_write : FunD K "write" "Store.write" (defArgs s_Store_write) (defBody s_Store_write) (defScope s_Store_write) [] [] (fAd K ("Store", some "write")) fd_Store_write := F_Store_write
  have B_Store_write : Binds K fd_Store_write ["self", "name", "text"] [] := FunD.bindsN F_Store_write fun _ _ _ _ _ _ us hl => match us, hl with | [_, _, _], _ => rfl
  obtain ⟨fd_Store_take_away, F_Store_take_away⟩ := _root_.He.DefD.funD (d := dd_Store_take_away) (c.fnw 25 rfl) (c.fact 69 rfl)
  have F_Store_take_away : FunD K "take_away" "Store.take_away" (defArgs s_Store_take_away) (defBody s_Store_take_away) (defScope s_Store_take_away) [] [] (fAd K ("Store", some "take_away")) fd_Store_take_away := F_Store_take_away
  have B_Store_take_away : Binds K fd_Store_take_away ["self", "name"] [] := FunD.bindsN F_Store_take_away fun _ _ _ _ _ _ us hl => match us, hl with | [_, _], _ => rfl
  obtain ⟨fd_Store_text, F_Store_text⟩ := _root_.He.DefD.funD (d := dd_Store_text) (c.fnw 26 rfl) (c.fact 71 rfl)
  have F_Store_text : FunD K "text" "Store.text" (defArgs s_Store_text) (defBody s_Store_text) (defScope s_Store_text) [] [] (fAd K ("Store", some "text")) fd_Store_text := F_Store_text
  have B_Store_text : Binds K fd_Store_text ["self", "name"] [] := FunD.bindsN F_Store_text fun _ _ _ _ _ _ us hl => match us, hl with | [_, _], _ => rfl
  obtain ⟨fd_Store_length, F_Store_length⟩ := _root_.He.DefD.funD (d := dd_Store_length) (c.fnw 27 rfl) (c.fact 73 rfl)
  have F_Store_length : FunD K "length" "Store.length" (defArgs s_Store_length) (defBody s_Store_length) (defScope s_Store_length) [] [] (fAd K ("Store", some "length")) fd_Store_length := F_Store_length
  have B_Store_length : Binds K fd_Store_length ["self", "name"] [] := FunD.bindsN F_Store_length fun _ _ _ _ _ _ us hl => match us, hl with | [_, _], _ => rfl
  obtain ⟨fd_Store_all_names, F_Store_all_names⟩ := _root_.He.DefD.funD (d := dd_Store_all_names) (c.fnw 28 rfl) (c.fact 75 rfl)
  have F_Store_all_names : FunD K "all_names" "Store.all_names" (defArgs s_Store_all_names) (defBody s_Store_all_names) (defScope s_Store_all_names) [] [] (fAd K ("Store", some "all_names")) fd_Store_all_names := F_Store_all_names
  have B_Store_all_names : Binds K fd_Store_all_names ["self"] [] := FunD.bindsN F_Store_all_names fun _ _ _ _ _ _ us hl => match us, hl with | [_], _ => rfl
  obtain ⟨fd_Store_contents, F_Store_contents⟩ := _root_.He.DefD.funD (d := dd_Store_contents) (c.fnw 29 rfl) (c.fact 77 rfl)
  have F_Store_contents : FunD K "contents" "Store.contents" (defArgs s_Store_contents) (defBody s_Store_contents) (defScope s_Store_contents) [] [] (fAd K ("Store", some "contents")) fd_Store_contents := F_Store_contents
  have B_Store_contents : Binds K fd_Store_contents ["self"] [] := FunD.bindsN F_Store_contents fun _ _ _ _ _ _ us hl => match us, hl with | [_], _ => rfl
  obtain ⟨fd_Written___init__, F_Written___init__⟩ := _root_.He.DefD.funD (d := dd_Written___init__) (c.fnw 30 rfl) (c.fact 81 rfl)
  have F_Written___init__ : FunD K "__init__" "Written.__init__" (defArgs s_Written___init__) (defBody s_Written___init__) (defScope s_Written___init__) [] [] (fAd K ("Written", some "__init__")) fd_Written___init__ := F_Written___init__
  have B_Written___init__ : Binds K fd_Written___init__ ["self", "text", "time"] [] := FunD.bindsN F_Written___init__ fun _ _ _ _ _ _ us hl => match us, hl with | [_, _, _], _ => rfl
  obtain ⟨fd_Written_grow, F_Written_grow⟩ := _root_.He.DefD.funD (d := dd_Written_grow) (c.fnw 31 rfl) (c.fact 83 rfl)
  have F_Written_grow : FunD K "grow" "Written.grow" (defArgs s_Written_grow) (defBody s_Written_grow) (defScope s_Written_grow) [] [] (fAd K ("Written", some "grow")) fd_Written_grow := F_Written_grow
  have B_Written_grow : Binds K fd_Written_grow ["self", "text", "time"] [] := FunD.bindsN F_Written_grow fun _ _ _ _ _ _ us hl => match us, hl with | [_, _, _], _ => rfl
  obtain ⟨fd_Written_whole, F_Written_whole⟩ := _root_.He.DefD.funD (d := dd_Written_whole) (c.fnw 32 rfl) (c.fact 85 rfl)
  have F_Written_whole : FunD K "whole" "Written.whole" (defArgs s_Written_whole) (defBody s_Written_whole) (defScope s_Written_whole) [] [] (fAd K ("Written", some "whole")) fd_Written_whole := F_Written_whole
  have B_Written_whole : Binds K fd_Written_whole ["self"] [] := FunD.bindsN F_Written_whole fun _ _ _ _ _ _ us hl => match us, hl with | [_], _ => rfl
  obtain ⟨fd_Roster___init__, F_Roster___init__⟩ := _root_.He.DefD.funD (d := dd_Roster___init__) (c.fnw 33 rfl) (c.fact 89 rfl)
  have F_Roster___init__ : FunD K "__init__" "Roster.__init__" (defArgs s_Roster___init__) (defBody s_Roster___init__) (defScope s_Roster___init__) [] [] (fAd K ("Roster", some "__init__")) fd_Roster___init__ := F_Roster___init__
  have B_Roster___init__ : Binds K fd_Roster___init__ ["self"] [] := FunD.bindsN F_Roster___init__ fun _ _ _ _ _ _ us hl => match us, hl with | [_], _ => rfl
  obtain ⟨fd_Roster_enter, F_Roster_enter⟩ := _root_.He.DefD.funD (d := dd_Roster_enter) (c.fnw 34 rfl) (c.fact 91 rfl)
  have F_Roster_enter : FunD K "enter" "Roster.enter" (defArgs s_Roster_enter) (defBody s_Roster_enter) (defScope s_Roster_enter) [] [] (fAd K ("Roster", some "enter")) fd_Roster_enter := F_Roster_enter
  have B_Roster_enter : Binds K fd_Roster_enter ["self", "handler"] [] := FunD.bindsN F_Roster_enter fun _ _ _ _ _ _ us hl => match us, hl with | [_, _], _ => rfl
  obtain ⟨fd_Handler___init__, F_Handler___init__⟩ := _root_.He.DefD.funD (d := dd_Handler___init__) (c.fnw 35 rfl) (c.fact 95 rfl)
  have F_Handler___init__ : FunD K "__init__" "Handler.__init__" (defArgs s_Handler___init__) (defBody s_Handler___init__) (defScope s_Handler___init__) [] [] (fAd K ("Handler", some "__init__")) fd_Handler___init__ := F_Handler___init__
  have B_Handler___init__ : Binds K fd_Handler___init__ ["self", "yard"] [] := FunD.bindsN F_Handler___init__ fun _ _ _ _ _ _ us hl => match us, hl with | [_, _], _ => rfl
  obtain ⟨fd_Handler_setTerminator, F_Handler_setTerminator⟩ := _root_.He.DefD.funD (d := dd_Handler_setTerminator) (c.fnw 36 rfl) (c.fact 97 rfl)
  have F_Handler_setTerminator : FunD K "setTerminator" "Handler.setTerminator" (defArgs s_Handler_setTerminator) (defBody s_Handler_setTerminator) (defScope s_Handler_setTerminator) [] [] (fAd K ("Handler", some "setTerminator")) fd_Handler_setTerminator := F_Handler_setTerminator
  have B_Handler_setTerminator : Binds K fd_Handler_setTerminator ["self", "text"] [] := FunD.bindsN F_Handler_setTerminator fun _ _ _ _ _ _ us hl => match us, hl with | [_, _], _ => rfl
  obtain ⟨fd_Handler_filtered, F_Handler_filtered⟩ := _root_.He.DefD.funD (d := dd_Handler_filtered) (c.fnw 37 rfl) (c.fact 99 rfl)
  have F_Handler_filtered : FunD K "filtered" "Handler.filtered" (defArgs s_Handler_filtered) (defBody s_Handler_filtered) (defScope s_Handler_filtered) [] [] (fAd K ("Handler", some "filtered")) fd_Handler_filtered := F_Handler_filtered
  have B_Handler_filtered : Binds K fd_Handler_filtered ["self", "record"] [] := FunD.bindsN F_Handler_filtered fun _ _ _ _ _ _ us hl => match us, hl with | [_, _], _ => rfl
  obtain ⟨fd_Handler_handle, F_Handler_handle⟩ := _root_.He.DefD.funD (d := dd_Handler_handle) (c.fnw 38 rfl) (c.fact 101 rfl)
  have F_Handler_handle : FunD K "handle" "Handler.handle" (defArgs s_Handler_handle) (defBody s_Handler_handle) (defScope s_Handler_handle) [] [] (fAd K ("Handler", some "handle")) fd_Handler_handle := F_Handler_handle
  have B_Handler_handle : Binds K fd_Handler_handle ["self", "record"] [] := FunD.bindsN F_Handler_handle fun _ _ _ _ _ _ us hl => match us, hl with | [_, _], _ => rfl
  obtain ⟨fd_Handler_formatted, F_Handler_formatted⟩ := _root_.He.DefD.funD (d := dd_Handler_formatted) (c.fnw 39 rfl) (c.fact 103 rfl)
  have F_Handler_formatted : FunD K "formatted" "Handler.formatted" (defArgs s_Handler_formatted) (defBody s_Handler_formatted) (defScope s_Handler_formatted) [] [] (fAd K ("Handler", some "formatted")) fd_Handler_formatted := F_Handler_formatted
  have B_Handler_formatted : Binds K fd_Handler_formatted ["self", "record"] [] := FunD.bindsN F_Handler_formatted fun _ _ _ _ _ _ us hl => match us, hl with | [_, _], _ => rfl
  obtain ⟨fd_Handler_line, F_Handler_line⟩ := _root_.He.DefD.funD (d := dd_Handler_line) (c.fnw 40 rfl) (c.fact 105 rfl)
  have F_Handler_line : FunD K "line" "Handler.line" (defArgs s_Handler_line) (defBody s_Handler_line) (defScope s_Handler_line) [] [] (fAd K ("Handler", some "line")) fd_Handler_line := F_Handler_line
  have B_Handler_line : Binds K fd_Handler_line ["self", "record"] [] := FunD.bindsN F_Handler_line fun _ _ _ _ _ _ us hl => match us, hl with | [_, _], _ => rfl
  obtain ⟨fd_Logger___init__, F_Logger___init__⟩ := _root_.He.DefD.funD (d := dd_Logger___init__) (c.fnw 41 rfl) (c.fact 109 rfl)
  have F_Logger___init__ : FunD K "__init__" "Logger.__init__" (defArgs s_Logger___init__) (defBody s_Logger___init__) (defScope s_Logger___init__) [] [] (fAd K ("Logger", some "__init__")) fd_Logger___init__ := F_Logger___init__
  have B_Logger___init__ : Binds K fd_Logger___init__ ["self", "tree", "name", "level", "parent"] [] := FunD.bindsN F_Logger___init__ fun _ _ _ _ _ _ us hl => match us, hl with | [_, _, _, _, _], _ => rfl
  obtain ⟨fd_LoggerTree___init__, F_LoggerTree___init__⟩ := _root_.He.DefD.funD (d := dd_LoggerTree___init__) (c.fnw 42 rfl) (c.fact 113 rfl)
  have F_LoggerTree___init__ : FunD K "__init__" "LoggerTree.__init__" (defArgs s_LoggerTree___init__) (defBody s_LoggerTree___init__) (defScope s_LoggerTree___init__) [] [] (fAd K ("LoggerTree", some "__init__")) fd_LoggerTree___init__ := F_LoggerTree___init__
  have B_LoggerTree___init__ : Binds K fd_LoggerTree___init__ ["self", "yard", "levels", "clock", "last_resort"] [] := FunD.bindsN F_LoggerTree___init__ fun _ _ _ _ _ _ us hl => match us, hl with | [_, _, _, _, _], _ => rfl
  obtain ⟨fd_StreamHandler___init__, F_StreamHandler___init__, D_StreamHandler___init__⟩ := SupE.supF (file := theFile) (d := se_StreamHandler___init__) (c.sup 0 rfl) (c.fact 117 rfl)
  have D_StreamHandler___init__ : SupDf K "__init__" "StreamHandler.__init__" s_StreamHandler___init__ [.str (SX.S [115, 116, 100, 101, 114, 114])] fd_StreamHandler___init__ := D_StreamHandler___init__
  obtain ⟨fd_StreamHandler_setTerminator, F_StreamHandler_setTerminator, D_StreamHandler_setTerminator⟩ := SupE.supF (file := theFile) (d := se_StreamHandler_setTerminator) (c.sup 1 rfl) (c.fact 119 rfl)
  have D_StreamHandler_setTerminator : SupDf K "setTerminator" "StreamHandler.setTerminator" s_StreamHandler_setTerminator [] fd_StreamHandler_setTerminator := D_StreamHandler_setTerminator
  have B_StreamHandler_setTerminator : Binds K fd_StreamHandler_setTerminator ["self", "text"] [] := SupDf.bindsN D_StreamHandler_setTerminator fun _ _ _ _ _ _ _ us hl => match us, hl with | [_, _], _ => rfl
  obtain ⟨fd_StreamHandler_filtered, F_StreamHandler_filtered, D_StreamHandler_filtered⟩ := SupE.supF (file := theFile) (d := se_StreamHandler_filtered) (c.sup 2 rfl) (c.fact 121 rfl)
  have D_StreamHandler_filtered : SupDf K "filtered" "StreamHandler.filtered" s_StreamHandler_filtered [] fd_StreamHandler_filtered := D_StreamHandler_filtered
  have B_StreamHandler_filtered : Binds K fd_StreamHandler_filtered ["self", "record"] [] := SupDf.bindsN D_StreamHandler_filtered fun _ _ _ _ _ _ _ us hl => match us, hl with | [_, _], _ => rfl
  obtain ⟨fd_StreamHandler_handle, F_StreamHandler_handle, D_StreamHandler_handle⟩ := SupE.supF (file := theFile) (d := se_StreamHandler_handle) (c.sup 3 rfl) (c.fact 123 rfl)
  have D_StreamHandler_handle : SupDf K "handle" "StreamHandler.handle" s_StreamHandler_handle [] fd_StreamHandler_handle := D_StreamHandler_handle
  have B_StreamHandler_handle : Binds K fd_StreamHandler_handle ["self", "record"] [] := SupDf.bindsN D_StreamHandler_handle fun _ _ _ _ _ _ _ us hl => match us, hl with | [_, _], _ => rfl
  obtain ⟨fd_StreamHandler_formatted, F_StreamHandler_formatted, D_StreamHandler_formatted⟩ := SupE.supF (file := theFile) (d := se_StreamHandler_formatted) (c.sup 4 rfl) (c.fact 125 rfl)
  have D_StreamHandler_formatted : SupDf K "formatted" "StreamHandler.formatted" s_StreamHandler_formatted [] fd_StreamHandler_formatted := D_StreamHandler_formatted
  have B_StreamHandler_formatted : Binds K fd_StreamHandler_formatted ["self", "record"] [] := SupDf.bindsN D_StreamHandler_formatted fun _ _ _ _ _ _ _ us hl => match us, hl with | [_, _], _ => rfl
  obtain ⟨fd_StreamHandler_emit, F_StreamHandler_emit⟩ := _root_.He.DefD.funD (d := dd_StreamHandler_emit) (c.fnw 43 rfl) (c.fact 127 rfl)
  have F_StreamHandler_emit : FunD K "emit" "StreamHandler.emit" (defArgs s_StreamHandler_emit) (defBody s_StreamHandler_emit) (defScope s_StreamHandler_emit) [] [] (fAd K ("StreamHandler", some "emit")) fd_StreamHandler_emit := F_StreamHandler_emit
  have B_StreamHandler_emit : Binds K fd_StreamHandler_emit ["self", "record"] [] := FunD.bindsN F_StreamHandler_emit fun _ _ _ _ _ _ us hl => match us, hl with | [_, _], _ => rfl
  obtain ⟨fd_FileHandler___init__, F_FileHandler___init__, D_FileHandler___init__⟩ := SupE.supF (file := theFile) (d := se_FileHandler___init__) (c.sup 5 rfl) (c.fact 131 rfl)
  have D_FileHandler___init__ : SupDf K "__init__" "FileHandler.__init__" s_FileHandler___init__ [.str (SX.S [97]), .bl false] fd_FileHandler___init__ := D_FileHandler___init__
  have B_FileHandler___init__ : Binds K fd_FileHandler___init__ ["self", "yard", "filename", "mode", "delay"] [] := nil_of (SupDf.binds1 D_FileHandler___init__ 5 2 (List.cons_ne_nil _ _) rfl (fun _ _ _ _ _ _ _ _ us its h1 h2 => match us, its, h1, h2 with | [_, _, _, _, _], [_, _], _, _ => ⟨_, rfl, rfl⟩))
  obtain ⟨fd_FileHandler_open_file, F_FileHandler_open_file⟩ := _root_.He.DefD.funD (d := dd_FileHandler_open_file) (c.fnw 44 rfl) (c.fact 133 rfl)
  have F_FileHandler_open_file : FunD K "open_file" "FileHandler.open_file" (defArgs s_FileHandler_open_file) (defBody s_FileHandler_open_file) (defScope s_FileHandler_open_file) [] [] (fAd K ("FileHandler", some "open_file")) fd_FileHandler_open_file := F_FileHandler_open_file
  have B_FileHandler_open_file : Binds K fd_FileHandler_open_file ["self"] [] := FunD.bindsN F_FileHandler_open_file fun _ _ _ _ _ _ us hl => match us, hl with | [_], _ => rfl
  obtain ⟨fd_FileHandler_setTerminator, F_FileHandler_setTerminator, D_FileHandler_setTerminator⟩ := SupE.supF (file := theFile) (d := se_FileHandler_setTerminator) (c.sup 6 rfl) (c.fact 135 rfl)
  have D_FileHandler_setTerminator : SupDf K "setTerminator" "FileHandler.setTerminator" s_FileHandler_setTerminator [] fd_FileHandler_setTerminator := D_FileHandler_setTerminator
  have B_FileHandler_setTerminator : Binds K fd_FileHandler_setTerminator ["self", "text"] [] := SupDf.bindsN D_FileHandler_setTerminator fun _ _ _ _ _ _ _ us hl => match us, hl with | [_, _], _ => rfl
  obtain ⟨fd_FileHandler_filtered, F_FileHandler_filtered, D_FileHandler_filtered⟩ := SupE.supF (file := theFile) (d := se_FileHandler_filtered) (c.sup 7 rfl) (c.fact 137 rfl)
  have D_FileHandler_filtered : SupDf K "filtered" "FileHandler.filtered" s_FileHandler_filtered [] fd_FileHandler_filtered := D_FileHandler_filtered
  have B_FileHandler_filtered : Binds K fd_FileHandler_filtered ["self", "record"] [] := SupDf.bindsN D_FileHandler_filtered fun _ _ _ _ _ _ _ us hl => match us, hl with | [_, _], _ => rfl
  obtain ⟨fd_FileHandler_handle, F_FileHandler_handle, D_FileHandler_handle⟩ := SupE.supF (file := theFile) (d := se_FileHandler_handle) (c.sup 8 rfl) (c.fact 139 rfl)
  have D_FileHandler_handle : SupDf K "handle" "FileHandler.handle" s_FileHandler_handle [] fd_FileHandler_handle := D_FileHandler_handle
  have B_FileHandler_handle : Binds K fd_FileHandler_handle ["self", "record"] [] := SupDf.bindsN D_FileHandler_handle fun _ _ _ _ _ _ _ us hl => match us, hl with | [_, _], _ => rfl
  obtain ⟨fd_FileHandler_formatted, F_FileHandler_formatted, D_FileHandler_formatted⟩ := SupE.supF (file := theFile) (d := se_FileHandler_formatted) (c.sup 9 rfl) (c.fact 141 rfl)
  have D_FileHandler_formatted : SupDf K "formatted" "FileHandler.formatted" s_FileHandler_formatted [] fd_FileHandler_formatted := D_FileHandler_formatted
  have B_FileHandler_formatted : Binds K fd_FileHandler_formatted ["self", "record"] [] := SupDf.bindsN D_FileHandler_formatted fun _ _ _ _ _ _ _ us hl => match us, hl with | [_, _], _ => rfl
  obtain ⟨fd_FileHandler_emit, F_FileHandler_emit⟩ := _root_.He.DefD.funD (d := dd_FileHandler_emit) (c.fnw 45 rfl) (c.fact 143 rfl)
  have F_FileHandler_emit : FunD K "emit" "FileHandler.emit" (defArgs s_FileHandler_emit) (defBody s_FileHandler_emit) (defScope s_FileHandler_emit) [] [] (fAd K ("FileHandler", some "emit")) fd_FileHandler_emit := F_FileHandler_emit
  have B_FileHandler_emit : Binds K fd_FileHandler_emit ["self", "record"] [] := FunD.bindsN F_FileHandler_emit fun _ _ _ _ _ _ us hl => match us, hl with | [_, _], _ => rfl
  obtain ⟨fd_LogRecord___init__, F_LogRecord___init__⟩ := _root_.He.DefD.funD (d := dd_LogRecord___init__) (c.fnw 46 rfl) (c.fact 147 rfl)
  have F_LogRecord___init__ : FunD K "__init__" "LogRecord.__init__" (defArgs s_LogRecord___init__) (defBody s_LogRecord___init__) (defScope s_LogRecord___init__) [] [] (fAd K ("LogRecord", some "__init__")) fd_LogRecord___init__ := F_LogRecord___init__
  have B_LogRecord___init__ : Binds K fd_LogRecord___init__ ["self", "name", "levelno", "levelname", "msg", "given", "created", "extra"] [] := FunD.bindsN F_LogRecord___init__ fun _ _ _ _ _ _ us hl => match us, hl with | [_, _, _, _, _, _, _, _], _ => rfl
  obtain ⟨fd_LogRecord_message, F_LogRecord_message⟩ := _root_.He.DefD.funD (d := dd_LogRecord_message) (c.fnw 47 rfl) (c.fact 149 rfl)
  have F_LogRecord_message : FunD K "message" "LogRecord.message" (defArgs s_LogRecord_message) (defBody s_LogRecord_message) (defScope s_LogRecord_message) [] [] (fAd K ("LogRecord", some "message")) fd_LogRecord_message := F_LogRecord_message
  have B_LogRecord_message : Binds K fd_LogRecord_message ["self"] [] := FunD.bindsN F_LogRecord_message fun _ _ _ _ _ _ us hl => match us, hl with | [_], _ => rfl
  obtain ⟨fd_Yard___init__, F_Yard___init__⟩ := _root_.He.DefD.funD (d := dd_Yard___init__) (c.fnw 48 rfl) (c.fact 153 rfl)
  have F_Yard___init__ : FunD K "__init__" "Yard.__init__" (defArgs s_Yard___init__) (defBody s_Yard___init__) (defScope s_Yard___init__) [.int 0] [] (fAd K ("Yard", some "__init__")) fd_Yard___init__ := F_Yard___init__
  obtain ⟨fd_Yard_now, F_Yard_now⟩ := _root_.He.DefD.funD (d := dd_Yard_now) (c.fnw 49 rfl) (c.fact 155 rfl)
  have F_Yard_now : FunD K "now" "Yard.now" (defArgs s_Yard_now) (defBody s_Yard_now) (defScope s_Yard_now) [] [] (fAd K ("Yard", some "now")) fd_Yard_now := F_Yard_now
  have B_Yard_now : Binds K fd_Yard_now ["self"] [] := FunD.bindsN F_Yard_now fun _ _ _ _ _ _ us hl => match us, hl with | [_], _ => rfl
  obtain ⟨fd_Yard_advance, F_Yard_advance⟩ := _root_.He.DefD.funD (d := dd_Yard_advance) (c.fnw 50 rfl) (c.fact 157 rfl)
  have F_Yard_advance : FunD K "advance" "Yard.advance" (defArgs s_Yard_advance) (defBody s_Yard_advance) (defScope s_Yard_advance) [] [] (fAd K ("Yard", some "advance")) fd_Yard_advance := F_Yard_advance
  have B_Yard_advance : Binds K fd_Yard_advance ["self", "milliseconds"] [] := FunD.bindsN F_Yard_advance fun _ _ _ _ _ _ us hl => match us, hl with | [_, _], _ => rfl
  obtain ⟨fd_Yard_text, F_Yard_text⟩ := _root_.He.DefD.funD (d := dd_Yard_text) (c.fnw 51 rfl) (c.fact 159 rfl)
  have F_Yard_text : FunD K "text" "Yard.text" (defArgs s_Yard_text) (defBody s_Yard_text) (defScope s_Yard_text) [] [] (fAd K ("Yard", some "text")) fd_Yard_text := F_Yard_text
  have B_Yard_text : Binds K fd_Yard_text ["self", "stream"] [] := FunD.bindsN F_Yard_text fun _ _ _ _ _ _ us hl => match us, hl with | [_, _], _ => rfl
  obtain ⟨fd_Yard_put_file, F_Yard_put_file⟩ := _root_.He.DefD.funD (d := dd_Yard_put_file) (c.fnw 52 rfl) (c.fact 161 rfl)
  have F_Yard_put_file : FunD K "put_file" "Yard.put_file" (defArgs s_Yard_put_file) (defBody s_Yard_put_file) (defScope s_Yard_put_file) [] [] (fAd K ("Yard", some "put_file")) fd_Yard_put_file := F_Yard_put_file
  have B_Yard_put_file : Binds K fd_Yard_put_file ["self", "name", "text"] [] := FunD.bindsN F_Yard_put_file fun _ _ _ _ _ _ us hl => match us, hl with | [_, _, _], _ => rfl
  obtain ⟨fd_Yard_remove_file, F_Yard_remove_file⟩ := _root_.He.DefD.funD (d := dd_Yard_remove_file) (c.fnw 53 rfl) (c.fact 163 rfl)
  have F_Yard_remove_file : FunD K "remove_file" "Yard.remove_file" (defArgs s_Yard_remove_file) (defBody s_Yard_remove_file) (defScope s_Yard_remove_file) [] [] (fAd K ("Yard", some "remove_file")) fd_Yard_remove_file := F_Yard_remove_file
  have B_Yard_remove_file : Binds K fd_Yard_remove_file ["self", "name"] [] := FunD.bindsN F_Yard_remove_file fun _ _ _ _ _ _ us hl => match us, hl with | [_, _], _ => rfl
  obtain ⟨fd_Yard_make_record, F_Yard_make_record⟩ := _root_.He.DefD.funD (d := dd_Yard_make_record) (c.fnw 54 rfl) (c.fact 165 rfl)
  have F_Yard_make_record : FunD K "make_record" "Yard.make_record" (defArgs s_Yard_make_record) (defBody s_Yard_make_record) (defScope s_Yard_make_record) [.ref (dflAt ("Yard", some "make_record") 0 K), .non] [] (fAd K ("Yard", some "make_record")) fd_Yard_make_record := F_Yard_make_record
  have B_Yard_make_record : Binds K fd_Yard_make_record ["self", "name", "level", "msg", "args", "extra"] [] := nil_of (FunD.binds1 F_Yard_make_record 6 2 (List.cons_ne_nil _ _) rfl (fun _ _ _ _ _ _ _ us its h1 h2 => match us, its, h1, h2 with | [_, _, _, _, _, _], [_, _], _, _ => ⟨_, rfl, rfl⟩))
  obtain ⟨fd_Yard_streams, F_Yard_streams⟩ := _root_.He.DefD.funD (d := dd_Yard_streams) (c.fnw 55 rfl) (c.fact 167 rfl)
  have F_Yard_streams : FunD K "streams" "Yard.streams" (defArgs s_Yard_streams) (defBody s_Yard_streams) (defScope s_Yard_streams) [] [] (fAd K ("Yard", some "streams")) fd_Yard_streams := F_Yard_streams
  have B_Yard_streams : Binds K fd_Yard_streams ["self"] [] := FunD.bindsN F_Yard_streams fun _ _ _ _ _ _ us hl => match us, hl with | [_], _ => rfl
  obtain ⟨fd_Yard_files, F_Yard_files⟩ := _root_.He.DefD.funD (d := dd_Yard_files) (c.fnw 56 rfl) (c.fact 169 rfl)
  have F_Yard_files : FunD K "files" "Yard.files" (defArgs s_Yard_files) (defBody s_Yard_files) (defScope s_Yard_files) [] [] (fAd K ("Yard", some "files")) fd_Yard_files := F_Yard_files
  have B_Yard_files : Binds K fd_Yard_files ["self"] [] := FunD.bindsN F_Yard_files fun _ _ _ _ _ _ us hl => match us, hl with | [_], _ => rfl
  have B_Yard_make_record_4 : ∃ ds, Vals [.ref (dflAt ("Yard", some "make_record") 0 K), .non] ds ∧ Binds K fd_Yard_make_record ["self", "name", "level", "msg", "args", "extra"] ds := FunD.binds1 F_Yard_make_record 4 0 (List.cons_ne_nil _ _) rfl (fun _ _ _ _ _ _ _ us its h1 h2 => match us, its, h1, h2 with | [_, _, _, _], [_, _], _, _ => ⟨_, rfl, rfl⟩)
  have B_StreamHandler___init__ : Binds K fd_StreamHandler___init__ ["self", "yard", "stream"] [] := nil_of (SupDf.binds1 D_StreamHandler___init__ 3 1 (List.cons_ne_nil _ _) rfl (fun _ _ _ _ _ _ _ _ us its h1 h2 => match us, its, h1, h2 with | [_, _, _], [_], _, _ => ⟨_, rfl, rfl⟩))
  have B_Yard___init___1 : ∃ ds, Vals [.int 0] ds ∧ Binds K fd_Yard___init__ ["self", "now"] ds := FunD.binds1 F_Yard___init__ 1 0 (List.cons_ne_nil _ _) rfl (fun _ _ _ _ _ _ _ us its h1 h2 => match us, its, h1, h2 with | [_], [_], _, _ => ⟨_, rfl, rfl⟩)
  have B_StreamHandler___init___2 : ∃ ds, Vals [.str (SX.S [115, 116, 100, 101, 114, 114])] ds ∧ Binds K fd_StreamHandler___init__ ["self", "yard", "stream"] ds := SupDf.binds1 D_StreamHandler___init__ 2 0 (List.cons_ne_nil _ _) rfl (fun _ _ _ _ _ _ _ _ us its h1 h2 => match us, its, h1, h2 with | [_, _], [_], _, _ => ⟨_, rfl, rfl⟩)
  let T : Txt K mg := {
    B := ⟨free_ok X G (c.fact 0 rfl), free_ok X G (c.fact 1 rfl), free_ok X G (c.fact 2 rfl), free_ok X G (c.fact 3 rfl), free_ok X G (c.fact 4 rfl), free_ok X G (c.fact 5 rfl), free_ok X G (c.fact 6 rfl), free_ok X G (c.fact 7 rfl), free_ok X G (c.fact 8 rfl), free_ok X G (c.fact 9 rfl), free_ok X G (c.fact 10 rfl), free_ok X G (c.fact 11 rfl), free_ok X G (c.fact 12 rfl)⟩,
    f__wall := fAd K ("_wall", none),
    fd__wall := fd__wall,
    D__wall := ⟨(fun_of F__wall), glo_ok X G (c.fact 14 rfl), B__wall⟩,
    f_is_integer := fAd K ("is_integer", none),
    fd_is_integer := fd_is_integer,
    D_is_integer := ⟨(fun_of F_is_integer), glo_ok X G (c.fact 16 rfl), B_is_integer⟩,
    f_own_copy := fAd K ("own_copy", none),
    fd_own_copy := fd_own_copy,
    D_own_copy := ⟨(fun_of F_own_copy), glo_ok X G (c.fact 18 rfl), B_own_copy⟩,
    f_filled := fAd K ("filled", none),
    fd_filled := fd_filled,
    D_filled := ⟨(fun_of F_filled), glo_ok X G (c.fact 20 rfl), B_filled⟩,
    aGT_made_record := dflAt ("made_record", none) 0 K,
    f_made_record := fAd K ("made_record", none),
    fd_made_record := fd_made_record,
    D_made_record := ⟨F_made_record, glo_ok X G (c.fact 22 rfl), B_made_record⟩,
    f_through_one := fAd K ("through_one", none),
    fd_through_one := fd_through_one,
    D_through_one := ⟨(fun_of F_through_one), glo_ok X G (c.fact 24 rfl), B_through_one⟩,
    f_through_all := fAd K ("through_all", none),
    fd_through_all := fd_through_all,
    D_through_all := ⟨(fun_of F_through_all), glo_ok X G (c.fact 26 rfl), B_through_all⟩,
    f_is_mode := fAd K ("is_mode", none),
    fd_is_mode := fd_is_mode,
    D_is_mode := ⟨(fun_of F_is_mode), glo_ok X G (c.fact 28 rfl), B_is_mode⟩,
    f__law_draw := fAd K ("_law_draw", none),
    fd__law_draw := fd__law_draw,
    D__law_draw := ⟨(fun_of F__law_draw), glo_ok X G (c.fact 30 rfl), B__law_draw⟩,
    f__law_pick := fAd K ("_law_pick", none),
    fd__law_pick := fd__law_pick,
    D__law_pick := ⟨(fun_of F__law_pick), glo_ok X G (c.fact 32 rfl), B__law_pick⟩,
    f__law_same := fAd K ("_law_same", none),
    fd__law_same := fd__law_same,
    D__law_same := ⟨(fun_of F__law_same), glo_ok X G (c.fact 34 rfl), B__law_same⟩,
    f__law_yard_right := fAd K ("_law_yard_right", none),
    fd__law_yard_right := fd__law_yard_right,
    D__law_yard_right := ⟨(fun_of F__law_yard_right), glo_ok X G (c.fact 36 rfl), B__law_yard_right⟩,
    f__law_yard_deed := fAd K ("_law_yard_deed", none),
    fd__law_yard_deed := fd__law_yard_deed,
    D__law_yard_deed := ⟨(fun_of F__law_yard_deed), glo_ok X G (c.fact 38 rfl), B__law_yard_deed⟩,
    f_law := fAd K ("law", none),
    fd_law := fd_law,
    D_law := ⟨(fun_of F_law), glo_ok X G (c.fact 40 rfl), B_law⟩,
    file := theFile,
    C_Clock := (ga K "Clock"),
    g_Clock := glo_ok X G (c.fact 41 rfl),
    o_Clock := ocB_ok (c.fact 42 rfl),
    a_Clock_init := fAd K ("Clock", some "__init__"),
    fd_Clock_init := fd_Clock___init__,
    F_Clock_init := (fun_of F_Clock___init__),
    M_Clock := mkB_ok (c.fact 44 rfl),
    b_Clock_init := B_Clock___init__,
    a_Clock_now := fAd K ("Clock", some "now"),
    fd_Clock_now := fd_Clock_now,
    F_Clock_now := (fun_of F_Clock_now),
    Me_Clock_now := metB_ok (c.fact 46 rfl),
    b_Clock_now := B_Clock_now,
    a_Clock_advance := fAd K ("Clock", some "advance"),
    fd_Clock_advance := fd_Clock_advance,
    F_Clock_advance := (fun_of F_Clock_advance),
    Me_Clock_advance := metB_ok (c.fact 48 rfl),
    b_Clock_advance := B_Clock_advance,
    C_LevelTable := (ga K "LevelTable"),
    g_LevelTable := glo_ok X G (c.fact 49 rfl),
    o_LevelTable := ocB_ok (c.fact 50 rfl),
    a_LevelTable_init := fAd K ("LevelTable", some "__init__"),
    fd_LevelTable_init := fd_LevelTable___init__,
    F_LevelTable_init := (fun_of F_LevelTable___init__),
    M_LevelTable := mkB_ok (c.fact 52 rfl),
    b_LevelTable_init := B_LevelTable___init__,
    a_LevelTable_level_name := fAd K ("LevelTable", some "level_name"),
    fd_LevelTable_level_name := fd_LevelTable_level_name,
    F_LevelTable_level_name := (fun_of F_LevelTable_level_name),
    Me_LevelTable_level_name := metB_ok (c.fact 54 rfl),
    b_LevelTable_level_name := B_LevelTable_level_name,
    a_LevelTable_number := fAd K ("LevelTable", some "number"),
    fd_LevelTable_number := fd_LevelTable_number,
    F_LevelTable_number := (fun_of F_LevelTable_number),
    Me_LevelTable_number := metB_ok (c.fact 56 rfl),
    b_LevelTable_number := B_LevelTable_number,
    a_LevelTable_knows := fAd K ("LevelTable", some "knows"),
    fd_LevelTable_knows := fd_LevelTable_knows,
    F_LevelTable_knows := (fun_of F_LevelTable_knows),
    Me_LevelTable_knows := metB_ok (c.fact 58 rfl),
    b_LevelTable_knows := B_LevelTable_knows,
    C_Store := (ga K "Store"),
    g_Store := glo_ok X G (c.fact 59 rfl),
    o_Store := ocB_ok (c.fact 60 rfl),
    a_Store_init := fAd K ("Store", some "__init__"),
    fd_Store_init := fd_Store___init__,
    F_Store_init := (fun_of F_Store___init__),
    M_Store := mkB_ok (c.fact 62 rfl),
    b_Store_init := B_Store___init__,
    a_Store_has := fAd K ("Store", some "has"),
    fd_Store_has := fd_Store_has,
    F_Store_has := (fun_of F_Store_has),
    Me_Store_has := metB_ok (c.fact 64 rfl),
    b_Store_has := B_Store_has,
    a_Store_put := fAd K ("Store", some "put"),
    fd_Store_put := fd_Store_put,
    F_Store_put := (fun_of F_Store_put),
    Me_Store_put := metB_ok (c.fact 66 rfl),
    b_Store_put := B_Store_put,
    a_Store_write := fAd K ("Store", some "write"),
    fd_Store_write := fd_Store_write,
    F_Store_write := (fun_of F_Store_write),
    Me_Store_write := metB_ok (c.fact 68 rfl),
    b_Store_write := B_Store_write,
    a_Store_take_away := fAd K ("Store", some "take_away"),
    fd_Store_take_away := fd_Store_take_away,
    F_Store_take_away := (fun_of F_Store_take_away),
    Me_Store_take_away := metB_ok (c.fact 70 rfl),
    b_Store_take_away := B_Store_take_away,
    a_Store_text := fAd K ("Store", some "text"),
    fd_Store_text := fd_Store_text,
    F_Store_text := (fun_of F_Store_text),
    Me_Store_text := metB_ok (c.fact 72 rfl),
    b_Store_text := B_Store_text,
    a_Store_length := fAd K ("Store", some "length"),
    fd_Store_length := fd_Store_length,
    F_Store_length := (fun_of F_Store_length),
    Me_Store_length := metB_ok (c.fact 74 rfl),
    b_Store_length := B_Store_length,
    a_Store_all_names := fAd K ("Store", some "all_names"),
    fd_Store_all_names := fd_Store_all_names,
    F_Store_all_names := (fun_of F_Store_all_names),
    Me_Store_all_names := metB_ok (c.fact 76 rfl),
    b_Store_all_names := B_Store_all_names,
    a_Store_contents := fAd K ("Store", some "contents"),
    fd_Store_contents := fd_Store_contents,
    F_Store_contents := (fun_of F_Store_contents),
    Me_Store_contents := metB_ok (c.fact 78 rfl),
    b_Store_contents := B_Store_contents,
    C_Written := (ga K "Written"),
    g_Written := glo_ok X G (c.fact 79 rfl),
    o_Written := ocB_ok (c.fact 80 rfl),
    a_Written_init := fAd K ("Written", some "__init__"),
    fd_Written_init := fd_Written___init__,
    F_Written_init := (fun_of F_Written___init__),
    M_Written := mkB_ok (c.fact 82 rfl),
    b_Written_init := B_Written___init__,
    a_Written_grow := fAd K ("Written", some "grow"),
    fd_Written_grow := fd_Written_grow,
    F_Written_grow := (fun_of F_Written_grow),
    Me_Written_grow := metB_ok (c.fact 84 rfl),
    b_Written_grow := B_Written_grow,
    a_Written_whole := fAd K ("Written", some "whole"),
    fd_Written_whole := fd_Written_whole,
    F_Written_whole := (fun_of F_Written_whole),
    Me_Written_whole := metB_ok (c.fact 86 rfl),
    b_Written_whole := B_Written_whole,
    C_Roster := (ga K "Roster"),
    g_Roster := glo_ok X G (c.fact 87 rfl),
    o_Roster := ocB_ok (c.fact 88 rfl),
    a_Roster_init := fAd K ("Roster", some "__init__"),
    fd_Roster_init := fd_Roster___init__,
    F_Roster_init := (fun_of F_Roster___init__),
    M_Roster := mkB_ok (c.fact 90 rfl),
    b_Roster_init := B_Roster___init__,
    a_Roster_enter := fAd K ("Roster", some "enter"),
    fd_Roster_enter := fd_Roster_enter,
    F_Roster_enter := (fun_of F_Roster_enter),
    Me_Roster_enter := metB_ok (c.fact 92 rfl),
    b_Roster_enter := B_Roster_enter,
    C_Handler := (ga K "Handler"),
    g_Handler := glo_ok X G (c.fact 93 rfl),
    o_Handler := ocB_ok (c.fact 94 rfl),
    a_Handler_init := fAd K ("Handler", some "__init__"),
    fd_Handler_init := fd_Handler___init__,
    F_Handler_init := (fun_of F_Handler___init__),
    M_Handler := mkB_ok (c.fact 96 rfl),
    b_Handler_init := B_Handler___init__,
    a_Handler_setTerminator := fAd K ("Handler", some "setTerminator"),
    fd_Handler_setTerminator := fd_Handler_setTerminator,
    F_Handler_setTerminator := (fun_of F_Handler_setTerminator),
    Me_Handler_setTerminator := metB_ok (c.fact 98 rfl),
    b_Handler_setTerminator := B_Handler_setTerminator,
    a_Handler_filtered := fAd K ("Handler", some "filtered"),
    fd_Handler_filtered := fd_Handler_filtered,
    F_Handler_filtered := (fun_of F_Handler_filtered),
    Me_Handler_filtered := metB_ok (c.fact 100 rfl),
    b_Handler_filtered := B_Handler_filtered,
    a_Handler_handle := fAd K ("Handler", some "handle"),
    fd_Handler_handle := fd_Handler_handle,
    F_Handler_handle := (fun_of F_Handler_handle),
    Me_Handler_handle := metB_ok (c.fact 102 rfl),
    b_Handler_handle := B_Handler_handle,
    a_Handler_formatted := fAd K ("Handler", some "formatted"),
    fd_Handler_formatted := fd_Handler_formatted,
    F_Handler_formatted := (fun_of F_Handler_formatted),
    Me_Handler_formatted := metB_ok (c.fact 104 rfl),
    b_Handler_formatted := B_Handler_formatted,
    a_Handler_line := fAd K ("Handler", some "line"),
    fd_Handler_line := fd_Handler_line,
    F_Handler_line := (fun_of F_Handler_line),
    Me_Handler_line := metB_ok (c.fact 106 rfl),
    b_Handler_line := B_Handler_line,
    C_Logger := (ga K "Logger"),
    g_Logger := glo_ok X G (c.fact 107 rfl),
    o_Logger := ocB_ok (c.fact 108 rfl),
    a_Logger_init := fAd K ("Logger", some "__init__"),
    fd_Logger_init := fd_Logger___init__,
    F_Logger_init := (fun_of F_Logger___init__),
    M_Logger := mkB_ok (c.fact 110 rfl),
    b_Logger_init := B_Logger___init__,
    C_LoggerTree := (ga K "LoggerTree"),
    g_LoggerTree := glo_ok X G (c.fact 111 rfl),
    o_LoggerTree := ocB_ok (c.fact 112 rfl),
    a_LoggerTree_init := fAd K ("LoggerTree", some "__init__"),
    fd_LoggerTree_init := fd_LoggerTree___init__,
    F_LoggerTree_init := (fun_of F_LoggerTree___init__),
    M_LoggerTree := mkB_ok (c.fact 114 rfl),
    b_LoggerTree_init := B_LoggerTree___init__,
    C_StreamHandler := (ga K "StreamHandler"),
    g_StreamHandler := glo_ok X G (c.fact 115 rfl),
    o_StreamHandler := ocB_ok (c.fact 116 rfl),
    a_StreamHandler_init := fAd K ("StreamHandler", some "__init__"),
    fd_StreamHandler_init := fd_StreamHandler___init__,
    F_StreamHandler_init := F_StreamHandler___init__,
    M_StreamHandler := mkB_ok (c.fact 118 rfl),
    a_StreamHandler_setTerminator := fAd K ("StreamHandler", some "setTerminator"),
    fd_StreamHandler_setTerminator := fd_StreamHandler_setTerminator,
    F_StreamHandler_setTerminator := F_StreamHandler_setTerminator,
    Me_StreamHandler_setTerminator := metB_ok (c.fact 120 rfl),
    b_StreamHandler_setTerminator := B_StreamHandler_setTerminator,
    a_StreamHandler_filtered := fAd K ("StreamHandler", some "filtered"),
    fd_StreamHandler_filtered := fd_StreamHandler_filtered,
    F_StreamHandler_filtered := F_StreamHandler_filtered,
    Me_StreamHandler_filtered := metB_ok (c.fact 122 rfl),
    b_StreamHandler_filtered := B_StreamHandler_filtered,
    a_StreamHandler_handle := fAd K ("StreamHandler", some "handle"),
    fd_StreamHandler_handle := fd_StreamHandler_handle,
    F_StreamHandler_handle := F_StreamHandler_handle,
    Me_StreamHandler_handle := metB_ok (c.fact 124 rfl),
    b_StreamHandler_handle := B_StreamHandler_handle,
    a_StreamHandler_formatted := fAd K ("StreamHandler", some "formatted"),
    fd_StreamHandler_formatted := fd_StreamHandler_formatted,
    F_StreamHandler_formatted := F_StreamHandler_formatted,
    Me_StreamHandler_formatted := metB_ok (c.fact 126 rfl),
    b_StreamHandler_formatted := B_StreamHandler_formatted,
    a_StreamHandler_emit := fAd K ("StreamHandler", some "emit"),
    fd_StreamHandler_emit := fd_StreamHandler_emit,
    F_StreamHandler_emit := (fun_of F_StreamHandler_emit),
    Me_StreamHandler_emit := metB_ok (c.fact 128 rfl),
    b_StreamHandler_emit := B_StreamHandler_emit,
    C_FileHandler := (ga K "FileHandler"),
    g_FileHandler := glo_ok X G (c.fact 129 rfl),
    o_FileHandler := ocB_ok (c.fact 130 rfl),
    a_FileHandler_init := fAd K ("FileHandler", some "__init__"),
    fd_FileHandler_init := fd_FileHandler___init__,
    F_FileHandler_init := F_FileHandler___init__,
    M_FileHandler := mkB_ok (c.fact 132 rfl),
    b_FileHandler_init := B_FileHandler___init__,
    a_FileHandler_open_file := fAd K ("FileHandler", some "open_file"),
    fd_FileHandler_open_file := fd_FileHandler_open_file,
    F_FileHandler_open_file := (fun_of F_FileHandler_open_file),
    Me_FileHandler_open_file := metB_ok (c.fact 134 rfl),
    b_FileHandler_open_file := B_FileHandler_open_file,
    a_FileHandler_setTerminator := fAd K ("FileHandler", some "setTerminator"),
    fd_FileHandler_setTerminator := fd_FileHandler_setTerminator,
    F_FileHandler_setTerminator := F_FileHandler_setTerminator,
    Me_FileHandler_setTerminator := metB_ok (c.fact 136 rfl),
    b_FileHandler_setTerminator := B_FileHandler_setTerminator,
    a_FileHandler_filtered := fAd K ("FileHandler", some "filtered"),
    fd_FileHandler_filtered := fd_FileHandler_filtered,
    F_FileHandler_filtered := F_FileHandler_filtered,
    Me_FileHandler_filtered := metB_ok (c.fact 138 rfl),
    b_FileHandler_filtered := B_FileHandler_filtered,
    a_FileHandler_handle := fAd K ("FileHandler", some "handle"),
    fd_FileHandler_handle := fd_FileHandler_handle,
    F_FileHandler_handle := F_FileHandler_handle,
    Me_FileHandler_handle := metB_ok (c.fact 140 rfl),
    b_FileHandler_handle := B_FileHandler_handle,
    a_FileHandler_formatted := fAd K ("FileHandler", some "formatted"),
    fd_FileHandler_formatted := fd_FileHandler_formatted,
    F_FileHandler_formatted := F_FileHandler_formatted,
    Me_FileHandler_formatted := metB_ok (c.fact 142 rfl),
    b_FileHandler_formatted := B_FileHandler_formatted,
    a_FileHandler_emit := fAd K ("FileHandler", some "emit"),
    fd_FileHandler_emit := fd_FileHandler_emit,
    F_FileHandler_emit := (fun_of F_FileHandler_emit),
    Me_FileHandler_emit := metB_ok (c.fact 144 rfl),
    b_FileHandler_emit := B_FileHandler_emit,
    C_LogRecord := (ga K "LogRecord"),
    g_LogRecord := glo_ok X G (c.fact 145 rfl),
    o_LogRecord := ocB_ok (c.fact 146 rfl),
    a_LogRecord_init := fAd K ("LogRecord", some "__init__"),
    fd_LogRecord_init := fd_LogRecord___init__,
    F_LogRecord_init := (fun_of F_LogRecord___init__),
    M_LogRecord := mkB_ok (c.fact 148 rfl),
    b_LogRecord_init := B_LogRecord___init__,
    a_LogRecord_message := fAd K ("LogRecord", some "message"),
    fd_LogRecord_message := fd_LogRecord_message,
    F_LogRecord_message := (fun_of F_LogRecord_message),
    Me_LogRecord_message := metB_ok (c.fact 150 rfl),
    b_LogRecord_message := B_LogRecord_message,
    C_Yard := (ga K "Yard"),
    g_Yard := glo_ok X G (c.fact 151 rfl),
    o_Yard := ocB_ok (c.fact 152 rfl),
    a_Yard_init := fAd K ("Yard", some "__init__"),
    fd_Yard_init := fd_Yard___init__,
    F_Yard_init := F_Yard___init__,
    M_Yard := mkB_ok (c.fact 154 rfl),
    a_Yard_now := fAd K ("Yard", some "now"),
    fd_Yard_now := fd_Yard_now,
    F_Yard_now := (fun_of F_Yard_now),
    Me_Yard_now := metB_ok (c.fact 156 rfl),
    b_Yard_now := B_Yard_now,
    a_Yard_advance := fAd K ("Yard", some "advance"),
    fd_Yard_advance := fd_Yard_advance,
    F_Yard_advance := (fun_of F_Yard_advance),
    Me_Yard_advance := metB_ok (c.fact 158 rfl),
    b_Yard_advance := B_Yard_advance,
    a_Yard_text := fAd K ("Yard", some "text"),
    fd_Yard_text := fd_Yard_text,
    F_Yard_text := (fun_of F_Yard_text),
    Me_Yard_text := metB_ok (c.fact 160 rfl),
    b_Yard_text := B_Yard_text,
    a_Yard_put_file := fAd K ("Yard", some "put_file"),
    fd_Yard_put_file := fd_Yard_put_file,
    F_Yard_put_file := (fun_of F_Yard_put_file),
    Me_Yard_put_file := metB_ok (c.fact 162 rfl),
    b_Yard_put_file := B_Yard_put_file,
    a_Yard_remove_file := fAd K ("Yard", some "remove_file"),
    fd_Yard_remove_file := fd_Yard_remove_file,
    F_Yard_remove_file := (fun_of F_Yard_remove_file),
    Me_Yard_remove_file := metB_ok (c.fact 164 rfl),
    b_Yard_remove_file := B_Yard_remove_file,
    a_Yard_make_record := fAd K ("Yard", some "make_record"),
    fd_Yard_make_record := fd_Yard_make_record,
    aGT_Yard_make_record := dflAt ("Yard", some "make_record") 0 K,
    F_Yard_make_record := F_Yard_make_record,
    Me_Yard_make_record := metB_ok (c.fact 166 rfl),
    b_Yard_make_record := B_Yard_make_record,
    a_Yard_streams := fAd K ("Yard", some "streams"),
    fd_Yard_streams := fd_Yard_streams,
    F_Yard_streams := (fun_of F_Yard_streams),
    Me_Yard_streams := metB_ok (c.fact 168 rfl),
    b_Yard_streams := B_Yard_streams,
    a_Yard_files := fAd K ("Yard", some "files"),
    fd_Yard_files := fd_Yard_files,
    F_Yard_files := (fun_of F_Yard_files),
    Me_Yard_files := metB_ok (c.fact 170 rfl),
    b_Yard_files := B_Yard_files,
    dd_Yard_make_record := B_Yard_make_record_4,
    gt_Yard_make_record := (fun H => let ⟨_, _, _, l⟩ := tup0_ok (c.fact 171 rfl); ⟨.inr ⟨_, _, _, l, rfl, rfl, Nat.le_of_ble_eq_true rfl, .nil⟩, .kTuple l rfl⟩),
    b_StreamHandler_init := B_StreamHandler___init__,
    dd_Yard_init := B_Yard___init___1,
    kb_Yard_init := (let ⟨_, kb⟩ := FunD.kbindsD (ps := ["self", "now"]) F_Yard___init__ 1 ["now"] (fun us _ ws => us ++ ws) (List.cons_ne_nil _ _) (fun a _ b => a.append b) (fun T kV doc pm an cdv ct us its ws l1 l2 l3 => match us, its, ws, l1, l2, l3 with | [_], [_], [_], _, _, _ => ⟨_, rfl, rfl⟩); kb),
    c_BadMode := (ga K "BadMode"),
    i_BadMode := fAd K ("BadMode", some "__init__"),
    E_BadMode := errB_ok X G oneF_mode (c.fnw 57 rfl) (c.fact 172 rfl),
    SM_StreamHandler_handle := supB_ok (c.fact 173 rfl),
    SM_FileHandler_setTerminator := supB_ok (c.fact 174 rfl),
    SM_FileHandler_filtered := supB_ok (c.fact 175 rfl),
    SM_FileHandler_handle := supB_ok (c.fact 176 rfl),
    SM_FileHandler_formatted := supB_ok (c.fact 177 rfl),
    b_FileHandler_line := B_Handler_line,
    Me_FileHandler_line := metB_ok (c.fact 178 rfl),
    SM_FileHandler_init := supB_ok (c.fact 179 rfl),
    c_BadExtra := (ga K "BadExtra"),
    i_BadExtra := fAd K ("BadExtra", some "__init__"),
    E_BadExtra := errB_ok X G oneF_name (c.fnw 58 rfl) (c.fact 180 rfl),
    aKN := (ga K "KEPT_NAMES"),
    k_KEPT_NAMES := ⟨_, glo_ok X G (c.fact 181 rfl), rfl⟩,
    t_KEPT_NAMES := (fun H => tupB_ok (c.fact 182 rfl) H),
    c_BadLevel := (ga K "BadLevel"),
    i_BadLevel := fAd K ("BadLevel", some "__init__"),
    E_BadLevel := errB_ok X G oneF_level (c.fnw 59 rfl) (c.fact 183 rfl),
    aFN := (ga K "FIRST_NAMES"),
    aFM := (ga K "FIRST_NUMBERS"),
    k_FIRST_NAMES := ⟨_, glo_ok X G (c.fact 184 rfl), rfl⟩,
    k_FIRST_NUMBERS := ⟨_, glo_ok X G (c.fact 185 rfl), rfl⟩,
    k_NOTSET := (let ⟨t, e⟩ := int_ok X G (c.fact 186 rfl); ⟨_, e, ⟨t, rfl⟩⟩),
    k_WARNING := (let ⟨t, e⟩ := int_ok X G (c.fact 187 rfl); ⟨_, e, ⟨t, rfl⟩⟩),
    dd_StreamHandler_init := B_StreamHandler___init___2,
    SM_StreamHandler_setTerminator := supB_ok (c.fact 188 rfl),
    SM_StreamHandler_filtered := supB_ok (c.fact 189 rfl),
    SM_StreamHandler_formatted := supB_ok (c.fact 190 rfl),
    b_StreamHandler_line := B_Handler_line,
    Me_StreamHandler_line := metB_ok (c.fact 191 rfl),
    SM_StreamHandler_init := supB_ok (c.fact 192 rfl) }
  have e : ga K "law" = fa := by
    have e1 := (glo_ok X G (c.fact 40 rfl)).symm.trans hfa
    exact Value.ref.inj (Option.some.inj e1)
  have b := FunD.bindsA (ps := ["_law_script"]) F_law fun _ _ _ _ _ _ us hl => match us, hl with | [_], _ => rfl
  subst e
  exact ⟨fd_law, fun s v => b s [v] rfl, fun base _ _ => ok_law T ⟨⟨hPf, hPt, free_ok X G (c.fact 10 rfl)⟩, dkc_of (a := fun K => ga K "FIRST_NAMES") (kvs := firstNames) (c.dic 0 rfl) (c.fact 193 rfl) (by decide +kernel) (by decide), dkc_of (a := fun K => ga K "FIRST_NUMBERS") (kvs := firstNumbers) (c.dic 1 rfl) (c.fact 194 rfl) (by decide +kernel) (by decide)⟩⟩
end My


namespace My
open PySem PySem.Spec PyProof.Rows L2 _root_.He HdF
def adrL0 : List (Addr) := [3, 2, 21, 136, 143, 186, 195, 231, 238, 1212, 1338, 1345, 1350, 1355, 1362, 1367, 787, 299, 752, 656, 621, 411, 967, 1044, 532, 1329, 175, 1201, 127, 70, 144, 51, 239, 240, 31, 786, 298, 751, 655, 620]
def adrL1 : List (Addr) := [410, 966, 1043, 531, 1328, 174, 1200, 126, 69, 50, 30, 770, 777, 784, 254, 268, 289, 282, 674, 681, 688, 695, 702, 716, 723, 744, 749, 639, 646, 653, 548, 555, 317, 338, 366, 373, 387, 394, 805, 985]
def adrL2 : List (Addr) := [432, 468, 497, 505, 513, 446, 1229, 1236, 1273, 1302, 1310, 1318, 1243, 158, 172, 1063, 1070, 1077, 1084, 1103, 1110, 1140, 1089, 1096, 124, 67, 48, 20, 135, 142, 185, 194, 188, 187, 230, 237, 1211, 1337, 1344, 1349]
def adrL3 : List (Addr) := [1354, 1361, 1366, 769, 776, 783, 253, 267, 288, 281, 673, 680, 687, 694, 701, 715, 722, 743, 748, 638, 645, 652, 547, 554, 316, 337, 365, 372, 386, 393, 804, 984, 431, 424, 419, 467, 496, 504, 512, 445]
def adrL4 : List (Addr) := [1228, 1221, 1216, 1235, 1272, 1301, 1309, 1317, 1242, 157, 171, 1062, 1056, 1069, 1076, 1083, 1102, 1109, 1139, 1133, 1132, 1088, 1095, 123, 66, 47]
def adrL : List (Addr) := adrL0 ++ adrL1 ++ adrL2 ++ adrL3 ++ adrL4
def looseL0 : List (Str) := ["_wall", "__name__", "YardError", "BadLevel", "BadExtra", "BadMessage", "BadField", "BadMode", "is_integer", "own_copy", "KEPT_NAMES", "LogRecord", "filled", "made_record", "Filter", "through_one", "through_all", "WARNING", "NOTSET", "FIRST_NAMES", "FIRST_NUMBERS", "LevelTable", "Handler", "StreamHandler", "Roster", "Written", "Store", "Clock", "Logger", "LoggerTree"]
def looseL1 : List (Str) := ["Yard", "is_mode", "FileHandler", "_law_draw", "_law_pick", "_law_same", "_law_yard_right", "_law_yard_deed"]
def looseL : List (Str) := looseL0 ++ looseL1
abbrev theRow : PySem.W.OpenRow := PySem.W.OpenLaw.row PySem.Challenge.rw_recordyard_k15_clocks_streams_and_files
abbrev theView : Program := PySem.W.view theRow.prog [52]
def obL (s : PySem.W.SharedT) : AlF := obsFG adrL FF (HandSHeadRun.getT s)
theorem obL_eq (s : PySem.W.SharedT) : obL s = (hookF adrL FF).obs s.abs := obsFG_eq (HandSHeadRun.getT_eq s)
theorem runF (w : World) : HandSHeadRun.RunEq theRow theView (hookF adrL FF) obL 30000 looseL (w.withFollow "special-get-raises" false) := by
  intro os
  kernel_rfl
theorem runT (w : World) : HandSHeadRun.RunEq theRow theView (hookF adrL FF) obL 30000 looseL (w.withFollow "special-get-raises" true) := by
  intro os
  kernel_rfl
theorem run (w : World) : HandSHeadRun.RunEq theRow theView (hookF adrL FF) obL 30000 looseL w :=
  PySem.W.byRow2 "special-get-raises" (P := fun w => HandSHeadRun.RunEq theRow theView (hookF adrL FF) obL 30000 looseL w) runF runT w
end My
open PySem PySem.W PySem.Calls PyProof.Rows
theorem PySem.Challenge.cw_recordyard_k15_clocks_streams_and_files_holds : PySem.Challenge.rw_recordyard_k15_clocks_streams_and_files.Holds := by
  w_on; o_law
  refine HandSHeadRun.head_any (r := OpenLaw.row PySem.Challenge.rw_recordyard_k15_clocks_streams_and_files) (q := My.theView) (H := HdF.hookF My.adrL My.FF) (ob := My.obL) (M := 30000) (loose := My.looseL) (d := HandSHeadRun.topDef (OpenLaw.row PySem.Challenge.rw_recordyard_k15_clocks_streams_and_files).prog 52) (kwd := []) My.obL_eq
    (by kernel_rfl) (fun s => by kernel_rfl) My.run (by kernel_rfl) (by kernel_rfl) (by kernel_rfl) (by rfl) (by first | assumption | decide +kernel) (by decide +kernel) ⟨rfl, rfl, rfl, rfl, rfl, by decide +kernel⟩ ?hw ?hc
  case hw => w_witness2
  case hc =>
    refine L2.walk_ofE (l := PySem.Challenge.rw_recordyard_k15_clocks_streams_and_files) (n := 63) (k := 10) (x := "_law_script") (CX := L2.CX0) rfl (by decide) (by kernel_rfl) ⟨rfl, by decide, by decide⟩ ?F (fun _ _ _ _ z => z)
    intro w mg fa h Y G hmg0
    obtain ⟨K, KX, c⟩ := Y
    have hmg : mg ("law" : PySem.Str) = some (.ref fa) := by
      have e : (HandSHeadRun.topDef (OpenLaw.row PySem.Challenge.rw_recordyard_k15_clocks_streams_and_files).prog 52).name = ("law" : PySem.Str) := by kernel_rfl
      rw [← e]
      exact hmg0
    obtain ⟨fd, hb, hF⟩ := My.facts (P := (PySem.Challenge.rw_recordyard_k15_clocks_streams_and_files).prog) (w := w) KX G hmg c (by kernel_rfl) (by kernel_rfl)
    exact ⟨K, fd, My.spLaw K, KX, hb, fun H a ns hl _ hS => .a ⟨a, ns, rfl, hS, fun _ => rfl⟩, hF⟩
