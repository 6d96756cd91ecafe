import PyProof.Rows.All
import Wide.All
import OpenK.AllK
import Wide.FinOn
import HandS.ForMost
import HandS.ExcInit
import HandS.IsInst
import HandS.ExcIs
import HandS.ExcValue
import HandS.HotCalls
import HandS.ForExc
import HandS.TryMany
import HandS.Codes
import HandS.Words
import HandS.ReplaceLit
import HandS.ReplaceList
import KE.KDictZip
import HandS.Text
import HandS.AnyAll
import HandS.DictComp
import PyProof.NeKinds
import HandS.StrMore
import PyProof.StrLawsFrom
import HandS.Walk
import HandS.Zip
import HandS.More
import HandS.Defaults
import HandS.Rev
import HandS.Replace
import HandS.Style
import HandS.MakeKw
import HandS.ReplaceDef
import HandS.EndOwn
import PySem.Challenge.RW_recordyard_k08_formats_in_braces_refused
set_option Elab.async false
set_option linter.all false
set_option maxRecDepth 100000
set_option maxHeartbeats 4000000
namespace My
open PySem PySem.W PySem.Calls PyProof.Rows PySem.HandSPX
section
variable {prog : Program} {w : World} {A : Around} {M : Model} {E : Value → Shared → Prop} {R : Result → Shared → Prop} {h : Heap} {g : Array GenState} {d : Drawn} {t : Nat} {os : OsState}
variable {nm q : Str} {C N : Addr} {bs bm bmB : List Value} {hdct : Bool} {sn : List Str} {sub : List Value} {ab : Bool} {col : Option Bool} {dd : Option Addr} {k0 k1 k2 k3 k5 : Option Value} {B newId initId : String}
theorem chk_new_kw (F : ExcBaseFacts B newId initId bmB) (hT : ∀ X : String, bm.contains (.type X) = bmB.contains (.type X)) {rest : List Value}
    {kw : List (Str × Value)} {Q : Unit → Shared → Prop} (hC : h.get? C = some (excClassObj nm q C N bs bm hdct sn sub ab col dd k0 k1 k2 k3 k5 newId))
    (hq : Q () ⟨h, g, d, t, os⟩) :
    wpAny M A (checkBuiltinCall newId ⟨.ref C :: rest, kw⟩) Q E ⟨h, g, d, t, os⟩ := by
  have hc : (Value.ref C :: bm).contains (.type B) = true := by
    rw [List.contains_cons, hT, F.hasB, Bool.or_true]
  have hstar := F.noStar
  simp only [checkBuiltinCall, F.newKind, F.newSplit, F.newRow]
  repeat (first
    | refine wpAny_loadPart_at hC ?_
    | (refine wpAny_isSubtype_exc hC ?_; rw [hc])
    | refine wpAny_staticBase_exc hC ?_
    | refine wpAny_madeBy_exc hC ?_
    | simp only [bne_self_eq_false, Bool.false_eq_true, if_false]
    | wp_step)
  exact hq
theorem new_kw (F : ExcBaseFacts B newId initId bmB) (hT : ∀ X : String, bm.contains (.type X) = bmB.contains (.type X)) {rest : List Value}
    {kw : List (Str × Value)} (hC : h.get? C = some (excClassObj nm q C N bs bm hdct sn sub ab col dd k0 k1 k2 k3 k5 newId))
    (hq : R (.ok (.ret (.ref (h.objs.size + 1)))) ⟨(h.push (kdv_tup rest)).push (excO C h.objs.size), g, d, t, os⟩)
    (hrest : rest.length ≤ sizeLine) :
    codeAny (model prog w) A (.builtin newId ⟨.ref C :: rest, kw⟩) R ⟨h, g, d, t, os⟩ := by
  have hends := F.ends
  have h1 : (Value.ref C :: bm).contains (.type B) = true := by
    rw [List.contains_cons, hT, F.hasB, Bool.or_true]
  have h2 : (Value.ref C :: bm).contains (.type "AttributeError") = false := by
    rw [List.contains_cons, hT, F.noAttr]; rfl
  have h3 : (Value.ref C :: bm).contains (.type "NameError") = false := by
    rw [List.contains_cons, hT, F.noName]; rfl
  refine PySem.codeAny_builtinAt F.entry ?_
  unfold Builtin.«BaseException.__new__»
  refine PySem.wpAt_bind ?_
  show PySem.wpAt _ _ _ (stack >>= _) _ _ _
  refine PySem.wpAt_bind (PySem.wpAt_stack fun p below => PySem.wpAt_of_wpAny ?_)
  wp_walk
  refine PySem.wpAt_of_wpAny ?_
  rw [F.owner]
  repeat (first
    | with_reducible refine wpAny_madeHere_exc F.canon hC ?_
    | with_reducible refine wpAny_loadPart_at hC ?_
    | (with_reducible refine wpAny_isSubtype_exc hC ?_; first | rw [h1] | rw [h2] | rw [h3])
    | wp_step)
  show R _ _
  rw [Heap.size_push]
  exact hq
theorem tcall_kw (F : ExcBaseFacts B newId initId bmB) (hT : ∀ X : String, bm.contains (.type X) = bmB.contains (.type X)) {rest : List Value}
    {kw : List (Str × Value)} {fI : Addr} {Q : Fin → Shared → Prop} (hC : h.get? C = some (excClassObj nm q C N bs bm hdct sn sub ab col dd k0 k1 k2 k3 k5 newId))
    (hi : W.Looks (model prog w) h (typeLookup (.ref C) "__init__") (some (.ref fI)))
    (hb : ∀ self, W.Looks (model prog w) h (bindSpecial (.ref fI) self) (.ref fI, [self])) (hrest : rest.length ≤ sizeLine)
    (hq : codeAny (model prog w) A (.call (.ref fI) ⟨.ref (h.objs.size + 1) :: rest, kw⟩)
      (fun r s' => match r with
        | .ok (.ret v) => v = .none ∧ Q (.done (.ret (.ref (h.objs.size + 1)))) s'
        | .ok _ => False
        | .error e => E e s')
      ⟨(h.push (kdv_tup rest)).push (excO C h.objs.size), g, d, t, os⟩) :
    wpAny (model prog w) A (Builtin.«type.__call__» ⟨.ref C :: rest, kw⟩) Q E ⟨h, g, d, t, os⟩ := by
  repeat (first
    | with_reducible refine wpAny_loadPart_at hC ?_
    | with_reducible refine wpAny_madeBy_exc hC ?_
    | wp_step)
  refine codeAny_call_builtin_code (Code.quiet_builtin _ F.quiet) (chk_new_kw F hT hC ?_)
  refine new_kw F hT hC ?_ hrest
  show wpAny _ _ _ _ _ _
  have kp : ∀ b o, h.get? b = some o → ((h.push (kdv_tup rest)).push (excO C h.objs.size)).get? b = some o :=
    fun b o e => Heap.get?_push_of_some _ (Heap.get?_push_of_some _ e)
  have hC1 := kp _ _ hC
  have hg : ((h.push (kdv_tup rest)).push (excO C h.objs.size)).get? (h.objs.size + 1) = some (excO C h.objs.size) := by
    heap_get
  have hcC : (Value.ref C :: bm).contains (.ref C) = true := by simp
  have i1 := hi.keeps kp
  have b1 := (hb (.ref (h.objs.size + 1))).keeps kp
  unfold isInstance
  repeat (first
    | with_reducible refine wpAny_loadPart_at hg ?_
    | (with_reducible refine wpAny_isSubtype_exc hC1 ?_; rw [hcC])
    | wp_step)
  show wpAny _ _ (typeLookup (.ref C) _) _ _ _
  refine i1.at ?_
  refine wpAny_holding (wpAny_bind (b1.at ?_))
  refine wpAny_bind (wpAny_call (codeAny_mono hq fun r s' z => ?_))
  rcases r with e | (v | _ | _ | _) <;> first
    | exact z
    | exact z.elim
    | skip
  obtain ⟨rfl, z⟩ := z
  first
    | exact wpAny_pure (wpAny_pure z)
    | (wp_walk; exact z)
theorem call_kw (F : ExcBaseFacts B newId initId bmB) (hT : ∀ X : String, bm.contains (.type X) = bmB.contains (.type X)) {rest : List Value}
    {kw : List (Str × Value)} {fI : Addr} (hC : h.get? C = some (excClassObj nm q C N bs bm hdct sn sub ab col dd k0 k1 k2 k3 k5 newId))
    (hi : W.Looks (model prog w) h (typeLookup (.ref C) "__init__") (some (.ref fI)))
    (hb : ∀ self, W.Looks (model prog w) h (bindSpecial (.ref fI) self) (.ref fI, [self])) (hrest : rest.length ≤ sizeLine)
    (hq : codeAny (model prog w) (A.under (.builtin "type.__call__" ⟨.ref C :: rest, kw⟩)) (.call (.ref fI) ⟨.ref (h.objs.size + 1) :: rest, kw⟩)
      (W.InitBack (h.objs.size + 1) R) ⟨(h.push (kdv_tup rest)).push (excO C h.objs.size), g, d, t, os⟩) :
    codeAny (model prog w) A (.call (.ref C) ⟨rest, kw⟩) R ⟨h, g, d, t, os⟩ := by
  have f1 := tc_lookup
  have f2 := tc_bind (.ref C)
  have hTy : (⟨h, g, d, t, os⟩ : Shared).TypeIs (.ref C) "type" := ⟨_, hC, rfl⟩
  refine codeAny_of_tree ?_
  show wpAny _ _ (callAny (.ref C) _) _ _ _
  repeat (any_goals (first
    | assumption
    | with_reducible refine wpAny_loadPart_at hC ?_
    | wp_step))
  refine ⟨rfl, ?_⟩
  refine codeAny_call_builtin_at (Code.quiet_builtin _ (by decide +kernel)) entry_typeCall
    (wpAny_check_type_call_sub hC (tcall_kw F hT hC hi hb hrest ?_))
  refine codeAny_mono hq fun r s' z => ?_
  rcases r with e | (v | _ | _ | _) <;> exact z
end
end My

namespace My
open PySem PySem.W PySem.Calls PyProof.Rows PySem.HandSPX
/-! ### isinstance of an exception with a dict of its own -/
section
variable {prog : Program} {w : World} {A : Around} {E : Value → Shared → Prop} {s : Shared} {K : Frag} {x D : Addr} {ox : Obj} {od : Option Obj}
theorem kin_cls (T : L2.ExcC K D) (X : K.In s.heap) (I : InstAt s.heap x ox D od) {Q : Option Value → Shared → Prop}
    (h : Q (some (.ref D)) { s with toks := s.toks + 1 }) :
    wpAny (model prog w) A (getAttr? (.ref x) "__class__") Q E s := by
  have hf : findObj K D od "__class__" = some (.bind (.builtin "getset_descriptor.__get__") (.builtin "object.__class__")) := by
    obtain ⟨cd, hc, _⟩ := any_some T.hd
    unfold findObj
    rw [hc, Option.bind_some, T.ha, Option.bind_some]
    simp [T.hn, T.ht]
  obtain ⟨hp, g, d, t, os⟩ := s
  have L0 := I.type (M := model prog w)
  have L1 := looks_findIn (M := model prog w) X T.hg
  have L2 := looks_findIn (M := model prog w) X T.hk
  have L3 := looks_find (M := model prog w) X I hf
  have su : Looks (model prog w) hp (isInstance (.ref x) (.type "BaseException")) true := L0.andThen (looks_subIn X T.hs)
  have n0 : (false && onTheHeap (Value.builtin "BaseException.__getattribute__")) = false := rfl
  have n2 : (Value.builtin "BaseException.__getattribute__" == Value.builtin "object.__getattribute__") = false := by
    decide +kernel
  have n1 : (onTheHeap (Value.ref D) && Value.builtin "BaseException.__getattribute__" == Value.builtin "object.__getattribute__") = false := by
    rw [n2]; rfl
  unfold getAttr? getAttrBy? getAttrBy
  refine wpAny_bind (wpAny_mkText (wpAny_bind (wpAny_attempt (wpAny_holding (wpAny_bind (L0.at (wpAny_bind (L1.at ?_))))))))
  show wpAny _ _ (if (onTheHeap (Value.ref D) && Value.builtin "BaseException.__getattribute__" == Value.builtin "object.__getattribute__") = true
    then _ else _) _ _ _
  rw [n1, if_neg Bool.false_ne_true]
  unfold getAttrByItsOwn hookBefore
  refine wpAny_bind ?_
  rw [if_pos (show onTheHeap (Value.ref D) = true from rfl)]
  refine L2.at ?_
  refine wpAny_bind (wpAny_attempt (wpAny_holding ?_))
  unfold callGetattribute
  rw [n0, if_neg Bool.false_ne_true]
  unfold boundAndCalled
  rw [PySem.F.excAttr_ValueError.ga.bind (.ref x)]
  refine wpAny_bind (wpAny_pure ?_)
  show wpAny _ _ (call (.builtin "BaseException.__getattribute__") [.ref x, .str "__class__" t]) _ _ _
  refine wpAny_call (codeAny_call_builtin PySem.F.excAttr_ValueError.ga.plain PySem.F.entry_bexc_ga ?_)
  refine @check_slot (model prog w) _ _ ⟨hp, g, d, t + 1, os⟩ "BaseException.__getattribute__" "BaseException" "__getattribute__" (.ref x)
    [.str "__class__" t] [] _ (by decide +kernel) (by decide +kernel) su (PySem.F.args_bexc_ga (.ref x) (.str "__class__" t)) ?_
  unfold Builtin.«object.__getattribute__»
  refine wpAny_bind (wpAny_of_eq (a := ((Value.ref x : Value), [Value.str "__class__" t]))
    (by first | rfl | (simp only [slotArgs]; rfl)) ?_)
  refine wpAny_bind (wpAny_pure (wpAny_bind (L0.at (wpAny_bind (L3.at ?_)))))
  show wpAny _ _ (holding [Value.builtin "object.__class__"]
    (call (.builtin "getset_descriptor.__get__") [.builtin "object.__class__", .ref x, .ref D]) >>= ret) _ _ _
  refine wpAny_bind (wpAny_holding (wpAny_call (class_get (s := ⟨hp, g, d, t + 1, os⟩) (ox := ox) (od := od) X I T.hm ?_)))
  refine wpAny_pure ?_
  show wpAny _ _ (handedOut (.ref D)) _ _ _
  rw [handedOut_of (v := .ref D) rfl]
  first
    | exact wpAny_pure (wpAny_pure h)
    | exact wpAny_pure h
    | exact wpAny_pure (wpAny_bind (wpAny_pure (wpAny_pure h)))
theorem kitx_e (T : L2.ExcC K D) : KitX K (.ref x) (.ref D) (fun h => InstAt h x ox D od) where
  ty := fun _ _ _ I => I.type
  it := fun _ _ X _ => by
    obtain ⟨cd, hc, _⟩ := any_some T.hd
    unfold clsIn at hc
    split at hc
    · rename_i ho
      intro A' Q' E' s' k q
      unfold isType loadHead
      exact wpAny_bind (wpAny_loadPart (k _ _ (X _ _ ho)) (wpAny_pure q))
    · exact nomatch hc
  ne := fun h tp dd its n sl X htp => by
    obtain ⟨cd, hc, _⟩ := any_some T.hd
    refine Bool.eq_false_iff.mpr fun q => ?_
    have e : D = tp := Value.ref.inj (beq_iff_eq.mp q)
    subst e
    unfold clsIn at hc
    split at hc
    · rename_i ho
      exact nomatch (X _ _ ho).symm.trans htp
    · exact nomatch hc
  ca := fun X I k => kin_cls T X I k
end
end My

namespace My
open PySem PySem.W PySem.Calls PyProof.Rows PySem.HandSPX
/-! ### an own error class whose __init__ stores its one argument under its own name f -/
def eA (f : Str) (p1 p2 : Pos) : Arguments :=
  { posonlyargs := [], args := [{ arg := "self", annotation := none, pos := p1 }, { arg := f, annotation := none, pos := p2 }], vararg := none,
    kwonlyargs := [], kw_defaults := [], kwarg := none, defaults := [] }
def eB (f : Str) (q1 q2 q3 q4 : Pos) : List Stmt := [.Assign [.Attribute (.Name "self" q1) f q2] (.Name f q3) q4]
def eS (f : Str) : Scope :=
  { kind := .function, names := [(PySem.Str.ofString "self", .local), (f, .local)], isGenerator := false, isCoroutine := false, more := [] }
structure OneF (f : Str) : Prop where
  b1 : ∀ (qual : Str) (p1 p2 q1 q2 q3 q4 : Pos) (doc pm : Value) (an : Option Addr) (cdv ct x v : Value),
    bindArgs (fnOf "__init__" qual (eA f p1 p2) (eB f q1 q2 q3 q4) (eS f) .none .none doc pm an cdv ct) ⟨[x, v], []⟩ = pure [(("self" : Str), x), (f, v)]
  b2 : ∀ (qual : Str) (p1 p2 q1 q2 q3 q4 : Pos) (doc pm : Value) (an : Option Addr) (cdv ct x v : Value),
    bindArgs (fnOf "__init__" qual (eA f p1 p2) (eB f q1 q2 q3 q4) (eS f) .none .none doc pm an cdv ct) ⟨[x], [(f, v)]⟩ = pure [(("self" : Str), x), (f, v)]
  nd : (f == ("__debug__" : Str)) = false
  lk : (eS f).names.lookup f = some .local
  al : ∀ (x v : Value), ([(("self" : Str), x), (f, v)].all fun y =>
      List.lookup y.fst (eS f).names == some NameKind.local || List.lookup y.fst (eS f).names == some NameKind.cell) = true
  vs : ∀ (q : Str) (L a : Addr) (cd x v : Value), bindL (envOfC q (eS f) L a cd).kindOf [(("self" : Str), x), (f, v)] (fun _ => none) "self" = some x
  vf : ∀ (q : Str) (L a : Addr) (cd x v : Value), bindL (envOfC q (eS f) L a cd).kindOf [(("self" : Str), x), (f, v)] (fun _ => none) f = some v
  kf : ∀ (q : Str) (L a : Addr) (cd : Value), (envOfC q (eS f) L a cd).kindOf f = some .local
theorem oneF_level : OneF "level" := ⟨by intros; rfl, by intros; rfl, by decide +kernel, by decide +kernel, by intros; rfl, by intros; rfl, by intros; rfl, by intros; rfl⟩
structure ErrTxt (K : Frag) (mg : Str → Option Value) (cn f : Str) (C fI : Addr) : Prop where
  one : OneF f
  gC : mg cn = some (.ref C)
  cls : ∃ nm q N bs bm sn sub ab col dd k0 k1 k2 k3 k5,
    K.lookup C = some (excClassObj nm q C N bs bm true sn sub ab col dd k0 k1 k2 k3 k5 "ValueError.__new__") ∧ refsVE bm = true
  sa : findIn K (.ref C) "__setattr__" = some (some (.builtin "object.__setattr__"))
  ga : findIn K (.ref C) "__getattribute__" = some (some (.builtin "BaseException.__getattribute__"))
  gg : findIn K (.ref C) "__getattr__" = some none
  noN : findIn K (.ref C) f = some none
  iC : findIn K (.ref C) "__init__" = some (some (.ref fI))
  tC : typeIn K (.ref fI) = some (.type "function")
  kC : keepIn K (.ref C) = true
  exC : subIn K (.ref C) (.type "BaseException") = some true
  tyC : typeIn K (.ref C) = some (.type "type")
  hdC : hasDictIn K C = true
  fn : ∃ (oc : Value) (od : Option Addr) (q : Str) (doc pm : Value) (an : Option Addr) (cdv ct : Value) (osl : Array (Option Value)) (p1 p2 q1 q2 q3 q4 : Pos),
    K.lookup fI = some ⟨oc, od, .func (fnOf "__init__" q (eA f p1 p2) (eB f q1 q2 q3 q4) (eS f) .none .none doc pm an cdv ct), osl⟩ ∧ codeIn K cdv q = true
structure IEnd (h h' : Heap) (x C dx t1 : Addr) (f : Str) (v : Value) : Prop where
  keep : ∀ b o, b ≠ x → h.get? b = some o → h'.get? b = some o
  obj : h'.get? x = some { cls := .ref C, dict := some dx, data := .fields #[.ref t1, .none, .none, .none, .bool false, .none] }
  dbig : h.objs.size ≤ dx
  dne : dx ≠ x
  ns : h'.Ns1 dx (fun y => if y = f then some v else none)
structure EMade (h h' : Heap) (e C d : Addr) (f : Str) (v : Value) : Prop where
  keep : ∀ b o, h.get? b = some o → h'.get? b = some o
  new : h.objs.size ≤ e
  obj : ∃ t1, h'.get? e = some { cls := .ref C, dict := some d, data := .fields #[.ref t1, .none, .none, .none, .bool false, .none] }
  dbig : h.objs.size ≤ d
  dne : d ≠ e
  ns : h'.Ns1 d (fun y => if y = f then some v else none)
theorem size1 (v : Value) : [v].length ≤ sizeLine := by
  rw [sizeLine_eq]
  exact (by decide : 1 ≤ 16777216)
section
variable {prog : Program} {w : World} {A : Around} {E : Value → Shared → Prop} {R : Result → Shared → Prop} {s : Shared} {K : Frag} {mg : Str → Option Value} {cn f : Str} {C fI : Addr}
theorem err_init (T : ErrTxt K mg cn f C fI) {x t0 : Addr} {v : Value} {args : Args} (ha : args = ⟨[.ref x, v], []⟩ ∨ args = ⟨[.ref x], [(f, v)]⟩)
    (X : K.In s.heap) (hlim : s.heap.NoLimit) (hx : s.heap.get? x = some (excO C t0)) (hnx : K.lookup x = none) (hroom : A.depth < recursionLimit)
    (hq : ∀ h' tk dx, IEnd s.heap h' x C dx t0 f v → R (.ok (.ret .none)) { s with heap := h', toks := tk }) :
    codeAny (model prog w) A (.call (.ref fI) args) R s := by
  obtain ⟨oc, od, q0, doc, pm, an, cdv, ct, osl, p1, p2, q1, q2, q3, q4, ho, hcd⟩ := T.fn
  obtain ⟨nm, q, N, bs, bm, sn, sub, ab, col, dd, k0, k1, k2, k3, k5, hC, hbm⟩ := T.cls
  have hcl : clsIn K C = some { name := nm, bases := bs, mro := .ref C :: bm, ns := N, qualname := q, hasDict := true, slotNames := sn, subclasses := sub, abstract := ab, collection := col, hasDel := false } := by
    unfold clsIn
    rw [hC] <;> rfl
  have O := T.one
  have hb : BindsTo s (fnOf "__init__" q0 (eA f p1 p2) (eB f q1 q2 q3 q4) (eS f) .none .none doc pm an cdv ct) args [(("self" : Str), .ref x), (f, v)] := by
    rcases ha with rfl | rfl
    · exact BindsTo.of_eq (O.b1 ..)
    · exact BindsTo.of_eq (O.b2 ..)
  refine Att.call_fn (binds := [(("self" : Str), .ref x), (f, v)]) X hlim ho hcd hroom hb ?_ (fun s₁ IC => ?_) rfl rfl rfl
  · exact O.al _ _
  obtain ⟨h₁, tk₁, rfl⟩ := IC.toInCall.same
  have kp : ∀ b o, s.heap.get? b = some o → h₁.get? b = some o := IC.toInCall.keep
  have hn := IC.toInCall.ns
  have X1 : K.In h₁ := X.keeps kp
  have hx1 := kp _ _ hx
  show wpAny _ _ (execs _ _) _ _ _
  refine wpAny_execs_cons (plainObj_wpAny_Assign_Attribute ?_)
  refine wpAny_Name (wpAny_loadName_local rfl (O.kf ..) hn (O.vf ..) ?_) O.nd
  refine wpAny_Name (wpAny_loadName_local rfl rfl hn (O.vs ..) ?_)
  refine set_plain X1 (ox := excO C t0) (od := none) ⟨hx1, rfl, rfl, trivial⟩ T.sa ?_
  refine exc_osa X1 hx1 hcl (show refsVE (.ref C :: bm) = true from hbm) rfl T.noN (fun h3 tk3 dx k3 dn dne hx3 hn3 => ?_)
  show wpAny _ _ (execs _ _) _ _ _
  have z : s.heap.objs.size < h₁.objs.size := hn.lt
  exact wpAny_execs_nil (hq h3 tk3 dx ⟨fun b o hb e => k3 b o hb (kp b o e), hx3, Nat.le_of_lt (Nat.lt_of_lt_of_le z dn), dne, hn3⟩)
theorem err_made (T : ErrTxt K mg cn f C fI) {v : Value} {args : Args} (ha : args = ⟨[v], []⟩ ∨ args = ⟨[], [(f, v)]⟩) (X : K.In s.heap)
    (hlim : s.heap.NoLimit) (hroom : A.depth + 1 < recursionLimit)
    (hq : ∀ h' tk e d, EMade s.heap h' e C d f v → R (.ok (.ret (.ref e))) { s with heap := h', toks := tk }) :
    codeAny (model prog w) A (.call (.ref C) args) R s := by
  obtain ⟨nm, q, N, bs, bm, sn, sub, ab, col, dd, k0, k1, k2, k3, k5, hC, hbm⟩ := T.cls
  obtain ⟨hp, g, dr, tk, os⟩ := s
  obtain ⟨rest, kw, rfl, hr, ha'⟩ : ∃ rest kw, args = ⟨rest, kw⟩ ∧ rest.length ≤ sizeLine ∧ ∀ x : Value, (⟨x :: rest, kw⟩ : Args) = ⟨[x, v], []⟩ ∨ (⟨x :: rest, kw⟩ : Args) = ⟨[x], [(f, v)]⟩ := by
    rcases ha with rfl | rfl
    · exact ⟨_, _, rfl, size1 v, fun x => .inl rfl⟩
    · exact ⟨_, _, rfl, Nat.zero_le _, fun x => .inr rfl⟩
  have kp : ∀ b o, hp.get? b = some o → ((hp.push (kdv_tup rest)).push (excO C hp.objs.size)).get? b = some o :=
    fun b o e => Heap.get?_push_of_some _ (Heap.get?_push_of_some _ e)
  have hget : ((hp.push (kdv_tup rest)).push (excO C hp.objs.size)).get? (hp.objs.size + 1) = some (excO C hp.objs.size) := by heap_get
  have hnx : K.lookup (hp.objs.size + 1) = none := by
    cases e : K.lookup (hp.objs.size + 1) with
    | none => rfl
    | some o =>
      have z : hp.get? (hp.objs.size + 1) = some o := X _ _ e
      exact absurd (Nat.lt_of_succ_lt (Heap.lt_size z)) (Nat.lt_irrefl _)
  refine call_kw F.excBase_ValueError (fun X => refsVE_contains X bm hbm) (X _ _ hC) (looks_findIn X T.iC) (fun self => bind_fn X self T.tC) hr ?_
  refine err_init (s := ⟨(hp.push (kdv_tup rest)).push (excO C hp.objs.size), g, dr, tk, os⟩) T (ha' _) (X.keeps kp) (hlim.keeps kp) hget hnx ?_ fun h' tk' dx ⟨k', hx, dn, dne, hns⟩ => ?_
  · show A.depth + 1 < recursionLimit
    exact hroom
  · have old : ∀ b o, hp.get? b = some o → h'.get? b = some o :=
      fun b o e => k' b o (Nat.ne_of_lt (Nat.lt_succ_of_lt (Heap.lt_size e))) (kp b o e)
    have z : hp.objs.size + 1 + 1 ≤ dx := by
      first
        | (simpa only [Heap.size_push] using dn)
        | exact dn
    exact ⟨rfl, hq h' tk' (hp.objs.size + 1) dx ⟨old, Nat.le_succ _, ⟨_, hx⟩, Nat.le_trans (Nat.le_trans (Nat.le_succ _) (Nat.le_succ _)) z, dne, hns⟩⟩
end
end My

namespace My
open PySem PySem.Spec PyProof.Rows L2
/-- an error of the class C that is a value; its dict -/
def ExD (C : Addr) (d : Option Addr) (a : Addr) : HO :=
  .ext fun h => ∃ t1, h.get? a = some { cls := .ref C, dict := d, data := .fields #[.ref t1, .none, .none, .none, .bool false, .none] }
theorem exD_ok {P : Program} {w : World} {H : Hp} {h : Heap} {a C t1 : Addr} {d : Option Addr}
    (e : h.get? a = some { cls := .ref C, dict := d, data := .fields #[.ref t1, .none, .none, .none, .bool false, .none] }) : ObjOk P w H h a (ExD C d a) :=
  ⟨⟨t1, e⟩, ⟨_, e⟩, fun _ _ ⟨t, q⟩ k => ⟨t, k _ q⟩⟩
theorem relO_f {v : V} {v' : Value} {f : Str} (r : RelV v v') (g : Str) : RelO (List.lookup g [((f : Str), v)]) (if g = f then some v' else none) := by
  by_cases h : g = f
  · subst h
    rw [if_pos rfl]
    have q : List.lookup g [((g : Str), v)] = some v := by simp [List.lookup]
    rw [q]
    exact r
  · rw [if_neg h]
    have q1 : (g == f) = false := by simpa using h
    have q2 : List.lookup g [((f : Str), v)] = none := by simp [List.lookup, q1]
    rw [q2]
    trivial
section
variable {X : Cx} {C fI : Addr} {cn f : Str}
/-- C(e), C(f = e): a new error as a value -/
def tErr (C : Addr) (f : Str) (t : TA) : TE := fun σ H Q => t σ H fun vs H1 => ∃ v, vs = [v] ∧
  ∀ a d, H1 a = none → H1 d = none → a ≠ d → Q (.ref a) (upd (upd H1 d (.xd [(f, v)])) a (ExD C (some d) a))
theorem err_run (T : ErrTxt X.K X.mg cn f C fI) {k : Nat} (hr : Room k X.A) {pins : List (Addr × Obj)} {σ : L2.St} {H : Hp} {s : Shared} {Q : VK} {v : V} {u : Value} {us : List Value} {ks : List (Str × Value)}
    (hu : (us = [u] ∧ ks = []) ∨ (us = [] ∧ ks = [(f, u)])) (I : Inv X pins σ H s) (rv : RelV v u)
    (h : ∀ a d, H a = none → H d = none → a ≠ d → Q (.ref a) (upd (upd H d (.xd [(f, v)])) a (ExD C (some d) a))) :
    wpAny (model X.prog X.w) X.A (call (.ref C) us ks) (EP X pins σ Q) X.xe s := by
  have ha : (⟨us, ks⟩ : Args) = ⟨[u], []⟩ ∨ (⟨us, ks⟩ : Args) = ⟨[], [(f, u)]⟩ := by
    rcases hu with ⟨rfl, rfl⟩ | ⟨rfl, rfl⟩
    · exact .inl rfl
    · exact .inr rfl
  have hlim := I.nolimit
  obtain ⟨hp, g, dr, tk, os⟩ := s
  refine wpAny_call (err_made T ha I.kIn hlim (by have := hr.dp; omega) fun h' tk' e d M => ?_)
  obtain ⟨t1, ho⟩ := M.obj
  obtain ⟨G', g1, g2⟩ := restrict h' fun b => decide (b ≠ e)
  have gk : ∀ b, b ≠ e → G'.get? b = h'.get? b := fun b hb => g1 b (decide_eq_true hb)
  have ge : G'.get? e = none := g2 e (by simp)
  have old : ∀ b o, hp.get? b = some o → G'.get? b = some o := fun b o q =>
    (gk b (Nat.ne_of_lt (Nat.lt_of_lt_of_le (Heap.lt_size q) M.new))).trans (M.keep b o q)
  have ob : ObjOk X.prog X.w (upd H d (.xd [(f, v)])) G' d (.xd [(f, v)]) :=
    ⟨_, M.ns.at (fun o q => (gk d M.dne).trans q), fun y => relO_f rv y⟩
  have J : Inv X pins σ (upd H d (.xd [(f, v)])) ⟨G', g, dr, tk', os⟩ := I.laid (t' := tk') old M.dbig ob
  have he0 : H e = none := I.hok.fresh M.new
  have hd0 : H d = none := I.hok.fresh M.dbig
  have sub : ∀ b o, G'.get? b = some o → h'.get? b = some o := fun b o q => by
    by_cases hb : b = e
    · rw [hb, ge] at q; cases q
    · exact (gk b hb).symm.trans q
  have J2 := J.laidN (t' := tk') (a := e) (o := ExD C (some d) e) sub ge (by rw [upd_ne (Ne.symm M.dne)]; exact he0) (exD_ok ho)
  exact ⟨.ref e, _, J2, rfl, h e d he0 hd0 (Ne.symm M.dne)⟩
theorem pe_err {a : Expr} {ta : TA} {p pos : Pos} {k : Nat} (T : ErrTxt X.K X.mg cn f C fI) (hr : Room k X.A) (ha : PA X [a] ta) (hg : Gl X cn)
    (hdb : (cn == ("__debug__" : Str)) = false := by decide)
    (he : starEach (a :: []) X.env = (false, eval a X.env) :: starEach [] X.env := by rfl) (hpl : (backTo pos (starEach [] X.env)).any (·.1) = false := by rfl) :
    PE X (.Call (.Name cn p) [a] [] pos) (tErr C f ta) := by
  refine ⟨fun pins s σ H Q I h => ?_⟩
  refine wpAny_Call_Name_kw (ld_glob I hg T.gC ?_ hdb)
  refine PySem.W.callWith_K (h₀ := X.base) I.ok.mod.kin T.kC (thn (ha.run pos pins s σ H _ I h) fun us s1 hh => ?_) he hpl
  obtain ⟨vs, H1, I1, r1, v, ev, q1⟩ := hh
  subst ev
  refine ⟨I1.kIn, ?_⟩
  cases r1 with
  | cons rv rn =>
    cases rn
    exact err_run T hr (.inl ⟨rfl, rfl⟩) I1 rv q1
theorem pe_errK {kws : List Keyword} {tk : TA} {p pos : Pos} {k : Nat} (T : ErrTxt X.K X.mg cn f C fI) (hr : Room k X.A) (ha : PK X kws tk) (hg : Gl X cn)
    (hall : (backToKw pos (keywordEach kws X.env)).all (·.1.isSome) = true := by rfl)
    (hks : (backToKw pos (keywordEach kws X.env)).filterMap (·.1) = [f] := by rfl)
    (hdb : (cn == ("__debug__" : Str)) = false := by decide)
    (hpl : ((backTo pos (starEach [] X.env)).any (·.1) || (backToKw pos (keywordEach kws X.env)).any (·.1.isNone)) = false := by rfl) :
    PE X (.Call (.Name cn p) [] kws pos) (tErr C f tk) := by
  refine ⟨fun pins s σ H Q I h => ?_⟩
  refine wpAny_Call_Name_kw (ld_glob I hg T.gC ?_ hdb)
  refine PySem.W.callWith_KW0 (h₀ := X.base) I.ok.mod.kin T.kC hall (thn (ha.run pos pins s σ H _ I h) fun us s1 hh => ?_) hpl
  obtain ⟨vs, H1, I1, r1, v, ev, q1⟩ := hh
  subst ev
  refine ⟨I1.kIn, ?_⟩
  rw [hks]
  cases r1 with
  | cons rv rn =>
    cases rn
    exact err_run T hr (.inr ⟨rfl, rfl⟩) I1 rv q1
/-- e.f of such an error -/
def tErrF (C : Addr) (f : Str) (te : TE) : TE := fun σ H Q => te σ H fun x H1 => ∃ (a d : Addr) (v : V), x = .ref a ∧ H1 a = some (ExD C (some d) a) ∧ H1 d = some (.xd [(f, v)]) ∧ Q v H1
theorem pe_errF {e : Expr} {te : TE} {pos : Pos} (T : ErrTxt X.K X.mg cn f C fI) (he : PE X e te)
    (hb : attributeBase e f X.env (eval e X.env) = eval e X.env := by rfl) : PE X (.Attribute e f pos) (tErrF C f te) := by
  refine ⟨fun pins s σ H Q I h => ?_⟩
  refine attr_of hb (thn (he.run pins s σ H _ I h) fun u s1 hh => ?_)
  obtain ⟨x, H1, I1, rx, a, d, v, rfl, ea, ed, q⟩ := hh
  obtain rfl : u = Value.ref a := rx
  obtain ⟨⟨t1, ho⟩, _⟩ := (show ObjOk X.prog X.w H1 s1.heap a (ExD C (some d) a) from I1.hok a _ ea)
  obtain ⟨mA, hns, hr⟩ := (show ObjOk X.prog X.w H1 s1.heap d (.xd [(f, v)]) from I1.hok d _ ed)
  obtain ⟨od, hod, hl⟩ := lookIn_ns hns
  have l : List.lookup f [((f : Str), v)] = some v := by simp [List.lookup]
  obtain ⟨u, hu, ru⟩ := RelO.some_of (v := v) (o := mA f) (by rw [← l]; exact hr f)
  have J : PySem.W.InstAt s1.heap a _ C (some od) := ⟨ho, rfl, rfl, hod⟩
  exact HandSPX.exc_get I1.kIn J T.ga T.gg T.exC (PySem.W.findObj_own T.hdC T.noN rfl (by rw [hl, hu])) (handed_of ru) ⟨v, H1, I1.tok _, ru, q⟩
/-- isinstance(e, c) of such an error -/
def rIsD (K : PySem.W.Frag) : List V → Hp → VK → Prop := fun xs H Q => ∃ (a C : Addr) (d : Option Addr) (c : V) (u : Value) (b : Bool), xs = [.ref a, c] ∧ ClsV c u ∧ H a = some (ExD C d a) ∧
  (∀ dd, d = some dd → ∃ fs, H dd = some (.xd fs)) ∧ ExcC K C ∧ PySem.W.kitOne K (.ref C) u = some b ∧ Q (.bl b) H
theorem call_isD : CallR X (.builtin "isinstance") (rIsD X.K) := by
  intro pins s σ H xs us Q I r h
  obtain ⟨a, C, d, c, u, b, rfl, k, ea, ed, T, e, q⟩ := h
  obtain ⟨u1, u2, rfl, r1, r2⟩ := vals2 r
  have e2 := k.eq r2
  subst e2
  obtain rfl : u1 = Value.ref a := r1
  obtain ⟨⟨t1, ho⟩, _⟩ := (show ObjOk X.prog X.w H s.heap a (ExD C d a) from I.hok a _ ea)
  obtain ⟨od, J⟩ : ∃ od, PySem.W.InstAt s.heap a { cls := .ref C, dict := d, data := .fields #[.ref t1, .none, .none, .none, .bool false, .none] } C od := by
    cases d with
    | none => exact ⟨none, ho, rfl, rfl, trivial⟩
    | some dd =>
      obtain ⟨fs, hd⟩ := ed dd rfl
      obtain ⟨mA, hns, _⟩ := (show ObjOk X.prog X.w H s.heap dd (.xd fs) from I.hok dd _ hd)
      obtain ⟨od, hod, _⟩ := lookIn_ns hns
      exact ⟨some od, ho, rfl, rfl, hod⟩
  exact PySem.W.kia_one (kitx_e T) I.kIn J e (fun z => nomatch z) fun tk => ⟨.bl b, H, I.tok tk, rfl, q⟩
end
end My

namespace My
open PySem PySem.W PySem.Calls PyProof.Rows PySem.HandSPX
/-! ### an own error class whose __init__ does nothing -/
def cA (p1 : Pos) : Arguments :=
  { posonlyargs := [], args := [{ arg := "self", annotation := none, pos := p1 }], vararg := none,
    kwonlyargs := [], kw_defaults := [], kwarg := none, defaults := [] }
def cB (q1 : Pos) : List Stmt := [.Pass q1]
def cS : Scope :=
  { kind := .function, names := [(PySem.Str.ofString "self", .local)], isGenerator := false, isCoroutine := false, more := [] }
structure NilTxt (K : Frag) (mg : Str → Option Value) (cn : Str) (C fI : Addr) : Prop where
  gC : mg cn = some (.ref C)
  cls : ∃ nm q N bs bm sn sub ab col dd k0 k1 k2 k3 k5,
    K.lookup C = some (excClassObj nm q C N bs bm true sn sub ab col dd k0 k1 k2 k3 k5 "ValueError.__new__") ∧ refsVE bm = true
  iC : findIn K (.ref C) "__init__" = some (some (.ref fI))
  tC : typeIn K (.ref fI) = some (.type "function")
  kC : keepIn K (.ref C) = true
  exC : subIn K (.ref C) (.type "BaseException") = some true
  tyC : typeIn K (.ref C) = some (.type "type")
  fn : ∃ (oc : Value) (od : Option Addr) (q : Str) (doc pm : Value) (an : Option Addr) (cdv ct : Value) (osl : Array (Option Value)) (p1 q1 : Pos),
    K.lookup fI = some ⟨oc, od, .func (fnOf "__init__" q (cA p1) (cB q1) cS .none .none doc pm an cdv ct), osl⟩ ∧ codeIn K cdv q = true
structure NMade (h h' : Heap) (e C : Addr) : Prop where
  keep : ∀ b o, h.get? b = some o → h'.get? b = some o
  new : h.objs.size ≤ e
  obj : ∃ t1, h'.get? e = some { cls := .ref C, dict := none, data := .fields #[.ref t1, .none, .none, .none, .bool false, .none] }
section
variable {prog : Program} {w : World} {A : Around} {E : Value → Shared → Prop} {R : Result → Shared → Prop} {s : Shared} {K : Frag} {mg : Str → Option Value} {cn f : Str} {C fI : Addr}
theorem nil_made (T : NilTxt K mg cn C fI) (X : K.In s.heap) (hlim : s.heap.NoLimit) (hroom : A.depth + 1 < recursionLimit)
    (hq : ∀ h' tk e, NMade s.heap h' e C → R (.ok (.ret (.ref e))) { s with heap := h', toks := tk }) :
    codeAny (model prog w) A (.call (.ref C) ⟨[], []⟩) R s := by
  obtain ⟨nm, q, N, bs, bm, sn, sub, ab, col, dd, k0, k1, k2, k3, k5, hC, hbm⟩ := T.cls
  obtain ⟨oc, od, q0, doc, pm, an, cdv, ct, osl, p1, q1, ho, hcd⟩ := T.fn
  obtain ⟨hp, g, dr, tk, os⟩ := s
  have kp : ∀ b o, hp.get? b = some o → ((hp.push (kdv_tup [])).push (excO C hp.objs.size)).get? b = some o :=
    fun b o e => Heap.get?_push_of_some _ (Heap.get?_push_of_some _ e)
  have hget : ((hp.push (kdv_tup [])).push (excO C hp.objs.size)).get? (hp.objs.size + 1) = some (excO C hp.objs.size) := by heap_get
  refine call_kw F.excBase_ValueError (fun X => refsVE_contains X bm hbm) (X _ _ hC) (looks_findIn X T.iC) (fun self => bind_fn X self T.tC) (Nat.zero_le _) ?_
  refine Att.call_fn (binds := [(("self" : Str), .ref (hp.objs.size + 1))]) (s := ⟨(hp.push (kdv_tup [])).push (excO C hp.objs.size), g, dr, tk, os⟩) (X.keeps kp) (hlim.keeps kp) ho hcd
    (by show A.depth + 1 < recursionLimit; exact hroom) (BindsTo.of_eq (by first | rfl | with_unfolding_all rfl)) (by first | rfl | decide) (fun s₁ IC => ?_) rfl rfl rfl
  obtain ⟨h₁, tk₁, rfl⟩ := IC.toInCall.same
  have k1 := IC.toInCall.keep
  show wpAny _ _ (execs _ _) _ _ _
  refine wpAny_execs_cons (wpAny_Pass ?_)
  show wpAny _ _ (execs _ _) _ _ _
  refine wpAny_execs_nil ?_
  exact ⟨rfl, hq h₁ tk₁ (hp.objs.size + 1) ⟨fun b o e => k1 b o (kp b o e), Nat.le_succ _, ⟨_, k1 _ _ hget⟩⟩⟩
end
end My
namespace My
open PySem PySem.Spec PyProof.Rows L2
section
variable {X : Cx} {C fI : Addr} {cn f : Str}
def tErr0 (C : Addr) : TE := fun _ H Q => ∀ a, H a = none → Q (.ref a) (upd H a (ExD C none a))
theorem pe_err0 {p pos : Pos} {k : Nat} (T : NilTxt X.K X.mg cn C fI) (hr : Room k X.A) (hg : Gl X cn)
    (hdb : (cn == ("__debug__" : Str)) = false := by decide)
    (hall : (backToKw pos (keywordEach [] X.env)).all (·.1.isSome) = true := by rfl)
    (hpl : ((backTo pos (starEach [] X.env)).any (·.1) || (backToKw pos (keywordEach [] X.env)).any (·.1.isNone)) = false := by rfl) :
    PE X (.Call (.Name cn p) [] [] pos) (tErr0 C) := by
  refine ⟨fun pins s σ H Q I h => ?_⟩
  refine wpAny_Call_Name_kw (ld_glob I hg T.gC ?_ hdb)
  refine PySem.W.callWith_KW0 (h₀ := X.base) I.ok.mod.kin T.kC hall ?_ hpl
  show wpAny _ _ (evalAll []) _ _ _
  refine wpAny_pure ⟨I.kIn, ?_⟩
  show wpAny _ _ (call (.ref C) [] []) _ _ _
  have hlim := I.nolimit
  obtain ⟨hp, g, dr, tk, os⟩ := s
  refine wpAny_call (nil_made T I.kIn hlim (by have := hr.dp; omega) fun h' tk' e M => ?_)
  obtain ⟨t1, ho⟩ := M.obj
  have J := I.laid (t' := tk') (a := e) (o := ExD C none e) M.keep M.new (exD_ok ho)
  exact ⟨.ref e, _, J, rfl, h e (I.hok.fresh M.new)⟩
/-! ### raising them -/
def tMkE (C : Addr) (f : Str) (ta : TA) : L2.St → Hp → XK → Prop := fun σ H Q => ta σ H fun vs H1 => ∃ v, vs = [v] ∧ ∀ d, H1 d = none → Q (.ref C) (some d) (upd H1 d (.xd [(f, v)]))
theorem pmk_err {a : Expr} {ta : TA} {p pos : Pos} {k : Nat} (T : ErrTxt X.K X.mg cn f C fI) (hr : Room k X.A) (ha : PA X [a] ta) (hg : Gl X cn)
    (hdb : (cn == ("__debug__" : Str)) = false := by decide)
    (he : starEach (a :: []) X.env = (false, eval a X.env) :: starEach [] X.env := by rfl) (hpl : (backTo pos (starEach [] X.env)).any (·.1) = false := by rfl) :
    L2.PMk X (.Call (.Name cn p) [a] [] pos) (tMkE C f ta) := by
  intro pins s σ H Q I h
  refine wpAny_Call_Name_kw (ld_glob I hg T.gC ?_ hdb)
  refine PySem.W.callWith_K (h₀ := X.base) I.ok.mod.kin T.kC (thn (ha.run pos pins s σ H _ I h) fun us s1 hh => ?_) he hpl
  obtain ⟨vs, H1, I1, r1, v, ev, q1⟩ := hh
  subst ev
  refine ⟨I1.kIn, ?_⟩
  cases r1 with
  | cons rv rn =>
    cases rn
    rename_i u
    have hlim := I1.nolimit
    obtain ⟨hp, g, dr, tk, os⟩ := s1
    refine wpAny_call (err_made T (.inl rfl) I1.kIn hlim (by have := hr.dp; omega) fun h' tk' e d M => ?_)
    obtain ⟨t1, ho⟩ := M.obj
    obtain ⟨G', g1, g2⟩ := restrict h' fun b => decide (b ≠ e)
    have gk : ∀ b, b ≠ e → G'.get? b = h'.get? b := fun b hb => g1 b (decide_eq_true hb)
    have ge : G'.get? e = none := g2 e (by simp)
    have old : ∀ b o, hp.get? b = some o → G'.get? b = some o := fun b o q =>
      (gk b (Nat.ne_of_lt (Nat.lt_of_lt_of_le (Heap.lt_size q) M.new))).trans (M.keep b o q)
    have ob : ObjOk X.prog X.w (upd H1 d (.xd [(f, v)])) G' d (.xd [(f, v)]) :=
      ⟨_, M.ns.at (fun o q => (gk d M.dne).trans q), fun y => relO_f rv y⟩
    have J : Inv X pins σ (upd H1 d (.xd [(f, v)])) ⟨G', g, dr, tk', os⟩ := I1.laid (t' := tk') old M.dbig ob
    have sub : ∀ b o, G'.get? b = some o → h'.get? b = some o := fun b o q => by
      by_cases hb : b = e
      · rw [hb, ge] at q; cases q
      · exact (gk b hb).symm.trans q
    refine ⟨e, _, _, ⟨G', g, dr, tk', os⟩, _, .ref C, some d, rfl, J, sub, ge, ho, ⟨rfl, rfl⟩, rfl, rfl, ?_, rfl, I1.bare, raises_own T.exC T.tyC, q1 d (I1.hok.fresh M.dbig)⟩
    rw [upd_ne (Ne.symm M.dne)]
    exact I1.hok.fresh M.new
theorem pmk_nil {p pos : Pos} {k : Nat} (T : NilTxt X.K X.mg cn C fI) (hr : Room k X.A) (hg : Gl X cn)
    (hdb : (cn == ("__debug__" : Str)) = false := by decide)
    (hall : (backToKw pos (keywordEach [] X.env)).all (·.1.isSome) = true := by rfl)
    (hpl : ((backTo pos (starEach [] X.env)).any (·.1) || (backToKw pos (keywordEach [] X.env)).any (·.1.isNone)) = false := by rfl) :
    L2.PMk X (.Call (.Name cn p) [] [] pos) (fun _ H Q => Q (.ref C) none H) := by
  intro pins s σ H Q I h
  refine wpAny_Call_Name_kw (ld_glob I hg T.gC ?_ hdb)
  refine PySem.W.callWith_KW0 (h₀ := X.base) I.ok.mod.kin T.kC hall ?_ hpl
  show wpAny _ _ (evalAll []) _ _ _
  refine wpAny_pure ⟨I.kIn, ?_⟩
  show wpAny _ _ (call (.ref C) [] []) _ _ _
  have hlim := I.nolimit
  obtain ⟨hp, g, dr, tk, os⟩ := s
  refine wpAny_call (nil_made T I.kIn hlim (by have := hr.dp; omega) fun h' tk' e M => ?_)
  obtain ⟨t1, ho⟩ := M.obj
  have ne : hp.get? e = none := by
    cases q : hp.get? e with
    | none => rfl
    | some o => exact absurd (Heap.lt_size q) (Nat.not_lt.mpr M.new)
  exact ⟨e, _, _, ⟨hp, g, dr, tk', os⟩, H, .ref C, none, rfl, I.tok tk', M.keep, ne, ho, ⟨rfl, rfl⟩, rfl, rfl, I.hok.fresh M.new, rfl, I.bare, raises_own T.exC T.tyC, h⟩
end
end My

namespace My
open PySem PySem.Spec PyProof.Rows L2
open L2H (RoomH PinOk cxH inv_startH)
/-! ### a def that is called within an except suite with the exception that is handled -/
structure FnZ (P : Program) (w : World) (K : PySem.W.Frag) (mg : Str → Option Value) (base : Heap) (k : Nat) (f : Addr) (fd : FuncData) (ps : List Str)
    (cls : Value) (d : Option Addr) (sp : Addr → Sp) : Prop where
  len : ∀ a vs H Q E, sp a vs H Q E → vs.length = ps.length
  run : ∀ (A : Around) (outer : List Env) (s : Shared) (H : Hp) (args : Args) (us : List Value) (vs : List V) (Q : VK) (p : Addr × Obj), RoomH k A → Zc cls d p.2 → (∃ fv, p.2.data = .fields fv) →
    PinOk outer H s p → Env0 P w K mg base A outer s H → BindsTo s fd args (ps.zip us) → Vals vs us → sp p.1 vs H Q E0 →
    codeAny (model P w) A (.call (.ref f) args) (CR CX0 outer P w H s Q E0) s
theorem Fun.okZ {P : Program} {w : World} {K : PySem.W.Frag} {mg : Str → Option Value} {base : Heap} {x qual : Str} {st : Stmt} {f : Addr} {fd : FuncData} {N ps : List Str} {k : Nat}
    {cls : Value} {d : Option Addr} {sp : Addr → Sp} (F : Fun K x qual st f fd) (S : FnScope N ps (defScope st)) (len : ∀ a vs H Q E, sp a vs H Q E → vs.length = ps.length)
    (hbody : ∀ (cdv : Value) (A : Around) (outer : List Env) (s : Shared) (H : Hp) (vs : List V) (Q : VK) (p : Addr × Obj), Zc cls d p.2 → (∃ fv, p.2.data = .fields fv) →
      RoomH k (A.deeper (envOfC qual (defScope st) s.heap.objs.size f cdv)) → sp p.1 vs H Q E0 →
      ∃ t, PSs (cxH CX0 P w K mg base N qual (defScope st) f cdv A outer s H E0 p) (defBody st) t ∧ t { nx := fun _ H' => Q .non H', rt := Q } (L2.start N vs) H) :
    FnZ P w K mg base (k + 1) f fd ps cls d sp := by
  obtain ⟨oc, od, kV, doc, pm, an, cdv, ct, osl, rfl, lk, hcd⟩ := F.ex
  refine ⟨len, fun A outer s H args us vs Q p hr hz hf hpin e0 hb r hsp => ?_⟩
  have hl := len _ _ _ _ _ hsp
  have KX : K.In s.heap := e0.mod.kin.keeps fun b o e => (e0.bs b o e).1
  have lim : s.heap.NoLimit := e0.mod.nolimit.keeps fun b o e => (e0.bs b o e).1
  have hkind : ∀ y ∈ ps.zip us, (defScope st).names.lookup y.1 = some .local ∨
      ((defScope st).names.lookup y.1 = some .cell ∧ ((cellsFrom (s.heap.objs.size + 1) (defScope st).names []).lookup y.1).isSome = true) := by
    rintro ⟨n, v⟩ hy
    rcases S.par n (List.of_mem_zip hy).1 with q | q
    · exact .inl q
    · exact .inr ⟨q, PySem.W.cellsFrom_some _ _ _ (.inl q)⟩
  refine codeAny_call_function hr.depth (KX _ _ lk) rfl S.co S.gen rfl (PySem.W.codeRec_of KX hcd) (hb _ _ _ _ ?_)
  refine wpAny_newFunctionEnv_cells S.kind hkind fun env he s1 x => ?_
  subst he
  refine ⟨lim.keeps x.toInCall.keep, codeAny_func ?_⟩
  obtain ⟨t, ht, hq⟩ := hbody cdv A outer s H vs Q p hz hf (hr.deeper _) hsp
  have I := inv_startH (CX := CX0) (E := E0) S hpin e0 hl r x
  refine wpAny_mono (ht.run [] s1 (L2.start N vs) H _ I hq) (fun fl s' hs => ?_) fun e s' hs => hs
  cases fl with
  | ret u =>
    obtain ⟨v, σ', H', J, rv, q⟩ := hs
    exact ⟨v, H', J.os, J.bare, J.base, J.hok, rv, q⟩
  | next =>
    obtain ⟨σ', H', J, q⟩ := hs
    exact ⟨V.non, H', J.os, J.bare, J.base, J.hok, rfl, q⟩
  | brk =>
    obtain ⟨_, _, _, q⟩ := hs
    exact q.elim
  | cont =>
    obtain ⟨_, _, _, q⟩ := hs
    exact q.elim
section
variable {X : Cx} {k : Nat} {f a : Addr} {oe : Obj} {pn : List (Addr × Obj)} {fd : FuncData} {ps : List Str} {sp : Addr → Sp} {cls : Value} {d : Option Addr} {x : Str} {q pos : Pos} {e : Expr} {es : List Expr} {t : TA}
def tCallZ (sp : Sp) (t : TA) : TE := fun σ H Q => t σ H fun vs H1 => sp vs H1 Q E0
theorem pe_callZ (F : FnZ X.prog X.w X.K X.mg X.base k f fd ps cls d sp) (hz : Zc cls d oe) (hf : ∃ fv, oe.data = .fields fv) (hr : RoomH k (X.suite a ((a, oe) :: pn)).A) (hg : Gl X x) (hm : X.mg x = some (.ref f))
    (hk : PySem.W.keepIn X.K (.ref f) = true) (hb : Binds X.K fd ps []) (ha : PA (X.suite a ((a, oe) :: pn)) (e :: es) t) (hdb : (x == ("__debug__" : Str)) = false := by decide)
    (he : starEach (e :: es) X.env = (false, eval e X.env) :: starEach es X.env := by rfl) (hpl : (backTo pos (starEach es X.env)).any (·.1) = false := by rfl) :
    PE (X.suite a ((a, oe) :: pn)) (.Call (.Name x q) (e :: es) [] pos) (tCallZ (sp a) t) := by
  refine ⟨fun pins s σ H Q I h => ?_⟩
  refine wpAny_Call_Name_kw (ld_glob I hg hm ?_ hdb)
  refine PySem.W.callWith_K (h₀ := X.base) I.ok.mod.kin hk (thn (ha.run pos pins s σ H _ I h) fun us s1 ⟨vs, H1, I1, r, hq⟩ => ⟨I1.kIn, ?_⟩) he hpl
  have hl : us.length = ps.length := by rw [← r.length]; exact F.len _ _ _ _ _ hq
  have b := hb s1 us I1.kIn (by rw [List.append_nil]; exact hl)
  rw [List.append_nil] at b
  have P1 := I1.pin (a, oe) (List.mem_append_left _ List.mem_cons_self)
  have hpin : PinOk X.stack H1 s1 (a, oe) :=
    ⟨P1.1, P1.2.1, fun hm => (List.mem_cons.mp (I1.stkSub a hm)).elim P1.2.2.1 P1.2.2.2.1, P1.2.2.2.2⟩
  refine wpAny_call (codeAny_mono (F.run _ X.stack s1 H1 ⟨us, []⟩ us vs Q (a, oe) hr hz hf hpin I1.env0 b r hq) fun r s' hq => ?_)
  cases r with
  | error e =>
    exact (pass0 (X := X.suite a ((a, oe) :: pn)) pins σ _ _ e s' I1 hq)
  | ok fl =>
    cases fl with
    | ret u => exact I1.after hq
    | next => exact hq.elim
    | brk => exact hq.elim
    | cont => exact hq.elim
/-- isinstance of a pinned exception -/
def rIsP (K : PySem.W.Frag) (D a : Addr) (d : Option Addr) : List V → Hp → VK → Prop := fun xs H Q => ∃ (c : V) (u : Value) (b : Bool), xs = [.ref a, c] ∧ ClsV c u ∧
  (∀ dd, d = some dd → ∃ fs, H dd = some (.xd fs)) ∧ ExcC K D ∧ PySem.W.kitOne K (.ref D) u = some b ∧ Q (.bl b) H
theorem call_isP {D : Addr} (hp : (a, oe) ∈ X.pn) (hz : Zc (.ref D) d oe) (hf : ∃ fv, oe.data = .fields fv) : CallR X (.builtin "isinstance") (rIsP X.K D a d) := by
  intro pins s σ H xs us Q I r h
  obtain ⟨c, u, b, rfl, k, ed, T, e, q⟩ := h
  obtain ⟨u1, u2, rfl, r1, r2⟩ := vals2 r
  have e2 := k.eq r2
  subst e2
  obtain rfl : u1 = Value.ref a := r1
  have ho := (I.pin (a, oe) (List.mem_append_left _ hp)).1
  obtain ⟨od, J⟩ : ∃ od, PySem.W.InstAt s.heap a oe D od := by
    obtain ⟨fv, hv⟩ := hf
    obtain ⟨h1, h2⟩ := hz
    have hn : PySem.W.notCls oe = true := by unfold PySem.W.notCls; rw [hv] <;> rfl
    cases d with
    | none => exact ⟨none, ho, h1, hn, by rw [h2]; trivial⟩
    | some dd =>
      obtain ⟨fs, hd⟩ := ed dd rfl
      obtain ⟨mA, hns, _⟩ := (show ObjOk X.prog X.w H s.heap dd (.xd fs) from I.hok dd _ hd)
      obtain ⟨od, hod, _⟩ := lookIn_ns hns
      exact ⟨some od, ho, h1, hn, by rw [h2]; exact hod⟩
  exact PySem.W.kia_one (kitx_e T) I.kIn J e (fun z => nomatch z) fun tk => ⟨.bl b, H, I.tok tk, rfl, q⟩
end
end My

namespace My
open PySem PySem.Spec PyProof.Rows L2
/-! ### try with several clauses 'except X as n', of which the first always is the one -/
def wFst (K : PySem.W.Frag) (c : Value) (i : Nat) (ts : Addr → Value → Option Addr → TS) (D : Ends) : WX := fun cl dd st hp =>
  PySem.W.exmOne K cl c = some true ∧ ∀ a, hp a = none → ts a cl dd { nx := fun x y => D.nx (x.set i none) y, rt := D.rt, bk := fun x y => D.bk (x.set i none) y, ct := fun x y => D.ct (x.set i none) y } (st.set i (some (.ref a))) hp
section
variable {X : Cx} {x n : Str} {c : Value} {i : Nat} {body su : List Stmt} {b1 : Stmt} {np ps ps' : Pos} {more : List ExceptHandler} {tb : WX → TS} {ts : Addr → Value → Option Addr → TS}
theorem ps_try_fst (e1 : X.stack = X.env :: X.outer) (e2 : X.env.frame = some X.env.locals) (nd : X.N.Nodup) (ei : X.N[i]? = some n) (el : X.env.kindOf n = some .local) (nc : Names X x c)
    (run : ∀ (W : WX) (pl : List (Addr × Obj)) (xe : Value → Shared → Prop), Takes (X.tr pl xe) W → PassesOwn (model X.prog X.w) X.A X.env xe → PSs (X.tr pl xe) body (tb W))
    (suite : ∀ (a : Addr) (oe : Obj) (cl : Value) (dd : Option Addr) (pl : List (Addr × Obj)), Zc cl dd oe → (∃ vs, oe.data = .fields vs) → PSs (X.suite a ((a, oe) :: pl)) (b1 :: su) (ts a cl dd)) :
    PS X (.Try body (.ExceptHandler (some (.Name x np)) (some n) (b1 :: su) ps' :: more) [] [] ps) (fun D st hp => tb (wFst X.K c i ts D) D st hp) := by
  refine ⟨fun pl s st hp D inv yes => ?_⟩
  have good := inv.ok
  have fr : X.A.frames = some (X.env :: X.outer) := by rw [good.frames, e1]
  have lc : Loc X.env.scope n := .inl el
  refine wpAny_Try_except (wpAny_mono ((run (wFst X.K c i ts D) (X.pn ++ pl) (fun ex z1 => wpAny (model X.prog X.w) X.A (noteFrame ex X.env) (fun _ z2 => wpAny (model X.prog X.w) X.A (setFlight ex none) (fun _ z3 =>
    wpAny (model X.prog X.w) X.A (handleBy ex X.env (.ExceptHandler (some (.Name x np)) (some n) (b1 :: su) ps' :: more)) (SP X pl D) X.xe z3) X.xe z2) X.xe z1) (fun u z' got => ?_) PassesOwn.looking).run [] s st hp D (inv.toTry _) yes) (fun fl z1 end1 => ?_) (fun ex z1 w => w))
  · obtain ⟨a, gr, si, pl', st1, hp1, cl, dd, rfl, j0, nb, up, sky, na, os, ag, hit, wish⟩ := got
    have j1 : Inv X pl st1 hp1 si := j0.ofTry good
    have sk : Sky gr (X.env :: X.outer) a (Zc cl dd) X.env.locals z'.heap := by rw [← e1]; exact sky
    show wpAny _ X.A (noteFrame (.ref a) X.env) _ _ _
    refine Sky.land Zc.steady fr e2 sk fun k3 f3 u3 => ?_
    have j3 : Inv X pl st1 hp1 { z' with heap := k3 } := j1.landed nb f3.1 (up.trans u3) os ag
    obtain ⟨o3, w3, r3, t3, q3⟩ := f3.there
    have off : a ∉ frs (X.env :: X.outer) := fun m => by
      obtain ⟨_, o4, r4, none4⟩ := f3.2.2.1.mem m
      rw [r3] at r4; cases r4
      exact none4 _ q3
    have l3 : a ≠ X.env.locals := fun z => off (List.mem_filterMap.mpr ⟨X.env, List.mem_cons_self, by rw [e2, z]⟩)
    have f4 : a ∉ X.fs := fun m => by
      obtain ⟨v, hv, hq⟩ := List.mem_filterMap.mp m
      exact off (List.mem_filterMap.mpr ⟨v, List.mem_cons_of_mem _ hv, hq⟩)
    have s3 := j3.suite r3 q3 na l3 f4
    refine wpAny_handleBy_cons (codeAny_handlers_test ?_) (by intro q; cases q)
    have kind : PySem.W.Looks (model X.prog X.w) k3 (typeOf (.ref a)) cl := fun _ _ _ _ k q => wpAny_typeOf_ref (k _ _ r3) (by rw [t3.1]; exact q)
    have fits := PySem.W.exm_one (M := model X.prog X.w) (j3.kIn) kind hit
    have name : ∀ {Q E : Value → Shared → Prop}, Q c { z' with heap := k3 } → wpAny (model X.prog X.w) (X.A.mark (some (.ref a))) (eval (.Name x np) X.env) Q E { z' with heap := k3 } := fun q => by
      obtain ⟨g1, g2, g3 | ⟨g3, g4, g5⟩⟩ := nc
      · exact ld_glob (X := X.suite a ((a, o3) :: (X.pn ++ pl))) s3 g1 g3 q g2
      · exact ld_blt (X := X.suite a ((a, o3) :: (X.pn ++ pl))) s3 g1 g3 g4 q g5 g2
    refine name (fits.here (codeAny_handlers_suite_as (HandSPX.lands_againZ f3 fun k4 f5 u4 => ?_)))
    have j4 : Inv X pl st1 hp1 { z' with heap := k4 } := j1.landed nb f5.1 ((up.trans u3).trans u4) os ag
    obtain ⟨o5, w5, r5, t5, q5⟩ := f5.there
    have s4 := j4.suite r5 q5 na l3 f4
    refine store_ok (X := X.suite a ((a, o5) :: (X.pn ++ pl))) (v := .ref a) s4 nd ei lc rfl (fun z5 s5 => ?_) (.inr el)
    refine wpAny_mono ((suite a o5 cl dd (X.pn ++ pl) t5 ⟨_, q5⟩).run [] z5 _ hp1 _ s5 (wish a na)) (fun fl z6 end6 => ?_) (fun _ _ z => False.elim z)
    have out : ∀ {st6 : L2.St} {hp6 : Hp} {Q : Shared → Prop}, Inv (X.suite a ((a, o5) :: (X.pn ++ pl))) [] st6 hp6 z6 → (∀ z7, Inv X pl (st6.set i none) hp6 z7 → Q z7) →
        wpAny (model X.prog X.w) X.A (do bindName X.env n .none; unbindBehindTheSuite X.env n ps') (fun _ z7 => Q z7) X.xe z6 := fun s6 q => gone_ok (s6.unsuite good) nd ei el q
    cases fl with
    | next => obtain ⟨_, _, s6, q6⟩ := end6; exact out s6 fun _ j7 => ⟨_, _, j7, q6⟩
    | brk => obtain ⟨_, _, s6, q6⟩ := end6; exact out s6 fun _ j7 => ⟨_, _, j7, q6⟩
    | cont => obtain ⟨_, _, s6, q6⟩ := end6; exact out s6 fun _ j7 => ⟨_, _, j7, q6⟩
    | ret u => obtain ⟨_, _, _, s6, r6, q6⟩ := end6; exact out s6 fun _ j7 => ⟨_, _, _, j7, r6, q6⟩
  · cases fl with
    | next => obtain ⟨_, _, j, q⟩ := end1; exact wpAny_execs_nil ⟨_, _, j.ofTry good, q⟩
    | brk => obtain ⟨_, _, j, q⟩ := end1; exact ⟨_, _, j.ofTry good, q⟩
    | cont => obtain ⟨_, _, j, q⟩ := end1; exact ⟨_, _, j.ofTry good, q⟩
    | ret u => obtain ⟨_, _, _, j, r, q⟩ := end1; exact ⟨_, _, _, j.ofTry good, r, q⟩
end
/-! ### a new instance whose __init__ may raise, in a try -/
def tMkS (C : Addr) (sp : Sp) (dvs : List V) (E : L2.St → XK) (t : TA) : TE := fun st hp Q => t st hp fun vs h1 => ∀ x dx, h1 x = none → h1 dx = none → dx ≠ x →
  sp (.ref x :: (vs ++ dvs)) (upd (upd h1 dx (.own x)) x (.ins C dx [])) (fun v h2 => v = .non ∧ Q (.ref x) h2) (E st)
section
variable {X : Cx} {CX : CXT} {k : Nat} {f C : Addr} {fd : FuncData} {ps : List Str} {sp : Sp} {dvs : List V} {ds : List Value} {E : L2.St → XK} {x : Str} {p pos : Pos} {e : Expr} {es : List Expr} {t : TA}
theorem pe_mkS (M : Mk X.K C f) (F : FnOk X.prog X.w X.K X.mg X.base CX k f fd ps sp) (room : Room (k + 1) X.A) (gl : Gl X x) (gm : X.mg x = some (.ref C)) (bi : Binds X.K fd ps ds) (dv : Vals dvs ds) (let_ : ∀ st, PassesAt CX X st (E st))
    (arg : PA X (e :: es) t) (nb : (x == ("__debug__" : Str)) = false := by decide) (st1 : starEach (e :: es) X.env = (false, eval e X.env) :: starEach es X.env := by rfl) (st2 : (backTo pos (starEach es X.env)).any (·.1) = false := by rfl) :
    PE X (.Call (.Name x p) (e :: es) [] pos) (tMkS C sp dvs E t) := by
  refine ⟨fun pl z st hp Q inv yes => wpAny_Call_Name_kw (ld_glob inv gl gm ?_ nb)⟩
  refine PySem.W.callWith_K (h₀ := X.base) inv.ok.mod.kin M.kp (thn (arg.run pos pl z st hp _ inv yes) fun us z1 ⟨vs, h1, j1, r, q⟩ => ⟨j1.kIn, ?_⟩) st1 st2
  have go := q (z1.heap.objs.size + 1) z1.heap.objs.size (j1.hok.fresh (Nat.le_succ _)) (j1.hok.fresh (Nat.le_refl _)) (Nat.ne_of_lt (Nat.lt_succ_self _))
  have j2 := Inv.made (C := C) j1
  have rr : Vals (V.ref (z1.heap.objs.size + 1) :: (vs ++ dvs)) (Value.ref (z1.heap.objs.size + 1) :: (us ++ ds)) := .cons rfl (r.append dv)
  have ll : (Value.ref (z1.heap.objs.size + 1) :: us ++ ds).length = ps.length := by
    have w := rr.length
    rw [F.len _ _ _ _ go] at w
    exact w.symm
  refine wpAny_call (make_map (f := f) j1.kIn M.makes M.init (beq_iff_eq.mp M.fn) (codeAny_mono (F.run _ X.stack _ _ ⟨Value.ref (z1.heap.objs.size + 1) :: us, []⟩ (Value.ref (z1.heap.objs.size + 1) :: (us ++ ds)) _ _ (E st) (room.make C us [])
    (j2.env0.make C us []) (bi _ (Value.ref (z1.heap.objs.size + 1) :: us) j2.kIn ll) rr go) fun res z2 got => ?_))
  cases res with
  | error ex => exact let_ st pl _ _ ex z2 j2 got
  | ok fl =>
    cases fl with
    | ret u =>
      obtain ⟨v, h3, j3, rv, ev, q3⟩ := j2.after got
      subst ev
      exact ⟨rv, ⟨V.ref (z1.heap.objs.size + 1), h3, j3, rfl, q3⟩⟩
    | next => exact False.elim got
    | brk => exact False.elim got
    | cont => exact False.elim got
end
/-! ### e.f in the suite, e the exception that it handles -/
def tErrS (C : Addr) (f : Str) (a : Addr) (cl : Value) (dd : Option Addr) (te : TE) : TE := fun st hp Q => te st hp fun x h1 => x = .ref a ∧ cl = .ref C ∧ ∃ (d : Addr) (v : V), dd = some d ∧ h1 d = some (.xd [(f, v)]) ∧ Q v h1
theorem pe_errS {X : Cx} {C fI : Addr} {cn f : Str} {a : Addr} {oe : Obj} {cl : Value} {dd : Option Addr} {pl : List (Addr × Obj)} {e : Expr} {te : TE} {pos : Pos} (T : ErrTxt X.K X.mg cn f C fI) (zc : Zc cl dd oe) (fl : ∃ vs, oe.data = .fields vs)
    (hz : PE (X.suite a ((a, oe) :: pl)) e te) (ab : attributeBase e f X.env (eval e X.env) = eval e X.env := by rfl) : PE (X.suite a ((a, oe) :: pl)) (.Attribute e f pos) (tErrS C f a cl dd te) := by
  refine ⟨fun pl2 z st hp Q inv yes => attr_of ab (thn (hz.run pl2 z st hp _ inv yes) fun u z1 got => ?_)⟩
  obtain ⟨x, h1, j1, rx, rfl, rfl, d, v, rfl, ed, q⟩ := got
  obtain rfl : u = Value.ref a := rx
  obtain ⟨at_, _⟩ := j1.pin (a, oe) (List.mem_append_left _ List.mem_cons_self)
  obtain ⟨mA, hns, hr⟩ := (show ObjOk X.prog X.w h1 z1.heap d (.xd [(f, v)]) from j1.hok d _ ed)
  obtain ⟨od, hod, hl⟩ := lookIn_ns hns
  have l : List.lookup f [((f : Str), v)] = some v := by simp [List.lookup]
  obtain ⟨u, hu, ru⟩ := RelO.some_of (v := v) (o := mA f) (by rw [← l]; exact hr f)
  have J : PySem.W.InstAt z1.heap a oe C (some od) := ⟨at_, zc.1, (by obtain ⟨w, hw⟩ := fl; show PySem.W.notCls oe = true; unfold PySem.W.notCls; rw [hw]), (by rw [zc.2]; exact hod)⟩
  exact HandSPX.exc_get j1.kIn J T.ga T.gg T.exC (PySem.W.findObj_own T.hdC T.noN rfl (by rw [hl, hu])) (handed_of ru) ⟨v, h1, j1.tok _, ru, q⟩
end My

namespace SL
open PySem PySem.Spec PyProof.Rows L2 SX
/-! ### texts by their code points: rules -/
variable {X : Cx}
theorem pe_strL {x : Str} {j pos} (l : List Nat) (h : x = S l) : PE X (.Constant (.str x) j pos) (tC (.str (S l))) := by
  subst h
  exact pe_str
theorem V_str_S {a b : List Nat} : decide (V.str (S a) = V.str (S b)) = decide (a = b) := by
  rw [decide_eq_decide]
  exact ⟨fun h => S_inj (V.str.inj h), fun h => by rw [h]⟩
def rEqL : R2 := fun x y H Q => ∃ a b, x = .str (S a) ∧ y = .str (S b) ∧ Q (.bl (decide (a = b))) H
def rNeL : R2 := fun x y H Q => ∃ a b, x = .str (S a) ∧ y = .str (S b) ∧ Q (.bl (!decide (a = b))) H
theorem op_eqL : OpR X (compareOp .Eq) rEqL := by
  intro pins s σ H x y v u Q I rx ry h
  obtain ⟨a, b, rfl, rfl, q⟩ := h
  exact op_eq pins s σ H _ _ v u Q I rx ry ⟨rfl, by rw [V_str_S]; exact q⟩
theorem op_neL : OpR X (compareOp .NotEq) rNeL := by
  intro pins s σ H x y v u Q I rx ry h
  obtain ⟨a, b, rfl, rfl, q⟩ := h
  exact op_ne pins s σ H _ _ v u Q I rx ry ⟨rfl, by rw [V_str_S]; exact q⟩
theorem sz {n : Nat} (h : n ≤ 100000) : n ≤ sizeLine := Nat.le_trans h (by decide)
def rAddL : R2 := fun x y H Q => ∃ a b, x = .str (S a) ∧ y = .str (S b) ∧ a.length + b.length ≤ 100000 ∧ Q (.str (S (a ++ b))) H
theorem op_addL : OpR X (binaryOp .Add) rAddL := by
  intro pins s σ H x y v u Q I rx ry h
  obtain ⟨a, b, rfl, rfl, hz, q⟩ := h
  exact op_add_str pins s σ H _ _ v u Q I rx ry ⟨S a, S b, rfl, rfl, by rw [S_len, S_len]; exact sz hz, by rw [S_cat]; exact q⟩
theorem iop_addL : OpR X (inplaceOp .Add) rAddL := by
  intro pins s σ H x y v u Q I rx ry h
  obtain ⟨a, b, rfl, rfl, hz, q⟩ := h
  exact iop_add_str pins s σ H _ _ v u Q I rx ry ⟨S a, S b, rfl, rfl, by rw [S_len, S_len]; exact sz hz, by rw [S_cat]; exact q⟩
theorem occ_nil (a : List Nat) : (!(Builtin.Str.occurrences (S a) (S []) 0 (S a).length 1).isEmpty) = true :=
  (StrLaws.found_iff (S a) (S [])).mpr ⟨0, Nat.zero_le _, by rw [StrLaws.subAt_eq]; rfl⟩
/-- is b, a sign or nothing, in a -/
def inL (b a : List Nat) : Bool := match b with
  | [] => true
  | c :: _ => decide (c ∈ a)
theorem occ_in {b a : List Nat} (h : b.length ≤ 1) : (!(Builtin.Str.occurrences (S a) (S b) 0 (S a).length 1).isEmpty) = inL b a := by
  match b, h with
  | [], _ => exact occ_nil a
  | [c], _ => exact in_one a c
  | _ :: _ :: _, h => simp at h
def rInL : R2 := fun x y H Q => ∃ b a, x = .str (S b) ∧ y = .str (S a) ∧ b.length ≤ 1 ∧ Q (.bl (inL b a)) H
def rNotInL : R2 := fun x y H Q => ∃ b a, x = .str (S b) ∧ y = .str (S a) ∧ b.length ≤ 1 ∧ Q (.bl (!inL b a)) H
theorem op_inL : OpR X (compareOp .In) rInL := by
  intro pins s σ H x y v u Q I rx ry h
  obtain ⟨b, a, rfl, rfl, hz, q⟩ := h
  exact op_in_str pins s σ H _ _ v u Q I rx ry ⟨S b, S a, rfl, rfl, by rw [occ_in hz]; exact q⟩
theorem op_notInL : OpR X (compareOp .NotIn) rNotInL := by
  intro pins s σ H x y v u Q I rx ry h
  obtain ⟨b, a, rfl, rfl, hz, q⟩ := h
  exact op_notin_str pins s σ H _ _ v u Q I rx ry ⟨S b, S a, rfl, rfl, by rw [occ_in hz]; exact q⟩
/-- an item, from the left -/
def rIxSL : R2 := fun x y H Q => ∃ a i, x = .str (S a) ∧ y = .int i ∧ a.length ≤ 100000 ∧ 0 ≤ i ∧ i < a.length ∧ ∀ c, a[i.toNat]? = some c → Q (.str (S [c])) H
theorem ix_strL : IxR X rIxSL := by
  have hh : ∀ {x y : V} {H : Hp} {Q : VK}, rIxSL x y H Q → rIxS x y H Q := by
    intro x y H Q h
    obtain ⟨a, i, rfl, rfl, hz, h0, h1, q⟩ := h
    obtain ⟨n, rfl⟩ := Int.eq_ofNat_of_zero_le h0
    have hn : n < a.length := by omega
    have e : a[n]? = some a[n] := List.getElem?_eq_getElem hn
    exact ⟨S a, (n : Int), a[n], rfl, rfl, by rw [S_len]; exact sz hz, atI_nat e, q _ e⟩
  intro value slice pins s σ H x y v u Q I rx ry h hsub
  exact ix_str value slice pins s σ H x y v u Q I rx ry (hh h) hsub
/-- slices with bounds from the left -/
def cutL (a : List Nat) (lo hi : Option Int) : List Nat := match hi with
  | none => a.drop (lo.getD 0).toNat
  | some h => (a.take h.toNat).drop (lo.getD 0).toNat
theorem sIx_pos {n d : Nat} {i : Int} (h : 0 ≤ i) : HT.sIx n d (some i) = min i.toNat n := by
  unfold HT.sIx
  first
    | (rw [if_neg (by omega)]; omega)
    | (simp only; split <;> omega)
theorem cutS_L {a : List Nat} {lo hi : Option Int} (h1 : 0 ≤ lo.getD 0) (h2 : 0 ≤ hi.getD 0) : cutS (S a) lo hi = S (cutL a lo hi) := by
  have hl : (S a).length = a.length := S_len a
  have e0 : HT.sIx (S a).length 0 lo = min (lo.getD 0).toNat a.length := by
    rw [hl]
    cases lo with
    | none => show (0 : Nat) = _; simp
    | some i => exact sIx_pos h1
  unfold cutS
  rw [e0]
  refine congrArg S ?_
  show (a.drop _).take _ = _
  cases hi with
  | none =>
    have e1 : HT.sIx (S a).length (S a).length none = a.length := by rw [hl]; rfl
    rw [e1]
    show _ = a.drop (lo.getD 0).toNat
    rw [List.take_of_length_le (by rw [List.length_drop]; omega)]
    by_cases z : (lo.getD 0).toNat ≤ a.length
    · rw [Nat.min_eq_left z]
    · rw [Nat.min_eq_right (by omega), List.drop_eq_nil_of_le (Nat.le_refl _), List.drop_eq_nil_of_le (by omega)]
  | some h =>
    have e1 : HT.sIx (S a).length (S a).length (some h) = min h.toNat a.length := by rw [hl]; exact sIx_pos h2
    rw [e1]
    show _ = (a.take h.toNat).drop (lo.getD 0).toNat
    generalize (lo.getD 0).toNat = p
    generalize h.toNat = q
    rw [← List.drop_take]
    have ht : a.take (min q a.length) = a.take q := by
      by_cases z : q ≤ a.length
      · rw [Nat.min_eq_left z]
      · rw [Nat.min_eq_right (by omega), List.take_of_length_le (Nat.le_refl _), List.take_of_length_le (by omega)]
    rw [ht]
    by_cases z : p ≤ a.length
    · rw [Nat.min_eq_left z]
    · rw [Nat.min_eq_right (by omega), List.drop_eq_nil_of_le (by rw [List.length_take]; omega), List.drop_eq_nil_of_le (by rw [List.length_take]; omega)]
def rSlL : V → Option Int → Option Int → Hp → VK → Prop := fun x lo hi H Q => ∃ a, x = .str (S a) ∧ (a.length ≤ 100000 ∧ 0 ≤ lo.getD 0 ∧ 0 ≤ hi.getD 0) ∧ Q (.str (S (cutL a lo hi))) H
theorem sl_L : SlR X rSlL := by
  intro pins s σ H x v vl vu lo hi sl Q I rx hs pl pu h
  obtain ⟨a, rfl, ⟨hz, h1, h2⟩, q⟩ := h
  exact sl_str pins s σ H _ v vl vu lo hi sl Q I rx hs pl pu ⟨S a, rfl, by rw [S_len]; exact sz hz, by rw [cutS_L h1 h2]; exact q⟩
theorem call_lenL : CallR X (.builtin "len") (fun xs H Q => ∃ a, xs = [.str (S a)] ∧ a.length ≤ 100000 ∧ Q (.int a.length) H) := by
  intro pins s σ H xs us Q I r h
  obtain ⟨a, rfl, hz, q⟩ := h
  exact call_len_str pins s σ H _ us Q I r ⟨S a, rfl, by rw [S_len]; exact sz hz, by rw [S_len]; exact q⟩
end SL

namespace My
open PySem PySem.Spec PyProof.Rows L2
/-! ### a token is out behind a written text; a walk whose body wants one -/
section
variable {X : Cx}
theorem tup_tok {x : Str} {j : Nat} {c0 pos : Pos} {k : Nat} {es : List Expr} {t : TA} (rest : PA X es t) {pl : List (Addr × Obj)} {z : Shared} {st : L2.St} {hp : Hp} {Q : VK} (inv : Inv X pl st hp z) (yes : tTup (tCons (tC (.str x)) t) st hp Q)
    (sp : starEach (.Constant (.str x) j c0 :: es) X.env = (false, eval (.Constant (.str x) j c0) X.env) :: starEach es X.env := by rfl) :
    wpAny (model X.prog X.w) X.A (eval (.Tuple (.Constant (.str x) j c0 :: es) k pos) X.env) (fun v z1 => 1 ≤ z1.toks ∧ EP X pl st Q v z1) X.xe z := by
  refine Tuple_ ?_
  rw [sp]
  show wpAny _ _ (spliced ((false, eval (.Constant (.str x) j c0) X.env) :: backTo pos (starEach es X.env))) _ _ z
  refine Calls.spliced_cons (Calls.Constant_str ?_)
  have go := wpAny_toks_of (n := 1) (show 1 ≤ z.toks + 1 by omega) (rest.run pos pl { z with toks := z.toks + 1 } st hp _ (inv.tok _) yes)
  refine wpAny_mono go (fun us z1 got => ?_) fun _ _ w => w.2
  obtain ⟨k1, xs, h1, j1, r1, lz, q⟩ := got
  have rr : Vals (V.str x :: xs) (Value.str x z.toks :: us) := .cons ⟨_, rfl⟩ r1
  refine wpAny_mono (wpAny_toks_of (n := 1) k1 (Q := EP X pl st Q) (E := X.xe) (wpAny_newObj_type ?_ (by show (Value.str x z.toks :: us).toArray.size ≤ sizeLine; rw [List.size_toArray, ← rr.length]; exact lz))) (fun _ _ w => w) fun _ _ w => w.2
  have free : h1 z1.heap.objs.size = none := j1.hok.fresh (Nat.le_refl _)
  refine ⟨.ref z1.heap.objs.size, upd h1 z1.heap.objs.size (.tup (V.str x :: xs)), j1.laid (t' := z1.toks) (fun b u e => Heap.get?_push_of_some _ e) (Nat.le_refl _) ?_, rfl, q _ free⟩
  exact ⟨lz, _, rr, ⟨_, Heap.get?_push_size _ rfl, rfl, _, rfl⟩⟩
/-- tg = ('..', ..): then what wants a token -/
theorem pss_tupT {x : Str} {j : Nat} {c0 p1 pos : Pos} {k : Nat} {tg : Expr} {es : List Expr} {more : List Stmt} {t : TA} {g : TG} {u : TS} (rest : PA X es t) (hg : PG X tg g) (h2 : PSsT X more u)
    (hs : swapsWithSole [tg] (.Tuple (.Constant (.str x) j c0 :: es) k p1) pos.line X.env = pure false := by rfl) (hw : swappedStores [tg] (.Tuple (.Constant (.str x) j c0 :: es) k p1) X.env = pure none := by rfl)
    (h1 : (assignEach [tg] X.env).map (·.2) = [assign tg X.env] := by rfl) (sp : starEach (.Constant (.str x) j c0 :: es) X.env = (false, eval (.Constant (.str x) j c0) X.env) :: starEach es X.env := by rfl) :
    PSs X (.Assign [tg] (.Tuple (.Constant (.str x) j c0 :: es) k p1) pos :: more) (tSeq (tAsg (tTup (tCons (tC (.str x)) t)) g) u) := by
  refine ⟨fun pl z st hp D inv yes => wpAny_execs_cons (wpAny_Assign_stores (wpAny_mono (tup_tok rest inv (show tTup (tCons (tC (V.str x)) t) st hp (fun y h1 => g y st h1 (u D)) from yes) sp) (fun v z1 got => ?_) fun _ _ w => w) hs hw)⟩
  obtain ⟨k1, xv, h3, j1, r1, q⟩ := got
  rw [h1]
  refine wpAny_mono (wpAny_toks_of (n := 1) k1 (hg.run pl z1 st h3 xv v _ j1 r1 q)) (fun _ z2 w => ?_) fun _ _ w => w.2
  obtain ⟨k2, st2, h4, j2, q2⟩ := w
  exact h2 pl z2 st2 h4 D k2 j2 q2
theorem pst_forT {tg iter : Expr} {body : List Stmt} {wi : TI} {g : TG} {tb : TS} {pos : Pos} (po : PassesOwn (model X.prog X.w) X.A X.env X.xe) (ca : X.calm = true) (wk : PI X tg iter wi) (hg : PG X tg g) (hb : PSsT X body tb)
    (nf : ∀ x, foldedSetIterable iter X.env x = pure x := by intro _; rfl) : PST X (.For tg iter body [] pos) (tFor wi g tb) := by
  intro pl z st hp D k0 inv yes
  refine wpAny_For (wpAny_mono (wpAny_toks_of (n := 1) k0 (wk.run pl z st hp _ inv yes)) (fun v z1 got => wpAny_mono (wpAny_toks_of (n := 1) got.1 got.2) (fun itv z2 got2 => ?_) fun _ _ w => w.2) fun _ _ w => w.2) nf
  obtain ⟨k2, it, fp, tn, J, h2, rfl, j2, tu, s2, f2, W, ⟨m0, w0⟩, turn⟩ := got2
  have own : ∀ {h' : Hp}, (∀ b ∈ fp, h' b = none) → ∀ b ∈ fp, FpOk X pl h' b := fun hn b hb => ⟨hn b hb, (f2 b hb).2⟩
  refine codeAny_forLoop_any (fun n z' => ∃ i st' h', 1 ≤ z'.toks ∧ Inv X pl st' h' z' ∧ tn i z'.heap ∧ (∀ b ∈ fp, h' b = none) ∧ W i n st' h') ?_ m0 ⟨0, st, h2, k2, j2, s2, fun b hb => (f2 b hb).1, w0⟩
  rintro n z3 ⟨i, st3, h3, k3, j3, s3, f3, w3⟩
  rcases turn i n st3 h3 w3 with ⟨stop, qn⟩ | ⟨go, N, hN, step⟩
  · refine wpAny_passesOwn po (thn (tu.done X rfl rfl rfl ca i pl z3 st3 h3 X.xe j3 (own f3) s3 stop) fun r z4 ⟨hr, j4⟩ => ?_)
    subst hr
    exact wpAny_execs_nil ⟨st3, h3, j4, qn⟩
  · refine wpAny_passesOwn po (wpAny_mono (wpAny_toks_of (n := 1) k3 (tu.item X rfl rfl rfl ca i pl z3 st3 h3 X.xe j3 (own f3) s3 go)) (fun r z4 ⟨k4, u, hr, h4⟩ => ?_) fun _ _ w => w.2)
    subst hr
    refine wpAny_passesOwn po (wpAny_mono (wpAny_toks_of (n := 1) k4 h4) (fun _ z5 ⟨k5, x, h5, j5, r5, y5, s5, f5⟩ => ?_) fun _ _ w => w.2)
    have j5' := j5.pinned (own f5) (tu.obj _ _ s5)
    refine wpAny_passesOwn po (wpAny_mono (wpAny_toks_of (n := 1) k5 (hg.run _ z5 st3 h5 x u _ j5' r5 (step x h5 y5))) (fun _ z6 ⟨k6, st6, h6, j6, q6⟩ => ?_) fun _ _ w => w.2)
    refine wpAny_passesOwn po (wpAny_mono (wpAny_toks_of (n := 1) k6 (hb _ z6 st6 h6 _ k6 j6 q6)) (fun f z7 ⟨k7, q7⟩ => ?_) fun _ _ w => w.2)
    have next : ∀ {st7 : L2.St} {h7 : Hp}, Inv X (pl ++ pinsAt fp z5.heap) st7 h7 z7 → N st7 h7 → ∃ m, m < n ∧ ∃ i st' h', 1 ≤ z7.toks ∧ Inv X pl st' h' z7 ∧ tn i z7.heap ∧ (∀ b ∈ fp, h' b = none) ∧ W i m st' h' := fun {st7 h7} j7 n7 => by
      obtain ⟨m', hm, w7⟩ := hN st7 h7 n7
      have pinned : ∀ b ∈ fp, ∀ o, z5.heap.get? b = some o → (b, o) ∈ X.pn ++ (pl ++ pinsAt fp z5.heap) := fun b hb o e => List.mem_append_right _ (List.mem_append_right _ (mem_pinsAt hb e))
      refine ⟨m', hm, i + 1, st7, h7, k7, j7.unpinned, tu.keep _ _ _ s5 fun b hb o e => (j7.pin (b, o) (pinned b hb o e)).1, fun b hb => ?_, w7⟩
      obtain ⟨o, e, _⟩ := tu.obj _ _ s5 b hb
      exact (j7.pin (b, o) (pinned b hb o e)).2.1
    cases f with
    | next => obtain ⟨_, _, j7, n7⟩ := q7; exact next j7 n7
    | cont => obtain ⟨_, _, j7, n7⟩ := q7; exact next j7 n7
    | brk => obtain ⟨_, _, j7, q8⟩ := q7; exact ⟨_, _, j7.unpinned, q8⟩
    | ret v => obtain ⟨_, _, _, j7, r7, q8⟩ := q7; exact ⟨_, _, _, j7.unpinned, r7, q8⟩
theorem pst_setT {i : Nat} {x : Str} {e : Expr} {te : TE} {p1 pos : Pos} (nd : X.N.Nodup) (ei : X.N[i]? = some x) (lc : Loc X.env.scope x) (he : PET X e te) (hs : swapsWith e (some (.Name x p1)) pos.line X.env = pure false := by rfl)
    (hf : X.fn x = true ∨ X.env.scope.names.lookup x = some .local := by first | exact .inl rfl | exact .inr rfl | assumption) : PST X (.Assign [.Name x p1] e pos) (tAsg te (gName i)) := by
  intro pl z st hp D k0 inv yes
  refine wpAny_Assign_Name (thn (he pl z st hp _ k0 inv yes) fun v z1 ⟨y, h1, j1, r1, q⟩ => ?_) hs
  exact store_ok j1 nd ei lc r1 (fun z2 j2 => ⟨_, h1, j2, q⟩) hf
end
end My

namespace My
open PySem PySem.Spec PyProof.Rows L2
/-! ### two clauses 'except X as n', 'except Y as n' -/
def inSuite (i : Nat) (a : Addr) (D : Ends) : Ends := { nx := fun x y => D.nx (x.set i none) y, rt := D.rt, bk := fun x y => D.bk (x.set i none) y, ct := fun x y => D.ct (x.set i none) y }
def wTwo (K : PySem.W.Frag) (c c' : Value) (i : Nat) (ts ts' : Addr → Value → Option Addr → TS) (D : Ends) : WX := fun cl dd st hp =>
  (PySem.W.exmOne K cl c = some true ∧ ∀ a, hp a = none → ts a cl dd (inSuite i a D) (st.set i (some (.ref a))) hp) ∨
  (PySem.W.exmOne K cl c = some false ∧ PySem.W.exmOne K cl c' = some true ∧ ∀ a, hp a = none → ts' a cl dd (inSuite i a D) (st.set i (some (.ref a))) hp)
section
variable {X : Cx} {x x' n : Str} {c c' : Value} {i : Nat} {body su su' : List Stmt} {b1 b1' : Stmt} {np ps np' ps' pos : Pos} {more : List ExceptHandler} {tb : WX → TS} {ts ts' : Addr → Value → Option Addr → TS}
theorem ps_try_two (e1 : X.stack = X.env :: X.outer) (e2 : X.env.frame = some X.env.locals) (nd : X.N.Nodup) (ei : X.N[i]? = some n) (el : X.env.kindOf n = some .local) (nc : Names X x c) (nc' : Names X x' c')
    (run : ∀ (W : WX) (pl : List (Addr × Obj)) (xe : Value → Shared → Prop), Takes (X.tr pl xe) W → PassesOwn (model X.prog X.w) X.A X.env xe → PSs (X.tr pl xe) body (tb W))
    (suite : ∀ (a : Addr) (oe : Obj) (cl : Value) (dd : Option Addr) (pl : List (Addr × Obj)), Zc cl dd oe → (∃ vs, oe.data = .fields vs) → PSs (X.suite a ((a, oe) :: pl)) (b1 :: su) (ts a cl dd))
    (suite' : ∀ (a : Addr) (oe : Obj) (cl : Value) (dd : Option Addr) (pl : List (Addr × Obj)), Zc cl dd oe → (∃ vs, oe.data = .fields vs) → PSs (X.suite a ((a, oe) :: pl)) (b1' :: su') (ts' a cl dd)) :
    PS X (.Try body (.ExceptHandler (some (.Name x np)) (some n) (b1 :: su) ps :: .ExceptHandler (some (.Name x' np')) (some n) (b1' :: su') ps' :: more) [] [] pos)
      (fun D st hp => tb (wTwo X.K c c' i ts ts' D) D st hp) := by
  refine ⟨fun pl s st hp D inv yes => ?_⟩
  have good := inv.ok
  have fr : X.A.frames = some (X.env :: X.outer) := by rw [good.frames, e1]
  have lc : Loc X.env.scope n := .inl el
  refine wpAny_Try_except (wpAny_mono ((run (wTwo X.K c c' i ts ts' D) (X.pn ++ pl) (fun ex z1 => wpAny (model X.prog X.w) X.A (noteFrame ex X.env) (fun _ z2 => wpAny (model X.prog X.w) X.A (setFlight ex none) (fun _ z3 =>
    wpAny (model X.prog X.w) X.A (handleBy ex X.env (.ExceptHandler (some (.Name x np)) (some n) (b1 :: su) ps :: .ExceptHandler (some (.Name x' np')) (some n) (b1' :: su') ps' :: more)) (SP X pl D) X.xe z3) X.xe z2) X.xe z1) (fun u z' got => ?_) PassesOwn.looking).run [] s st hp D (inv.toTry _) yes) (fun fl z1 end1 => ?_) (fun ex z1 w => w))
  · obtain ⟨a, gr, si, pl', st1, hp1, cl, dd, rfl, j0, nb, up, sky, na, os, ag, wish⟩ := got
    have j1 : Inv X pl st1 hp1 si := j0.ofTry good
    have sk : Sky gr (X.env :: X.outer) a (Zc cl dd) X.env.locals z'.heap := by rw [← e1]; exact sky
    show wpAny _ X.A (noteFrame (.ref a) X.env) _ _ _
    refine Sky.land Zc.steady fr e2 sk fun k3 f3 u3 => ?_
    have j3 : Inv X pl st1 hp1 { z' with heap := k3 } := j1.landed nb f3.1 (up.trans u3) os ag
    obtain ⟨o3, w3, r3, t3, q3⟩ := f3.there
    have off : a ∉ frs (X.env :: X.outer) := fun m => by
      obtain ⟨_, o4, r4, none4⟩ := f3.2.2.1.mem m
      rw [r3] at r4; cases r4
      exact none4 _ q3
    have l3 : a ≠ X.env.locals := fun z => off (List.mem_filterMap.mpr ⟨X.env, List.mem_cons_self, by rw [e2, z]⟩)
    have f4 : a ∉ X.fs := fun m => by
      obtain ⟨v, hv, hq⟩ := List.mem_filterMap.mp m
      exact off (List.mem_filterMap.mpr ⟨v, List.mem_cons_of_mem _ hv, hq⟩)
    have s3 := j3.suite r3 q3 na l3 f4
    have kind : PySem.W.Looks (model X.prog X.w) k3 (typeOf (.ref a)) cl := fun _ _ _ _ k q => wpAny_typeOf_ref (k _ _ r3) (by rw [t3.1]; exact q)
    have name : ∀ {y : Str} {d : Value} {npp : Pos}, Names X y d → ∀ {Q E : Value → Shared → Prop}, Q d { z' with heap := k3 } → wpAny (model X.prog X.w) (X.A.mark (some (.ref a))) (eval (.Name y npp) X.env) Q E { z' with heap := k3 } := fun {y d npp} nn {Q E} q => by
      obtain ⟨g1, g2, g3 | ⟨g3, g4, g5⟩⟩ := nn
      · exact ld_glob (X := X.suite a ((a, o3) :: (X.pn ++ pl))) s3 g1 g3 q g2
      · exact ld_blt (X := X.suite a ((a, o3) :: (X.pn ++ pl))) s3 g1 g3 g4 q g5 g2
    have land : ∀ {bb : Stmt} {ss : List Stmt} {tt : Addr → Value → Option Addr → TS} {hs : List ExceptHandler} {np0 ps0 : Pos} {y : Str},
        (∀ (a : Addr) (oe : Obj) (cl : Value) (dd : Option Addr) (pl : List (Addr × Obj)), Zc cl dd oe → (∃ vs, oe.data = .fields vs) → PSs (X.suite a ((a, oe) :: pl)) (bb :: ss) (tt a cl dd)) →
        (∀ a, hp1 a = none → tt a cl dd (inSuite i a D) (st1.set i (some (.ref a))) hp1) → ∀ {d : Value}, Names X y d → PySem.W.exmOne X.K cl d = some true →
        wpAny (model X.prog X.w) X.A (handleBy (.ref a) X.env (.ExceptHandler (some (.Name y np0)) (some n) (bb :: ss) ps0 :: hs)) (SP X pl D) X.xe { z' with heap := k3 } := fun {bb ss tt hs np0 ps0 y} sut wsh {d} nn hit => by
      refine wpAny_handleBy_cons (codeAny_handlers_test ?_) (by intro q; cases q)
      have fits := PySem.W.exm_one (M := model X.prog X.w) (j3.kIn) kind hit
      refine name nn (fits.here (codeAny_handlers_suite_as (HandSPX.lands_againZ f3 fun k4 f5 u4 => ?_)))
      have j4 : Inv X pl st1 hp1 { z' with heap := k4 } := j1.landed nb f5.1 ((up.trans u3).trans u4) os ag
      obtain ⟨o5, w5, r5, t5, q5⟩ := f5.there
      have s4 := j4.suite r5 q5 na l3 f4
      refine store_ok (X := X.suite a ((a, o5) :: (X.pn ++ pl))) (v := .ref a) s4 nd ei lc rfl (fun z5 s5 => ?_) (.inr el)
      refine wpAny_mono ((sut a o5 cl dd (X.pn ++ pl) t5 ⟨_, q5⟩).run [] z5 _ hp1 _ s5 (wsh a na)) (fun fl z6 end6 => ?_) (fun _ _ z => False.elim z)
      have out : ∀ {st6 : L2.St} {hp6 : Hp} {Q : Shared → Prop}, Inv (X.suite a ((a, o5) :: (X.pn ++ pl))) [] st6 hp6 z6 → (∀ z7, Inv X pl (st6.set i none) hp6 z7 → Q z7) →
          wpAny (model X.prog X.w) X.A (do bindName X.env n .none; unbindBehindTheSuite X.env n ps0) (fun _ z7 => Q z7) X.xe z6 := fun s6 q => gone_ok (s6.unsuite good) nd ei el q
      cases fl with
      | next => obtain ⟨_, _, s6, q6⟩ := end6; exact out s6 fun _ j7 => ⟨_, _, j7, q6⟩
      | brk => obtain ⟨_, _, s6, q6⟩ := end6; exact out s6 fun _ j7 => ⟨_, _, j7, q6⟩
      | cont => obtain ⟨_, _, s6, q6⟩ := end6; exact out s6 fun _ j7 => ⟨_, _, j7, q6⟩
      | ret u => obtain ⟨_, _, _, s6, r6, q6⟩ := end6; exact out s6 fun _ j7 => ⟨_, _, _, j7, r6, q6⟩
    rcases wish with ⟨hit, wsh⟩ | ⟨miss, hit, wsh⟩
    · exact land suite wsh nc hit
    · refine wpAny_handleBy_cons (codeAny_handlers_test ?_) (by intro q; cases q)
      have not_ := PySem.W.exm_one (M := model X.prog X.w) (j3.kIn) kind miss
      refine name nc (not_.here ?_)
      show wpAny _ X.A (handleBy (.ref a) X.env _) _ _ _
      exact land suite' wsh nc' hit
  · cases fl with
    | next => obtain ⟨_, _, j, q⟩ := end1; exact wpAny_execs_nil ⟨_, _, j.ofTry good, q⟩
    | brk => obtain ⟨_, _, j, q⟩ := end1; exact ⟨_, _, j.ofTry good, q⟩
    | cont => obtain ⟨_, _, j, q⟩ := end1; exact ⟨_, _, j.ofTry good, q⟩
    | ret u => obtain ⟨_, _, _, j, r, q⟩ := end1; exact ⟨_, _, _, j.ofTry good, r, q⟩
end
end My

namespace My
open PySem PySem.Spec PyProof.Rows L2
/-- dict(zip(ks, xs)): two lists, the first one of texts -/
def tDZ (K : PySem.W.Frag) (t : TA) : TE := fun σ H Q => t σ H fun vs H1 => ∃ (a b : Addr) (ks : List Str) (xs : List V), vs = [.ref a, .ref b] ∧ SqL K H1 a (ks.map V.str) ∧ SqL K H1 b xs ∧
  ∀ p, H1 p = none → Q (.ref p) (upd H1 p (.dK (mergeK [] ((ks.zip xs).map fun kv => (Sum.inr kv.1, kv.2)))))
theorem kv_zip : ∀ {ks : List Str} {xs : List V} {us ws : List Value}, Vals (ks.map V.str) us → Vals xs ws →
    ∃ prs : List (Key × Value), KV ((ks.zip xs).map fun kv => ((Sum.inr kv.1 : Key), kv.2)) prs ∧ prs.length = min us.length ws.length ∧
      ∀ (i : Nat) (key v : Value), us[i]? = some key → ws[i]? = some v → ∃ k, prs[i]? = some (k, v) ∧ keyIs k key = true
  | [], xs, us, ws, h1, _ => by
    cases h1
    exact ⟨[], .nil, by simp, fun i key v h => by simp at h⟩
  | k :: ks, [], us, ws, h1, h2 => by
    cases h2
    exact ⟨[], .nil, by simp, fun i key v _ h => by simp at h⟩
  | k :: ks, x :: xs, us, ws, h1, h2 => by
    cases h1 with
    | cons r t =>
      cases h2 with
      | cons r2 t2 =>
        obtain ⟨prs, q1, q2, q3⟩ := kv_zip t t2
        obtain ⟨tk, rfl⟩ := (show ∃ t, _ = Value.str k t from r)
        rename_i u _
        refine ⟨(Sum.inr k, u) :: prs, .cons ⟨rfl, r2⟩ q1, ?_, ?_⟩
        · simp only [List.length_cons, q2]; omega
        · intro i key v e1 e2
          cases i with
          | zero =>
            simp at e1 e2
            subst e1 e2
            exact ⟨_, rfl, by simp [keyIs, Value.isStrOf]⟩
          | succ i =>
            simp at e1 e2
            obtain ⟨k', e3, e4⟩ := q3 i key v e1 e2
            exact ⟨k', by simpa using e3, e4⟩
section
variable {X : Cx}
theorem pe_dictZip {e1 e2 : Expr} {ta : TA} {p pos p2 pos2 : Pos} (hc : X.calm = true) (hg : Gl X "dict") (hm : X.mg "dict" = none) (hg2 : Gl X "zip") (hm2 : X.mg "zip" = none) (ha : PA X [e1, e2] ta)
    (hs : starEach [e1, e2] X.env = (false, eval e1 X.env) :: starEach [e2] X.env := by rfl) (hpl : (backTo pos2 (starEach [e2] X.env)).any (·.1) = false := by rfl)
    (hs2 : starEach [(.Call (.Name "zip" p2) [e1, e2] [] pos2)] X.env = (false, eval (.Call (.Name "zip" p2) [e1, e2] [] pos2) X.env) :: starEach [] X.env := by rfl) :
    PE X (.Call (.Name "dict" p) [.Call (.Name "zip" p2) [e1, e2] [] pos2] [] pos) (tDZ X.K ta) := by
  refine ⟨fun pins s σ H Q I h => ?_⟩
  refine wpAny_Call_Name_kw (ld_blt I hg hm PyProof.Rows.boot_dict ?_)
  refine PyProof.Rows.callWith_type1 ?_ hs2 (by rfl)
  rw [hs2]
  show wpAny _ _ (spliced ((false, eval _ X.env) :: backTo pos (starEach [] X.env))) _ _ s
  refine Calls.spliced_cons ?_
  refine wpAny_Call_Name_kw (ld_blt I hg2 hm2 PyProof.Rows.boot_zip ?_)
  refine PyProof.Rows.callWith_type1 (thn (ha.run pos2 pins s σ H _ I h) fun us s1 hh => ?_) hs hpl
  obtain ⟨vs, H1, I1, r1, a, b, ks, xs, rfl, hqx, hqy, q⟩ := hh
  cases r1 with
  | cons r rr =>
    cases rr with
    | cons r' rr =>
      cases rr
      cases r
      cases r'
      obtain ⟨its, rv, p1, _⟩ := I1.list hqx
      obtain ⟨its2, rv2, p2, hz2⟩ := I1.list hqy
      have la : a < s1.heap.objs.size := p1.lt
      have lb : b < s1.heap.objs.size := p2.lt
      refine call_zip_2 p1.isList p2.isList fun h' hz hTI hTO hi1 hi2 hsz hk => ?_
      refine Calls.spliced_nil ?_
      obtain ⟨prs, rel, hl, hpr⟩ := kv_zip rv rv2
      have P := PairArg.zip (prog := X.prog) (w := X.w) _ _ _ _ _ _ _ (PySem.W.ktu_apart s1.heap.objs.size a b la lb) its.toArray its2.toArray
      have hlen : prs.length = min its.toArray.size its2.toArray.size := by simpa using hl
      refine PySem.call_dict_pairs (knd := mixKind X.prog X.w) (kvs := prs) (s := { s1 with heap := h' }) P (I.ok.hd hc) ⟨hz, hTI, ⟨_, _, hTO⟩, hi1, hi2, p1.isList.at fun o e => hk _ o e, p2.isList.at fun o e => hk _ o e⟩ ⟨hlen, ?_⟩ ?_ ?_
      · rintro i key v ⟨e3, e4⟩
        exact hpr i key v (by simpa using e3) (by simpa using e4)
      · have e5 : xs.length = its2.length := rv2.length
        have e6 : its2.toArray.size = its2.length := by simp
        rw [e6]
        exact Nat.le_trans (Nat.min_le_right _ _) (e5 ▸ hz2)
      · intro h'' tk hd hkk
        have old : ∀ c o, s1.heap.get? c = some o → h''.get? c = some o := fun c o e => by
          have lt := Heap.lt_size e
          refine hkk c o ?_ (hk c o e)
          intro hmem
          have e' : c = s1.heap.objs.size + 4 ∨ c = s1.heap.objs.size + 3 ∨ c = s1.heap.objs.size ∨ c = s1.heap.objs.size + 1 := by simpa using hmem
          have hle : s1.heap.objs.size ≤ c := by
            rcases e' with z | z | z | z
            · rw [z]; exact Nat.le_add_right _ _
            · rw [z]; exact Nat.le_add_right _ _
            · rw [z]; exact Nat.le_refl _
            · rw [z]; exact Nat.le_add_right _ _
          exact absurd lt (Nat.not_lt.mpr hle)
        have big : s1.heap.objs.size ≤ h'.objs.size := by omega
        have hm' : (h'.objs.size == sysModules) = false := by
          exact beq_eq_false_iff_ne.mpr (Nat.ne_of_gt (Nat.lt_of_lt_of_le I1.big big))
        have hlen2 : (mergeK [] ((ks.zip xs).map fun kv => ((Sum.inr kv.1 : Key), kv.2))).length ≤ sizeLine := by
          refine Nat.le_trans (length_mergeK _ []) ?_
          simp only [List.length_nil, List.length_map, List.length_zip]
          omega
        exact ⟨.ref h'.objs.size, _, I1.laid (t' := tk) old big (show ObjOk X.prog X.w _ _ _ (.dK (mergeK [] ((ks.zip xs).map fun kv => (Sum.inr kv.1, kv.2)))) from ⟨hlen2, hm', merged [] prs, KV.merge rel .nil, hd⟩), rfl, q _ (I1.hok.fresh big)⟩
end
end My

namespace My
open PySem PySem.Spec PyProof.Rows L2
/-! ### rules that leave the heap a letter: what stood stands, what is new is told -/
theorem sameNew {H : Hp} {x : Addr} {o : HO} (hx : H x = none) : Same H (upd H x o) := fun b u e => by
  rw [upd_ne (ne_of_none e hx)]
  exact e
section
variable {X : Cx}
/-- [a, b] -/
def tLstG (t : TA) : TE := fun σ H Q => t σ H fun xs H1 => xs.length ≤ sizeLine ∧ ∀ (p : Addr) (H' : Hp), H1 p = none → H' p = some (.lst xs) → Same H1 H' → Q (.ref p) H'
theorem pe_lstG {es : List Expr} {t : TA} {pos : Pos} (h : PA X es t) : PE X (.List es pos) (tLstG t) := by
  refine ⟨fun pins s σ H Q I hq => ?_⟩
  refine wpAny_List_spliced (thn (h.run pos pins s σ H _ I hq) fun us s1 hh => ?_)
  obtain ⟨xs, H1, I1, r, z, q⟩ := hh
  have hf : H1 s1.heap.objs.size = none := I1.hok.fresh (Nat.le_refl _)
  exact ⟨by rw [← r.length]; exact z, .ref s1.heap.objs.size, upd H1 s1.heap.objs.size (.lst xs),
    I1.laid (t' := s1.toks) (fun b u e => Heap.get?_push_of_some _ e) (Nat.le_refl _) (show ObjOk X.prog X.w _ _ _ (.lst xs) from ⟨z, us, 0, r, Heap.get?_push_size _ rfl⟩), rfl, q _ _ hf upd_same (sameNew hf)⟩
/-- xs + ys, two lists -/
def rCatG : R2 := fun x y H Q => ∃ l b xs zs, x = .ref l ∧ y = .ref b ∧ H l = some (.lst xs) ∧ H b = some (.lst zs) ∧ xs.length + zs.length ≤ sizeLine ∧
  ∀ (p : Addr) (H' : Hp), H p = none → H' p = some (.lst (xs ++ zs)) → Same H H' → Q (.ref p) H'
theorem op_catG : OpR X (binaryOp .Add) rCatG := fun pins s σ H x y v u Q I rx ry h => op_cat pins s σ H x y v u Q I rx ry (by
  obtain ⟨l, b, xs, zs, e1, e2, h1, h2, hz, q⟩ := h
  exact ⟨l, b, xs, zs, e1, e2, h1, h2, hz, fun p hp => q p _ hp upd_same (sameNew hp)⟩)
/-- a new error as a value -/
def tErrG (C : Addr) (f : Str) (t : TA) : TE := fun σ H Q => t σ H fun vs H1 => ∃ v, vs = [v] ∧
  ∀ (a d : Addr) (H' : Hp), H1 a = none → H' a = some (ExD C (some d) a) → H' d = some (.xd [(f, v)]) → Same H1 H' → Q (.ref a) H'
variable {C fI : Addr} {cn f : Str}
theorem pe_errG {a : Expr} {ta : TA} {p pos : Pos} {k : Nat} (T : ErrTxt X.K X.mg cn f C fI) (hr : Room k X.A) (ha : PA X [a] ta) (hg : Gl X cn)
    (hdb : (cn == ("__debug__" : Str)) = false := by decide)
    (he : starEach (a :: []) X.env = (false, eval a X.env) :: starEach [] X.env := by rfl) (hpl : (backTo pos (starEach [] X.env)).any (·.1) = false := by rfl) :
    PE X (.Call (.Name cn p) [a] [] pos) (tErrG C f ta) := by
  refine ⟨fun pins s σ H Q I h => ?_⟩
  refine wpAny_Call_Name_kw (ld_glob I hg T.gC ?_ hdb)
  refine PySem.W.callWith_K (h₀ := X.base) I.ok.mod.kin T.kC (thn (ha.run pos pins s σ H _ I h) fun us s1 hh => ?_) he hpl
  obtain ⟨vs, H1, I1, r1, v, ev, q1⟩ := hh
  subst ev
  refine ⟨I1.kIn, ?_⟩
  cases r1 with
  | cons rv rn =>
    cases rn
    exact err_run T hr (.inl ⟨rfl, rfl⟩) I1 rv fun a d h1 h2 h3 => q1 a d _ h1 upd_same (by rw [upd_ne h3.symm]; exact upd_same) (fun b o e => by
      rw [upd_ne (ne_of_none e h1), upd_ne (ne_of_none e h2)]; exact e)
theorem pe_errGK {kws : List Keyword} {tk : TA} {p pos : Pos} {k : Nat} (T : ErrTxt X.K X.mg cn f C fI) (hr : Room k X.A) (ha : PK X kws tk) (hg : Gl X cn)
    (hall : (backToKw pos (keywordEach kws X.env)).all (·.1.isSome) = true := by rfl)
    (hks : (backToKw pos (keywordEach kws X.env)).filterMap (·.1) = [f] := by rfl)
    (hdb : (cn == ("__debug__" : Str)) = false := by decide)
    (hpl : ((backTo pos (starEach [] X.env)).any (·.1) || (backToKw pos (keywordEach kws X.env)).any (·.1.isNone)) = false := by rfl) :
    PE X (.Call (.Name cn p) [] kws pos) (tErrG C f tk) := by
  refine ⟨fun pins s σ H Q I h => ?_⟩
  refine wpAny_Call_Name_kw (ld_glob I hg T.gC ?_ hdb)
  refine PySem.W.callWith_KW0 (h₀ := X.base) I.ok.mod.kin T.kC hall (thn (ha.run pos pins s σ H _ I h) fun us s1 hh => ?_) hpl
  obtain ⟨vs, H1, I1, r1, v, ev, q1⟩ := hh
  subst ev
  refine ⟨I1.kIn, ?_⟩
  rw [hks]
  cases r1 with
  | cons rv rn =>
    cases rn
    exact err_run T hr (.inr ⟨rfl, rfl⟩) I1 rv fun a d h1 h2 h3 => q1 a d _ h1 upd_same (by rw [upd_ne h3.symm]; exact upd_same) (fun b o e => by
      rw [upd_ne (ne_of_none e h1), upd_ne (ne_of_none e h2)]; exact e)
end
end My

namespace My
open PySem PySem.Spec PyProof.Rows L2
/-! ### the mathematics of formats with dollars, over lists of code points -/
def LET : List Nat := (Str.ofString "abcdefghijklmnopqrstuvwxyzABCDEFGHIJKLMNOPQRSTUVWXYZ").cps.toList
def DIG : List Nat := (Str.ofString "0123456789").cps.toList
def wordc (c : Nat) : Bool := decide (c ∈ LET) || (decide (c ∈ DIG) || decide (c = 95))
def leadN : List Nat → List Nat
  | [] => []
  | c :: r => if c ∈ DIG then [] else (c :: r).takeWhile wordc
/-- behind a dollar: the name, or none; and what is left -/
def dname (r : List Nat) : List Nat × List Nat :=
  if r.head? ≠ some 123 then (leadN r, r.drop (leadN r).length)
  else if (r.tail.drop (leadN r.tail).length).head? ≠ some 125 then ([], r.tail.drop (leadN r.tail).length)
  else (leadN r.tail, (r.tail.drop (leadN r.tail).length).tail)
inductive Pc where
  | txt (l : List Nat)
  | fld (n : List Nat)
def nms : List Pc → List (List Nat)
  | [] => []
  | .txt _ :: r => nms r
  | .fld n :: r => n :: nms r
theorem nms_app : ∀ (a b : List Pc), nms (a ++ b) = nms a ++ nms b
  | [], b => rfl
  | .txt _ :: r, b => nms_app r b
  | .fld n :: r, b => congrArg (n :: ·) (nms_app r b)
/-- what the reader makes of a format: its pieces, or a refusal -/
inductive Dp : List Nat → Option (List Pc) → Prop
  | nil : Dp [] (some [])
  | chr {c : Nat} {r : List Nat} {o : Option (List Pc)} : c ≠ 36 → Dp r o → Dp (c :: r) (o.map (Pc.txt [c] :: ·))
  | two {r : List Nat} {o : Option (List Pc)} : Dp r o → Dp (36 :: 36 :: r) (o.map (Pc.txt [36] :: ·))
  | bad {r : List Nat} : r.head? ≠ some 36 → (dname r).1 = [] → Dp (36 :: r) none
  | fld {r : List Nat} {o : Option (List Pc)} : r.head? ≠ some 36 → (dname r).1 ≠ [] → Dp (dname r).2 o → Dp (36 :: r) (o.map (Pc.fld (dname r).1 :: ·))
/-- a name of a field -/
structure Nm (n : List Nat) : Prop where
  ne : n ≠ []
  all : ∀ c ∈ n, wordc c = true
  hd : ∀ c, n.head? = some c → c ∉ DIG
/-- what begins with no sign of names -/
def Stop (r : List Nat) : Prop := ∀ c, r.head? = some c → wordc c = false
theorem takeW_app {n r : List Nat} (h : ∀ c ∈ n, wordc c = true) (s : Stop r) : (n ++ r).takeWhile wordc = n := by
  rw [List.takeWhile_append_of_pos h]
  cases r with
  | nil => simp
  | cons c r => rw [List.takeWhile_cons_of_neg (by rw [s c rfl]; decide)]; simp
theorem leadN_app {n r : List Nat} (h : Nm n) (s : Stop r) : leadN (n ++ r) = n := by
  cases n with
  | nil => exact absurd rfl h.ne
  | cons c n =>
    show (if c ∈ DIG then [] else (c :: (n ++ r)).takeWhile wordc) = _
    rw [if_neg (h.hd c rfl)]
    exact takeW_app (n := c :: n) h.all s
theorem word_ne {c : Nat} (h : wordc c = true) : c ≠ 36 ∧ c ≠ 123 ∧ c ≠ 125 := by
  refine ⟨?_, ?_, ?_⟩ <;> · intro e; subst e; revert h; decide +kernel
theorem Nm.head {n : List Nat} (h : Nm n) (r : List Nat) : ∃ c t, n ++ r = c :: t ∧ wordc c = true := by
  cases n with
  | nil => exact absurd rfl h.ne
  | cons c n => exact ⟨c, n ++ r, rfl, h.all c List.mem_cons_self⟩
theorem dname_plain {n r : List Nat} (h : Nm n) (s : Stop r) : dname (n ++ r) = (n, r) ∧ (n ++ r).head? ≠ some 36 := by
  obtain ⟨c, t, e, hw⟩ := h.head r
  have h1 : (n ++ r).head? ≠ some 123 := by rw [e]; intro q; exact (word_ne hw).2.1 (Option.some.inj q)
  refine ⟨?_, by rw [e]; intro q; exact (word_ne hw).1 (Option.some.inj q)⟩
  unfold dname
  rw [if_pos h1, leadN_app h s, List.drop_left]
theorem stop_brace {r : List Nat} : Stop (125 :: r) := fun c h => by
  have : 125 = c := Option.some.inj h
  subst this; decide +kernel
theorem stop_dollar {r : List Nat} : Stop (36 :: r) := fun c h => by
  have : 36 = c := Option.some.inj h
  subst this; decide +kernel
theorem stop_nil : Stop [] := fun _ h => nomatch h
theorem dname_brace {n r : List Nat} (h : Nm n) : dname (123 :: (n ++ 125 :: r)) = (n, r) := by
  unfold dname
  have e : (123 :: (n ++ 125 :: r) : List Nat).tail = n ++ 125 :: r := rfl
  rw [if_neg (fun q => q rfl), e, leadN_app h stop_brace, List.drop_left]
  rw [if_neg (fun q => q rfl)]
  rfl
/-- what is written rightly, with the names of its fields -/
inductive WF : List Nat → List (List Nat) → Prop
  | nil : WF [] []
  | chr {c : Nat} {r : List Nat} {ns : List (List Nat)} : c ≠ 36 → WF r ns → WF (c :: r) ns
  | two {r : List Nat} {ns : List (List Nat)} : WF r ns → WF (36 :: 36 :: r) ns
  | plain {n r : List Nat} {ns : List (List Nat)} : Nm n → Stop r → WF r ns → WF (36 :: (n ++ r)) (n :: ns)
  | brace {n r : List Nat} {ns : List (List Nat)} : Nm n → WF r ns → WF (36 :: 123 :: (n ++ 125 :: r)) (n :: ns)
theorem stop_app {x r : List Nat} (h1 : Stop x) (h2 : Stop r) : Stop (x ++ r) := by
  cases x with
  | nil => exact h2
  | cons c x => exact fun d hd => h1 d hd
theorem WF.app {x : List Nat} {ns : List (List Nat)} (h : WF x ns) {r : List Nat} {o : Option (List Pc)} (s : Stop r) (d : Dp r o) : ∃ ps, Dp (x ++ r) (o.map (ps ++ ·)) ∧ nms ps = ns := by
  induction h with
  | nil => exact ⟨[], by simpa using d, rfl⟩
  | @chr c r' ns hc _ ih =>
    obtain ⟨ps, q, e⟩ := ih
    refine ⟨.txt [c] :: ps, ?_, e⟩
    have := Dp.chr hc q
    simpa [Option.map_map, Function.comp_def] using this
  | @two r' ns _ ih =>
    obtain ⟨ps, q, e⟩ := ih
    refine ⟨.txt [36] :: ps, ?_, e⟩
    have := Dp.two q
    simpa [Option.map_map, Function.comp_def] using this
  | @plain n r' ns hn hs _ ih =>
    obtain ⟨ps, q, e⟩ := ih
    obtain ⟨q1, q2⟩ := dname_plain hn (stop_app hs s)
    refine ⟨.fld n :: ps, ?_, by show n :: nms ps = _; rw [e]⟩
    have z := Dp.fld (r := n ++ (r' ++ r)) q2 (by rw [q1]; exact hn.ne) (by rw [q1]; exact q)
    rw [q1] at z
    simpa [Option.map_map, Function.comp_def] using z
  | @brace n r' ns hn _ ih =>
    obtain ⟨ps, q, e⟩ := ih
    have q1 := dname_brace (r := r' ++ r) hn
    refine ⟨.fld n :: ps, ?_, by show n :: nms ps = _; rw [e]⟩
    have z := Dp.fld (r := 123 :: (n ++ 125 :: (r' ++ r))) (by intro q; cases q) (by rw [q1]; exact hn.ne) (by rw [q1]; exact q)
    rw [q1] at z
    simpa [Option.map_map, Function.comp_def] using z
/-- the signs of names ahead are texts -/
theorem WF.cut {y : List Nat} {ms : List (List Nat)} (h : WF y ms) : ∃ w y', y = w ++ y' ∧ (∀ c ∈ w, wordc c = true) ∧ Stop y' ∧ WF y' ms := by
  induction h with
  | nil => exact ⟨[], [], rfl, (fun _ h => nomatch h), stop_nil, .nil⟩
  | @chr c r ns hc hr ih =>
    by_cases hw : wordc c = true
    · obtain ⟨w, y', rfl, h1, h2, h3⟩ := ih
      exact ⟨c :: w, y', rfl, fun d hd => by rcases List.mem_cons.mp hd with rfl | hd; exact hw; exact h1 d hd, h2, h3⟩
    · exact ⟨[], c :: r, rfl, (fun _ h => nomatch h), fun d hd => by
        have : c = d := Option.some.inj hd
        subst this; simpa using hw, .chr hc hr⟩
  | two hr _ => exact ⟨[], _, rfl, (fun _ h => nomatch h), stop_dollar, .two hr⟩
  | plain hn hs hr _ => exact ⟨[], _, rfl, (fun _ h => nomatch h), stop_dollar, .plain hn hs hr⟩
  | brace hn hr _ => exact ⟨[], _, rfl, (fun _ h => nomatch h), stop_dollar, .brace hn hr⟩
/-- two of them one behind the other, then something that is refused -/
theorem WF.glue {x : List Nat} {ns : List (List Nat)} (h : WF x ns) {y : List Nat} {ms : List (List Nat)} (hy : WF y ms) {r : List Nat} (s : Stop r) (d : Dp r none) : Dp (x ++ (y ++ r)) none := by
  induction h with
  | nil =>
    obtain ⟨ps, q, _⟩ := hy.app s d
    simpa using q
  | chr hc _ ih => simpa using Dp.chr hc ih
  | two _ ih => simpa using Dp.two ih
  | @plain n r' ns hn hs hr ih =>
    cases r' with
    | cons c r' =>
      obtain ⟨q1, q2⟩ := dname_plain (r := (c :: r') ++ (y ++ r)) hn (fun d hd => hs d hd)
      have z := Dp.fld (r := n ++ ((c :: r') ++ (y ++ r))) (o := none) q2 (by rw [q1]; exact hn.ne) (by rw [q1]; exact ih)
      simpa using z
    | nil =>
      obtain ⟨w, y', rfl, h1, h2, h3⟩ := hy.cut
      have hn2 : Nm (n ++ w) := ⟨fun e => hn.ne (List.append_eq_nil_iff.mp e).1, fun c hc => by
        rcases List.mem_append.mp hc with hc | hc
        · exact hn.all c hc
        · exact h1 c hc, fun c hc => hn.hd c (by
        cases n with
        | nil => exact absurd rfl hn.ne
        | cons a n => exact hc)⟩
      obtain ⟨q1, q2⟩ := dname_plain (r := y' ++ r) hn2 (stop_app h2 s)
      obtain ⟨ps, q, _⟩ := h3.app s d
      have z := Dp.fld (r := (n ++ w) ++ (y' ++ r)) (o := none) q2 (by rw [q1]; exact hn2.ne) (by rw [q1]; simpa using q)
      simpa using z
  | @brace n r' ns hn _ ih =>
    have q1 := dname_brace (r := r' ++ (y ++ r)) hn
    have z := Dp.fld (r := 123 :: (n ++ 125 :: (r' ++ (y ++ r)))) (o := none) (by intro q; cases q) (by rw [q1]; exact hn.ne) (by rw [q1]; exact ih)
    simpa using z
end My

namespace My
open PySem PySem.Spec PyProof.Rows L2
/-! ### the mathematics of formats in braces -/
def inn (r : List Nat) : List Nat := r.takeWhile (fun c => decide (c ≠ 125))
def aft (r : List Nat) : List Nat := r.drop ((inn r).length + 1)
def bway (r : List Nat) : List Nat := if r.take 2 = [33, 114] ∨ r.take 2 = [33, 115] then r.drop 2 else r
def isAl (l : List Nat) : Bool := decide (l = [60]) || (decide (l = [62]) || decide (l = [94]))
def isW (d : List Nat) : Bool := decide (d.length < 3) && (!decide (d.take 1 = [48]) && d.all fun c => decide (c ∈ DIG))
/-- fill, align and what stands behind them -/
def bsplit (s : List Nat) : List Nat × List Nat × List Nat :=
  if isAl ((s.drop 1).take 1) = true then (s.take 1, (s.drop 1).take 1, s.drop 2)
  else if isAl (s.take 1) = true then ([32], s.take 1, s.drop 1) else ([32], [], s)
def bspec (s : List Nat) : Bool := !decide ((bsplit s).1 = [123]) && isW (bsplit s).2.2
/-- the name of the field that stands in braces, if it is one -/
def bfield (i : List Nat) : Option (List Nat) :=
  if leadN i = [] then none
  else if bway (i.drop (leadN i).length) = [] then some (leadN i)
  else if (bway (i.drop (leadN i).length)).take 1 ≠ [58] ∨ bway (i.drop (leadN i).length) = [58] then none
  else if bspec ((bway (i.drop (leadN i).length)).drop 1) = true then some (leadN i) else none
inductive Bp : List Nat → Option (List Pc) → Prop
  | nil : Bp [] (some [])
  | two {c : Nat} {r : List Nat} {o : Option (List Pc)} : (c = 123 ∨ c = 125) → Bp r o → Bp (c :: c :: r) (o.map (Pc.txt [c] :: ·))
  | opn {r : List Nat} : r.head? ≠ some 123 → (125 ∉ r ∨ bfield (inn r) = none) → Bp (123 :: r) none
  | fld {r n : List Nat} {o : Option (List Pc)} : r.head? ≠ some 123 → 125 ∈ r → bfield (inn r) = some n → Bp (aft r) o → Bp (123 :: r) (o.map (Pc.fld n :: ·))
  | cls {r : List Nat} : r.head? ≠ some 125 → Bp (125 :: r) none
  | chr {c : Nat} {r : List Nat} {o : Option (List Pc)} : c ≠ 123 → c ≠ 125 → Bp r o → Bp (c :: r) (o.map (Pc.txt [c] :: ·))
theorem aft_len (r : List Nat) : (aft r).length ≤ r.length := by
  unfold aft; rw [List.length_drop]; omega
/-- each format is read in one way or another -/
theorem Bp.total : ∀ (m : Nat) (l : List Nat), l.length ≤ m → ∃ o, Bp l o
  | _, [], _ => ⟨_, .nil⟩
  | 0, _ :: _, h => by simp at h
  | m + 1, c :: r, h => by
    have hr : r.length ≤ m := by simpa using h
    by_cases h1 : c = 123
    · subst h1
      by_cases h2 : r.head? = some 123
      · cases r with
        | nil => cases h2
        | cons d r =>
          obtain rfl : d = 123 := Option.some.inj h2
          obtain ⟨o, ho⟩ := Bp.total m r (by simp at hr; omega)
          exact ⟨_, .two (.inl rfl) ho⟩
      · by_cases h3 : 125 ∈ r
        · cases h4 : bfield (inn r) with
          | none => exact ⟨_, .opn h2 (.inr h4)⟩
          | some n =>
            obtain ⟨o, ho⟩ := Bp.total m (aft r) (Nat.le_trans (aft_len r) hr)
            exact ⟨_, .fld h2 h3 h4 ho⟩
        · exact ⟨_, .opn h2 (.inl h3)⟩
    · by_cases h2 : c = 125
      · subst h2
        by_cases h2 : r.head? = some 125
        · cases r with
          | nil => cases h2
          | cons d r =>
            obtain rfl : d = 125 := Option.some.inj h2
            obtain ⟨o, ho⟩ := Bp.total m r (by simp at hr; omega)
            exact ⟨_, .two (.inr rfl) ho⟩
        · exact ⟨_, .cls h2⟩
      · obtain ⟨o, ho⟩ := Bp.total m r hr
        exact ⟨_, .chr h1 h2 ho⟩
/-! braces come in pairs -/
def brc (l : List Nat) : Nat := l.count 123 + l.count 125
theorem brc_app (a b : List Nat) : brc (a ++ b) = brc a + brc b := by
  unfold brc; rw [List.count_append, List.count_append]; omega
theorem brc_none {l : List Nat} (h1 : 123 ∉ l) (h2 : 125 ∉ l) : brc l = 0 := by
  unfold brc; rw [List.count_eq_zero_of_not_mem h1, List.count_eq_zero_of_not_mem h2]
theorem brc_cons (c : Nat) (l : List Nat) : brc (c :: l) = brc [c] + brc l := brc_app [c] l
theorem mem_tw {p : Nat → Bool} {c : Nat} : ∀ {l : List Nat}, c ∈ l.takeWhile p → p c = true
  | [], h => nomatch h
  | d :: r, h => by
    cases hd : p d with
    | true =>
      rw [List.takeWhile_cons_of_pos hd] at h
      rcases List.mem_cons.mp h with rfl | h
      · exact hd
      · exact mem_tw h
    | false => rw [List.takeWhile_cons_of_neg (by rw [hd]; decide)] at h; exact nomatch h
theorem inn_no (r : List Nat) : 125 ∉ inn r := fun h => by
  have := mem_tw h
  simp at this
theorem inn_app {i z : List Nat} (h : 125 ∉ i) : inn (i ++ 125 :: z) = i := by
  unfold inn
  rw [List.takeWhile_append_of_pos (fun c hc => by simpa using fun e : c = 125 => h (e ▸ hc)), List.takeWhile_cons_of_neg (by simp), List.append_nil]
theorem inn_split : ∀ {r : List Nat}, 125 ∈ r → r = inn r ++ 125 :: aft r
  | [], h => nomatch h
  | c :: r, h => by
    by_cases hc : c = 125
    · subst hc
      rfl
    · have h2 : 125 ∈ r := by
        rcases List.mem_cons.mp h with e | e
        · exact absurd e.symm hc
        · exact e
      have ih := inn_split h2
      have e1 : inn (c :: r) = c :: inn r := by unfold inn; rw [List.takeWhile_cons_of_pos (by simpa using hc)]
      have e2 : aft (c :: r) = aft r := by unfold aft; rw [e1]; rfl
      rw [e1, e2, List.cons_append]
      exact congrArg (c :: ·) ih
theorem aft_app {i z : List Nat} (h : 125 ∉ i) : aft (i ++ 125 :: z) = z := by
  unfold aft
  rw [inn_app h]
  have e : i ++ 125 :: z = (i ++ [125]) ++ z := by simp
  rw [e, show i.length + 1 = (i ++ [125]).length by simp, List.drop_left]
theorem leadN_word : ∀ (i : List Nat), ∀ c ∈ leadN i, wordc c = true
  | [], c, h => nomatch h
  | d :: r, c, h => by
    have e : leadN (d :: r) = if d ∈ DIG then [] else (d :: r).takeWhile wordc := rfl
    rw [e] at h
    by_cases hd : d ∈ DIG
    · rw [if_pos hd] at h; cases h
    · rw [if_neg hd] at h
      exact mem_tw h
theorem leadN_pre (i : List Nat) : i = leadN i ++ i.drop (leadN i).length := by
  cases i with
  | nil => rfl
  | cons d r =>
    have e : leadN (d :: r) = if d ∈ DIG then [] else (d :: r).takeWhile wordc := rfl
    by_cases hd : d ∈ DIG
    · rw [e, if_pos hd]; rfl
    · rw [e, if_neg hd]
      obtain ⟨t, ht⟩ := List.takeWhile_prefix (l := d :: r) wordc
      have e2 : (d :: r).drop ((d :: r).takeWhile wordc).length = t := by
        have : (((d :: r).takeWhile wordc) ++ t).drop ((d :: r).takeWhile wordc).length = t := List.drop_left
        rw [ht] at this; exact this
      rw [e2, ht]
theorem dig_no {c : Nat} (h : c ∈ DIG) : c ≠ 123 ∧ c < 128 := by
  have : ∀ c ∈ DIG, c ≠ 123 ∧ c < 128 := by decide +kernel
  exact this c h
theorem isAl_no {l : List Nat} (h : isAl l = true) : 123 ∉ l := by
  unfold isAl at h
  simp only [Bool.or_eq_true, decide_eq_true_eq] at h
  rcases h with rfl | rfl | rfl <;> decide
theorem bspec_no {s : List Nat} (h : bspec s = true) : 123 ∉ s := by
  unfold bspec at h
  simp only [Bool.and_eq_true, Bool.not_eq_true', decide_eq_false_iff_not] at h
  obtain ⟨h1, h2⟩ := h
  have hd : 123 ∉ (bsplit s).2.2 := fun m => by
    unfold isW at h2
    simp only [Bool.and_eq_true, List.all_eq_true, decide_eq_true_eq] at h2
    exact (dig_no (h2.2.2 _ m)).1 rfl
  unfold bsplit at h1 hd
  by_cases a1 : isAl ((s.drop 1).take 1) = true
  · rw [if_pos a1] at h1 hd
    intro m
    have e : s = s.take 1 ++ ((s.drop 1).take 1 ++ s.drop 2) := by
      have : s.drop 2 = (s.drop 1).drop 1 := by rw [List.drop_drop]
      rw [this, List.take_append_drop, List.take_append_drop]
    rw [e] at m
    rcases List.mem_append.mp m with m | m
    · cases s with
      | nil => cases m
      | cons c r => exact h1 (by rw [show (c :: r).take 1 = [c] from rfl] at m ⊢; rw [List.mem_singleton.mp m])
    · rcases List.mem_append.mp m with m | m
      · exact isAl_no a1 m
      · exact hd m
  · rw [if_neg a1] at h1 hd
    by_cases a2 : isAl (s.take 1) = true
    · rw [if_pos a2] at hd
      intro m
      rw [← List.take_append_drop 1 s] at m
      rcases List.mem_append.mp m with m | m
      · exact isAl_no a2 m
      · exact hd m
    · rw [if_neg a2] at hd
      exact hd
theorem bway_no {r : List Nat} (h : 123 ∉ bway r) : 123 ∉ r := by
  unfold bway at h
  by_cases h1 : r.take 2 = [33, 114] ∨ r.take 2 = [33, 115]
  · rw [if_pos h1] at h
    intro m
    rw [← List.take_append_drop 2 r] at m
    rcases List.mem_append.mp m with m | m
    · rcases h1 with e | e <;> · rw [e] at m; revert m; decide
    · exact h m
  · rw [if_neg h1] at h
    exact h
theorem bfield_no {i n : List Nat} (h : bfield i = some n) : 123 ∉ i ∧ n = leadN i ∧ n ≠ [] := by
  unfold bfield at h
  by_cases h1 : leadN i = []
  · rw [if_pos h1] at h; cases h
  · rw [if_neg h1] at h
    have key : 123 ∉ bway (i.drop (leadN i).length) → 123 ∉ i := fun hb m => by
      rw [leadN_pre i] at m
      rcases List.mem_append.mp m with m | m
      · exact (word_ne (leadN_word i _ m)).2.1 rfl
      · exact bway_no hb m
    by_cases h2 : bway (i.drop (leadN i).length) = []
    · rw [if_pos h2] at h
      obtain rfl := Option.some.inj h
      exact ⟨key (by rw [h2]; exact fun z => nomatch z), rfl, h1⟩
    · rw [if_neg h2] at h
      by_cases h3 : (bway (i.drop (leadN i).length)).take 1 ≠ [58] ∨ bway (i.drop (leadN i).length) = [58]
      · rw [if_pos h3] at h; cases h
      · rw [if_neg h3] at h
        by_cases h4 : bspec ((bway (i.drop (leadN i).length)).drop 1) = true
        · rw [if_pos h4] at h
          obtain rfl := Option.some.inj h
          refine ⟨key fun m => ?_, rfl, h1⟩
          rw [← List.take_append_drop 1 (bway (i.drop (leadN i).length))] at m
          rcases List.mem_append.mp m with m | m
          · have e : (bway (i.drop (leadN i).length)).take 1 = [58] := Classical.byContradiction fun z => h3 (.inl z)
            rw [e] at m; revert m; decide
          · exact bspec_no h4 m
        · rw [if_neg h4] at h; cases h
theorem Bp.even {l : List Nat} {o : Option (List Pc)} (h : Bp l o) : ∀ ps, o = some ps → brc l % 2 = 0 := by
  induction h with
  | nil => intro ps _; rfl
  | @two c r o hc _ ih =>
    intro ps e
    cases o with
    | none => cases e
    | some x =>
      have := ih x rfl
      rw [brc_cons, brc_cons c r]
      rcases hc with rfl | rfl
      · have : brc [123] = 1 := rfl
        omega
      · have : brc [125] = 1 := rfl
        omega
  | opn _ _ => intro ps e; cases e
  | @fld r n o _ h2 h3 _ ih =>
    intro ps e
    cases o with
    | none => cases e
    | some x =>
      have q := ih x rfl
      rw [brc_cons, inn_split h2, brc_app, brc_cons 125, brc_none (bfield_no h3).1 (inn_no r)]
      have a : brc [123] = 1 := rfl
      have b : brc [125] = 1 := rfl
      omega
  | cls _ => intro ps e; cases e
  | @chr c r o h1 h2 _ ih =>
    intro ps e
    cases o with
    | none => cases e
    | some x =>
      have q := ih x rfl
      rw [brc_cons, brc_none (l := [c]) (by simpa using fun e => h1 e.symm) (by simpa using fun e => h2 e.symm)]
      omega
theorem odd_Bp {l : List Nat} (h : brc l % 2 = 1) : Bp l none := by
  obtain ⟨o, ho⟩ := Bp.total l.length l (Nat.le_refl _)
  cases o with
  | none => exact ho
  | some ps => have := ho.even ps rfl; omega
/-- what is written rightly, with the names of its fields -/
inductive WB : List Nat → List (List Nat) → Prop
  | nil : WB [] []
  | two {c : Nat} {r : List Nat} {ns : List (List Nat)} : (c = 123 ∨ c = 125) → WB r ns → WB (c :: c :: r) ns
  | chr {c : Nat} {r : List Nat} {ns : List (List Nat)} : c ≠ 123 → c ≠ 125 → WB r ns → WB (c :: r) ns
  | fld {i n r : List Nat} {ns : List (List Nat)} : 125 ∉ i → bfield i = some n → WB r ns → WB (123 :: (i ++ 125 :: r)) (n :: ns)
theorem bf_head {i n z : List Nat} (h : bfield i = some n) : (i ++ z).head? ≠ some 123 := by
  obtain ⟨h1, h2, h3⟩ := bfield_no h
  cases i with
  | nil => rw [h2] at h3; exact absurd rfl h3
  | cons c r => exact fun e => h1 (by rw [← Option.some.inj e]; exact List.mem_cons_self)
theorem WB.app {x : List Nat} {ns : List (List Nat)} (h : WB x ns) {r : List Nat} {o : Option (List Pc)} (d : Bp r o) : ∃ ps, Bp (x ++ r) (o.map (ps ++ ·)) ∧ nms ps = ns := by
  induction h with
  | nil => exact ⟨[], by simpa using d, rfl⟩
  | @two c r' ns hc _ ih =>
    obtain ⟨ps, q, e⟩ := ih
    refine ⟨.txt [c] :: ps, ?_, e⟩
    have := Bp.two hc q
    simpa [Option.map_map, Function.comp_def] using this
  | @chr c r' ns h1 h2 _ ih =>
    obtain ⟨ps, q, e⟩ := ih
    refine ⟨.txt [c] :: ps, ?_, e⟩
    have := Bp.chr h1 h2 q
    simpa [Option.map_map, Function.comp_def] using this
  | @fld i n r' ns h1 h2 _ ih =>
    obtain ⟨ps, q, e⟩ := ih
    refine ⟨.fld n :: ps, ?_, by show n :: nms ps = _; rw [e]⟩
    have z := Bp.fld (r := i ++ 125 :: (r' ++ r)) (n := n) (bf_head h2) (by simp) (by rw [inn_app h1]; exact h2) (by rw [aft_app h1]; exact q)
    simpa [Option.map_map, Function.comp_def] using z
theorem WB.join {x y : List Nat} {ns ms : List (List Nat)} (h : WB x ns) (k : WB y ms) : WB (x ++ y) (ns ++ ms) := by
  induction h with
  | nil => exact k
  | two hc _ ih => exact .two hc ih
  | chr h1 h2 _ ih => exact .chr h1 h2 ih
  | @fld i n r ns h1 h2 _ ih => simpa using WB.fld h1 h2 ih
theorem WB.ok {x : List Nat} {ns : List (List Nat)} (h : WB x ns) : ∃ ps, Bp x (some ps) ∧ nms ps = ns := by
  obtain ⟨ps, q, e⟩ := h.app .nil
  exact ⟨ps, by simpa using q, e⟩
theorem WB.even {x : List Nat} {ns : List (List Nat)} (h : WB x ns) : brc x % 2 = 0 := by
  obtain ⟨ps, q, _⟩ := h.ok
  exact q.even ps rfl
/-- a single brace put in anywhere -/
theorem WB.brace {x : List Nat} {ns : List (List Nat)} (h : WB x ns) {c : Nat} (hc : c = 123 ∨ c = 125) (k : Nat) : Bp (x.take k ++ ([c] ++ x.drop k)) none := by
  refine odd_Bp ?_
  have e := h.even
  rw [← List.take_append_drop k x, brc_app] at e
  rw [brc_app, brc_app]
  have : brc [c] = 1 := by rcases hc with rfl | rfl <;> rfl
  omega
/-- a part that is refused, whatever stands behind it -/
def Wrong (w : List Nat) : Prop := ∀ s, Bp (w ++ s) none
theorem wrong_of {i m : List Nat} (h0 : (i ++ [125]).head? ≠ some 123) (h1 : 125 ∉ i) (h2 : bfield i = none) : Wrong (123 :: (i ++ 125 :: m)) := fun s => by
  have e : (123 :: (i ++ 125 :: m) : List Nat) ++ s = 123 :: (i ++ 125 :: (m ++ s)) := by simp
  rw [e]
  refine .opn ?_ (.inr (by rw [inn_app h1]; exact h2))
  cases i with
  | nil => exact h0
  | cons c r => exact h0
theorem WB.wrong {x : List Nat} {ns : List (List Nat)} (h : WB x ns) {w s : List Nat} (k : Bp (w ++ s) none) : Bp (x ++ (w ++ s)) none := by
  obtain ⟨ps, q, _⟩ := h.app k
  exact q
theorem open_Bp {r : List Nat} (h0 : r.head? ≠ some 123) (h : 125 ∉ r) : Bp (123 :: r) none := .opn h0 (.inl h)
end My

namespace My
open PySem PySem.Spec PyProof.Rows L2
/-! ### the law's own parts -/
def WRG : List (List Nat) := [[123, 125], [123, 49, 97, 125], [123, 97, 32, 98, 125], [123, 32, 97, 125], [123, 97, 32, 125], [123, 97, 46, 98, 125], [123, 97, 91, 48, 93, 125], [123, 48, 125], [123, 45, 97, 125], [123, 97, 45, 125], [123, 97, 43, 49, 125], [123, 97, 44, 98, 125], [123, 97, 61, 125], [123, 97, 33, 125], [123, 97, 33, 120, 125], [123, 97, 33, 97, 125], [123, 97, 33, 82, 125], [123, 97, 33, 114, 114, 125], [123, 97, 33, 114, 32, 125], [123, 97, 33, 32, 114, 125], [123, 97, 33, 114, 62, 53, 125], [123, 33, 114, 125], [123, 97, 33, 114, 33, 115, 125], [123, 97, 58, 125], [123, 97, 33, 114, 58, 125], [123, 97, 58, 48, 125], [123, 97, 58, 48, 53, 125], [123, 97, 58, 60, 48, 53, 125], [123, 97, 58, 49, 48, 48, 125], [123, 97, 58, 60, 49, 48, 48, 125], [123, 97, 58, 120, 125], [123, 97, 58, 53, 120, 125], [123, 97, 58, 53, 115, 125], [123, 97, 58, 60, 53, 115, 125], [123, 97, 58, 61, 53, 125], [123, 97, 58, 43, 53, 125], [123, 97, 58, 46, 53, 125], [123, 97, 58, 53, 46, 50, 125], [123, 97, 58, 44, 125], [123, 97, 58, 120, 120, 60, 53, 125], [123, 97, 58, 60, 60, 60, 53, 125], [123, 97, 58, 32, 53, 125], [123, 97, 58, 53, 32, 125], [123, 58, 53, 125], [123, 97, 58, 45, 53, 125], [123, 97, 58, 60, 45, 53, 125], [123, 97, 58, 60, 94, 62, 53, 125], [123, 97, 58, 123, 60, 53, 125], [123, 97, 58, 125, 60, 53, 125], [123, 97, 58, 123, 119, 125, 125], [123, 97, 58, 58, 125], [123], [125], [123, 97, 33, 114, 58, 58, 53, 125]]
def ENDS : List (List Nat) := [[123, 97], [123, 97, 33, 114], [123, 97, 58], [123, 97, 58, 53], [123, 97, 33], [123], [123, 97, 58, 60], [123, 125]]
def SGS : List (List Nat) := [[], [], [114], [115]]
def ALS : List (List Nat) := [[], [], [60], [62], [94]]
def FILLS : List (List Nat) := [[42], [60], [62], [94], [58], [33], [48], [53], [36], [120], [10], [39]]
def WS : List Nat := [0, 0, 1, 5, 9, 10, 12, 30, 99]
def KEYS : List (List Nat) := [[97], [109, 101, 115, 115, 97, 103, 101], [95, 57]]
def wok : List Nat → Bool
  | 123 :: t => !decide ((inn t ++ [125]).head? = some 123) && (decide (125 ∈ t) && decide (bfield (inn t) = none))
  | _ => false
theorem wok_wrong {w : List Nat} (h : wok w = true) : Wrong w := by
  unfold wok at h
  split at h
  · rename_i t
    simp only [Bool.and_eq_true, Bool.not_eq_true', decide_eq_false_iff_not, decide_eq_true_eq] at h
    have e := inn_split h.2.1
    rw [e]
    exact wrong_of h.1 (inn_no t) h.2.2
  · cases h
def eok : List Nat → Bool
  | 123 :: t => !decide (t.head? = some 123) && (decide (125 ∉ t) || decide (bfield (inn t) = none))
  | _ => false
theorem eok_Bp {w : List Nat} (h : eok w = true) : Bp w none := by
  unfold eok at h
  split at h
  · rename_i t
    simp only [Bool.and_eq_true, Bool.or_eq_true, Bool.not_eq_true', decide_eq_false_iff_not, decide_eq_true_eq] at h
    exact .opn h.1 h.2
  · cases h
theorem wrg_all : ∀ w ∈ WRG, (w = [123] ∨ w = [125] ∨ wok w = true) ∧ w.length ≤ 12 ∧ ∀ c ∈ w, c < 128 := by decide +kernel
theorem ends_all : ∀ w ∈ ENDS, eok w = true ∧ w.length ≤ 12 ∧ ∀ c ∈ w, c < 128 := by decide +kernel
structure Fl where
  k : List Nat
  sg : List Nat
  fi : List Nat
  al : List Nat
  w : Nat
def spc (f : Fl) : List Nat := (if f.fi = [32] then [] else f.fi) ++ f.al ++ (if f.w > 0 then TL.numL f.w else [])
def inb (f : Fl) : List Nat := f.k ++ (if f.sg = [] then [] else 33 :: f.sg) ++ (if spc f = [] then [] else 58 :: spc f)
structure FlOk (f : Fl) : Prop where
  k : f.k ∈ KEYS
  sg : f.sg ∈ SGS
  al : f.al ∈ ALS
  fi : f.fi = [32] ∨ (f.al ≠ [] ∧ f.fi ∈ FILLS)
  w : f.w ∈ WS
def gd (f : Fl) : Bool := decide (bfield (inb f) = some f.k) && (decide (125 ∉ inb f) && ((inb f).all (fun c => decide (c < 128)) && (decide ((inb f).length ≤ 16))))
theorem fl_menu : (KEYS.all fun k => SGS.all fun sg => ALS.all fun al => ([32] :: (if al = [] then [] else FILLS)).all fun fi => WS.all fun w => gd ⟨k, sg, fi, al, w⟩) = true := by decide +kernel
theorem FlOk.gd {f : Fl} (h : FlOk f) : gd f = true := by
  have m := fl_menu
  simp only [List.all_eq_true] at m
  obtain ⟨k, sg, fi, al, w⟩ := f
  refine m k h.k sg h.sg al h.al fi ?_ w h.w
  rcases h.fi with e | ⟨e1, e2⟩
  · exact List.mem_cons.mpr (.inl e)
  · exact List.mem_cons.mpr (.inr (by rw [if_neg e1]; exact e2))
theorem FlOk.ok {f : Fl} (h : FlOk f) : bfield (inb f) = some f.k ∧ 125 ∉ inb f ∧ (∀ c ∈ inb f, c < 128) ∧ (inb f).length ≤ 16 := by
  have q := h.gd
  unfold My.gd at q
  simp only [Bool.and_eq_true, List.all_eq_true, decide_eq_true_eq] at q
  exact ⟨q.1, q.2.1, q.2.2.1, q.2.2.2⟩
def esc : List Nat → List Nat
  | [] => []
  | c :: r => if c = 123 ∨ c = 125 then c :: c :: esc r else c :: esc r
theorem esc_WB : ∀ l, WB (esc l) []
  | [] => .nil
  | c :: r => by
    show WB (if c = 123 ∨ c = 125 then c :: c :: esc r else c :: esc r) []
    by_cases h : c = 123 ∨ c = 125
    · rw [if_pos h]; exact .two h (esc_WB r)
    · rw [if_neg h]; exact .chr (fun e => h (.inl e)) (fun e => h (.inr e)) (esc_WB r)
theorem esc_len : ∀ l, (esc l).length ≤ 2 * l.length
  | [] => Nat.le_refl _
  | c :: r => by
    have := esc_len r
    show (if c = 123 ∨ c = 125 then c :: c :: esc r else c :: esc r).length ≤ _
    by_cases h : c = 123 ∨ c = 125
    · rw [if_pos h]; simp only [List.length_cons]; omega
    · rw [if_neg h]; simp only [List.length_cons]; omega
theorem esc_lo : ∀ l, (∀ c ∈ l, c < 128) → ∀ c ∈ esc l, c < 128
  | [], _ => fun _ h => nomatch h
  | d :: r, hl => fun c h => by
    have ih := esc_lo r (fun c hc => hl c (List.mem_cons_of_mem _ hc))
    have hd := hl d List.mem_cons_self
    have h' : c ∈ (if d = 123 ∨ d = 125 then d :: d :: esc r else d :: esc r) := h
    by_cases z : d = 123 ∨ d = 125
    · rw [if_pos z] at h'
      rcases List.mem_cons.mp h' with rfl | h'
      · exact hd
      · rcases List.mem_cons.mp h' with rfl | h'
        · exact hd
        · exact ih c h'
    · rw [if_neg z] at h'
      rcases List.mem_cons.mp h' with rfl | h'
      · exact hd
      · exact ih c h'
inductive Pb where
  | txt (l : List Nat)
  | fld (f : Fl)
def bt : Pb → List Nat
  | .txt l => esc l
  | .fld f => 123 :: (inb f ++ [125])
def PbOk : Pb → Prop
  | .txt l => l.length ≤ 4 ∧ ∀ c ∈ l, c < 128
  | .fld f => FlOk f
/-- a piece of a right format -/
structure Rt (x : List Nat) : Prop where
  wb : ∃ ns, WB x ns
  lo : ∀ c ∈ x, c < 128
  ln : x.length ≤ 20
theorem bt_Rt {p : Pb} (h : PbOk p) : Rt (bt p) := by
  cases p with
  | txt l => exact ⟨⟨_, esc_WB l⟩, esc_lo l h.2, Nat.le_trans (esc_len l) (by have := h.1; omega)⟩
  | fld f =>
    obtain ⟨h1, h2, h3, h4⟩ := FlOk.ok h
    refine ⟨⟨_, .fld h2 h1 .nil⟩, ?_, ?_⟩
    · intro c hc
      rcases List.mem_cons.mp hc with rfl | hc
      · decide
      · rcases List.mem_append.mp hc with hc | hc
        · exact h3 c hc
        · rw [List.mem_singleton.mp hc]; decide
    · show (123 :: (inb f ++ [125])).length ≤ 20
      simp only [List.length_cons, List.length_append, List.length_nil]; omega
theorem fl_a : FlOk ⟨[97], [], [32], [], 0⟩ := ⟨by decide, by decide, by decide, .inl rfl, by decide⟩
def LA : List Nat := [123, 97, 125]
theorem la_WB : WB LA [[97]] := WB.fld (i := [97]) (by decide) (by decide +kernel) .nil
theorem flat_WB : ∀ {xs : List (List Nat)}, (∀ x ∈ xs, Rt x) → ∃ ns, WB xs.flatten ns
  | [], _ => ⟨[], .nil⟩
  | x :: r, h => by
    obtain ⟨ns, q⟩ := flat_WB (xs := r) fun y hy => h y (List.mem_cons_of_mem _ hy)
    obtain ⟨ms, k⟩ := (h x List.mem_cons_self).wb
    exact ⟨ms ++ ns, k.join q⟩
theorem flat_lo : ∀ {xs : List (List Nat)}, (∀ x ∈ xs, Rt x) → ∀ c ∈ xs.flatten, c < 128
  | [], _ => fun _ h => nomatch h
  | x :: r, h => fun c hc => by
    rcases List.mem_append.mp (show c ∈ x ++ r.flatten from hc) with hc | hc
    · exact (h x List.mem_cons_self).lo c hc
    · exact flat_lo (xs := r) (fun y hy => h y (List.mem_cons_of_mem _ hy)) c hc
theorem flat_ln : ∀ {xs : List (List Nat)}, (∀ x ∈ xs, Rt x) → xs.flatten.length ≤ 20 * xs.length
  | [], _ => Nat.zero_le _
  | x :: r, h => by
    have h1 := (h x List.mem_cons_self).ln
    have h2 := flat_ln (xs := r) fun y hy => h y (List.mem_cons_of_mem _ hy)
    show (x ++ r.flatten).length ≤ 20 * (r.length + 1)
    rw [List.length_append]; omega
theorem right_WB {xs : List (List Nat)} (h : ∀ x ∈ xs, Rt x) : ∃ ns, WB (xs ++ [LA]).flatten ns ∧ ns ≠ [] := by
  obtain ⟨ns, q⟩ := flat_WB h
  refine ⟨ns ++ [[97]], ?_, by simp⟩
  have e : (xs ++ [LA]).flatten = xs.flatten ++ LA := by simp
  rw [e]
  exact q.join la_WB
/-- a wrong part put between -/
theorem mid_Bp {xs : List (List Nat)} (h : ∀ x ∈ xs, Rt x) {w : List Nat} (hw : w ∈ WRG) (j : Nat) : Bp ((xs.take j).flatten ++ (w ++ (xs.drop j).flatten)) none := by
  obtain ⟨ns, q⟩ := flat_WB (xs := xs.take j) fun x hx => h x (List.mem_of_mem_take hx)
  obtain ⟨ms, k⟩ := flat_WB (xs := xs.drop j) fun x hx => h x (List.mem_of_mem_drop hx)
  have ev := q.even
  have ev2 := k.even
  rcases (wrg_all w hw).1 with rfl | rfl | z
  · refine odd_Bp ?_
    rw [brc_app, brc_app]
    have : brc [123] = 1 := rfl
    omega
  · refine odd_Bp ?_
    rw [brc_app, brc_app]
    have : brc [125] = 1 := rfl
    omega
  · exact q.wrong (wok_wrong z _)
theorem end_Bp {x : List Nat} {ns : List (List Nat)} (h : WB x ns) {w : List Nat} (hw : w ∈ ENDS) : Bp (x ++ w) none := by
  have := h.wrong (w := w) (s := []) (by rw [List.append_nil]; exact eok_Bp (ends_all w hw).1)
  simpa using this
theorem joinL_flat : ∀ xs : List (List Nat), TL.joinL [] xs = xs.flatten
  | [] => rfl
  | [c] => by simp [TL.joinL]
  | c :: d :: r => by
    show c ++ ([] ++ TL.joinL [] (d :: r)) = _
    rw [joinL_flat (d :: r)]; rfl
end My

namespace GY
open PySem PySem.Spec PyProof.Rows L2 GxR
/-! ### all(.. for x in a text) where the element reads the module's names -/
def EltG (P : Program) (w : World) (mg : Str → Option Value) (sc : Scope) (x : Str) (e : Expr) (ok : Nat → Bool) : Prop :=
  ∀ (v : Env) (A : Around) (Ex : Value → Shared → Prop) (c : Nat) (u : Tok) (z : Shared) (m : Str → Option Value),
    v.scope = sc → v.globals = mainGlobals → z.heap.Ns mainGlobals mg → z.heap.Ns v.locals m → m x = some (.str ⟨#[c]⟩ u) →
    wpAny (model P w) A (eval e v) (fun y z' => y = .bool (ok c) ∧ Keeps z z') Ex z
theorem elt_inG {P : Program} {w : World} {mg : Str → Option Value} {sc : Scope} {x g : Str} {l : List Nat} {p1 p2 p3 : Pos} (hk : sc.kind = .function) (hl : sc.names.lookup x = some .local)
    (hg : sc.names.lookup g = some .globalImplicit) (hm : ∃ u, mg g = some u ∧ RelV (.str (SX.S l)) u)
    (d1 : (x == ("__debug__" : Str)) = false := by decide) (d2 : (g == ("__debug__" : Str)) = false := by decide) :
    EltG P w mg sc x (.Compare (.Name x p1) [.In] [.Name g p2] p3) (fun c => decide (c ∈ l)) := by
  intro v A Ex c u z m hs hG hN hL hx
  obtain ⟨gv, e1, t, e2⟩ := hm
  subst e2
  refine wpAny_Compare1 ?_
  refine wpAny_Name (wpAny_loadName_local (by rw [hs]; exact hk) (show v.scope.names.lookup x = some .local by rw [hs]; exact hl) hL hx ?_) d1
  refine Calls.Name_function_global (by rw [hs]; exact hk) (show v.scope.names.lookup g = some .globalImplicit by rw [hs]; exact hg) (Calls.loadGlobal_global (by rw [hG]; exact hN) e1 ?_) d2
  refine PySem.P.in_str ⟨?_, keeps_tok _ _⟩
  have e3 : (⟨#[c]⟩ : Str) = SX.S [c] := rfl
  rw [e3, SX.in_one]
theorem genS_by {v : Env} {sc : Scope} {x : Str} (h1 : sc.kind = .function) (h2 : sc.isCoroutine = false) (h3 : sc.names.lookup (".0" : Str) = some NameKind.local) (h4 : sc.names.lookup x = some .local)
    (h5 : (sc.names.all fun y => decide (y.2 ≠ .cell) && decide (y.2 ≠ .free)) = true) : GenS v sc x := by
  have q : ∀ y ∈ sc.names, y.2 ≠ .cell ∧ y.2 ≠ .free := fun y hy => by
    have := List.all_eq_true.mp h5 y hy
    rw [Bool.and_eq_true, decide_eq_true_eq, decide_eq_true_eq] at this
    exact this
  exact ⟨h1, h2, fun y hy => (q y hy).1, h3, h4, fun y hy e => absurd e (q y hy).2⟩
section
variable {X : Cx} {pl : List (Addr × Obj)} {st : L2.St} {hp : Hp} {z : Shared}
theorem gen_strG {c P : Addr} {e it : Expr} {x : Str} {p1 gp : Pos} {sc : Scope} {ok : Nat → Bool} {te : TE} {k : Nat} {Q' : Value → Shared → Prop} {R : Str → Hp → Prop}
    (room : Room k X.A) (tb : TabB X.base X.mg c P) (cd : X.env.code = .ref c) (gs : GenS X.env sc x) (hi : PE X it te) (el : EltG X.prog X.w X.mg sc x e ok)
    (fold : ∀ v, genFold it X.env v = pure v) (inv : Inv X pl st hp z) (h : te st hp fun v h1 => ∃ a : Str, v = .str a ∧ TabG h1 P ∧ R a h1)
    (hq : ∀ a h1 g z5, R a h1 → Ready X pl st h1 P a ok g z5 → Q' (.ref g) z5) :
    wpAny (model X.prog X.w) X.A (eval (.GeneratorExp e [⟨.Name x p1, it, [], 0⟩] sc gp) X.env) Q' X.xe z := by
  have glob : X.env.globals = mainGlobals := inv.ok.glob
  refine wpAny_GeneratorExp_walksQ room.hd gs.co (closure_ok gs.free) gs.cell gs.dot gs.loc gs.kind (by have := room.dp; omega) ?_ fold
  refine thn (hi.run pl z st hp _ inv h) fun y z1 ⟨v, h1, j1, r1, q1⟩ => ?_
  obtain ⟨a, rfl, ⟨tab, hT, tri⟩, q1⟩ := q1
  obtain ⟨tk, rfl⟩ := _root_.id r1
  refine wpAny_pyIter_str fun obj Stt walk start => ?_
  have tabAt : z1.heap.get? P = some { cls := .none, data := .fields tab } := j1.hok P _ hT
  have tabLt : P < z1.heap.objs.size := Heap.lt_size tabAt
  have tabAt2 : (z1.heap.push obj).get? P = some { cls := .none, data := .fields tab } := Heap.get?_push_of_some _ tabAt
  have code2 : PySem.W.CodeHd (z1.heap.push obj) c P := tb.code.keeps fun b u q => Heap.get?_push_of_some _ (j1.bk b u q)
  have free2 : (z1.heap.push obj).NoLimit := j1.nolimit.push obj
  have nsG : z1.heap.Ns mainGlobals X.mg := j1.mod.glob.keeps j1.bk
  have rest : ∀ (cv : Value) (h3 : Heap) (t3 : Nat) (tab' : Array Value), Heap.ExtBut P (z1.heap.push obj) h3 → (z1.heap.push obj).objs.size ≤ h3.objs.size → h3.get? P = some { cls := .none, data := .fields tab' } →
      (∃ more, tab' = tab ++ more) → TriplesOk tab'.toList →
      wpAny (model X.prog X.w) X.A (builtinsFor X.env.globals X.env.builtins) (fun bi z4 =>
        ∃ Ia fp wr n0 Pf St0 pz F, Value.ref z1.heap.objs.size = .ref Ia ∧ (∀ A2 : Around, A2.handled = none → Walks X.prog X.w A2 Ia fp wr n0 Pf St0) ∧ St0 0 z4.heap ∧
          (∀ b ∈ fp, b < z4.heap.objs.size) ∧ z4.heap.NoLimit ∧ cStatics ∉ wr ∧
          (∀ hr : Heap, (∀ b o, z4.heap.get? b = some o → hr.get? b = some o) →
            QuietGen X.prog X.w (genEnv sc (cloFrom X.env.cells sc.names []) z4.heap.objs.size cv bi X.env) x [] e (List.range z4.heap.objs.size) wr Pf pz F hr) ∧
          (∀ g h5 t5 gst, gst.bare = true → z4.heap.objs.size < g → h5.objs.size = g + 1 → (∀ b o, z4.heap.get? b = some o → h5.get? b = some o) →
            WalksS X.prog X.w X.A.in4 g (g :: z4.heap.objs.size :: List.range z4.heap.objs.size) (z4.heap.objs.size :: wr) (GenOnlyQ z4.gens.size) (passing pz n0 0).length
              (fun j y => ∃ i, (passing pz n0 0)[j]? = some i ∧ F i y) (GenAt X.prog X.w X.A.in4 g z4.gens.size z4.heap.objs.size (List.range z4.heap.objs.size) wr pz n0 F) →
            GenAt X.prog X.w X.A.in4 g z4.gens.size z4.heap.objs.size (List.range z4.heap.objs.size) wr pz n0 F 0 { z4 with gens := z4.gens.push gst, toks := t5, heap := h5 } →
            Q' (.ref g) { z4 with gens := z4.gens.push gst, toks := t5, heap := h5 })) X.xe { z1 with heap := h3, toks := t3 } := by
    intro cv h3 t3 tab' ext big tabAt3 grow tri3
    obtain ⟨bm, ob, b1, b2, b3, b4, b5, b6, b7, b8⟩ := tb.bm
    have sP : cStatics ≠ P := fun q => by
      obtain ⟨_, ns, _⟩ := j1.nolimit
      obtain ⟨o2, es, ep, e5, e6, _⟩ := ns
      rw [q, tabAt] at e5
      cases e5
      cases e6
    have sLt : cStatics < z1.heap.objs.size := let ⟨_, ns, _⟩ := j1.nolimit; ns.lt
    have size2 : (z1.heap.push obj).objs.size = z1.heap.objs.size + 1 := Heap.size_push ..
    have stay : ∀ b u, b ≠ P → z1.heap.get? b = some u → h3.get? b = some u := fun b u hb q => ext b u hb (Heap.get?_push_of_some _ q)
    have nsG3 : h3.Ns mainGlobals X.mg := (nsG.push obj).extBut ext tb.gP
    refine wpAny_builtinsFor (m := X.mg) (by rw [glob]; exact nsG3) b1 b2 (stay _ _ b4 (j1.bk _ _ b5)) b6 b7 b8 ?_
    refine ⟨z1.heap.objs.size, [z1.heap.objs.size], [z1.heap.objs.size], a.cps.size, SignAt a, Stt, (fun _ => true), (fun i y => ∃ cc, a.cps[i]? = some cc ∧ y = .bool (ok cc)), rfl, walk, ?_, ?_, free2.extBut ext sP, ?_, ?_, ?_⟩
    · refine (walk X.A room.hd).frame _ _ _ start fun b hb u q => ext b u (fun n => ?_) q
      rcases List.mem_cons.mp hb with n2 | n2
      · exact Nat.ne_of_lt tabLt (n.symm.trans n2)
      · cases n2
    · intro b hb
      rcases List.mem_cons.mp hb with n | n
      · rw [n]
        show z1.heap.objs.size < h3.objs.size
        omega
      · cases n
    · intro n
      rcases List.mem_cons.mp n with n | n
      · exact Nat.ne_of_lt sLt n
      · cases n
    · intro hr keep
      refine ⟨fun A2 E2 i v z2 m2 _ _ _ _ _ => ?_, fun A2 E2 i v z2 m2 _ pv _ ns mx kept => ?_⟩
      · simp only [List.forIn_nil]
        exact wpAny_pure ⟨rfl, keeps_refl _⟩
      · obtain ⟨cc, u, at_, rfl⟩ := pv
        have gk : z2.heap.Ns mainGlobals X.mg := by
          obtain ⟨og, es, ep, g1, g2, g3⟩ := nsG3
          have gz1 : mainGlobals < z1.heap.objs.size := let ⟨_, _, _, q, _⟩ := nsG; Heap.lt_size q
          refine ⟨og, es, ep, kept mainGlobals (List.mem_range.mpr (Heap.lt_size g1)) (fun n => ?_) _ (keep _ _ g1), g2, g3⟩
          rcases List.mem_cons.mp n with n | n
          · exact Nat.ne_of_lt gz1 n
          · cases n
        exact wpAny_mono (el _ A2 E2 cc u z2 m2 rfl glob gk ns mx) (fun y z3 r => ⟨⟨cc, at_, r.1⟩, r.2⟩) fun _ _ q => q
    · intro g h5 t5 gst bare big5 size5 keep5 walk5 gat
      simp only [GxR.passing_true, List.length_range] at walk5
      refine hq a h1 g _ q1 ⟨_, _, _, _, _, walk5.in4_1, gat, ?_, fun z' mv => ?_⟩
      · intro j y zj Qj Ej hy hQ
        obtain ⟨i, hi2, cc, hcc, rfl⟩ := hy
        obtain ⟨jl, ej⟩ := List.getElem?_eq_some_iff.mp hi2
        rw [List.getElem_range] at ej
        subst ej
        have at2 : a.cps.toList[j]? = some cc := by rw [Array.getElem?_toList]; exact hcc
        have hQ2 : Qj (trF ok a.cps.toList j) zj := hQ
        rw [trF_some at2] at hQ2
        exact wpAny_truthy_bool hQ2
      · obtain ⟨more, em⟩ := grow
        have low : ∀ b u, z1.heap.get? b = some u → b ∉ h3.objs.size :: [z1.heap.objs.size] := fun b u q hb => by
          have l0 := Heap.lt_size q
          rcases List.mem_cons.mp hb with n | n
          · rw [n] at l0
            have l9 : (h3.objs.size : Nat) < z1.heap.objs.size := l0
            omega
          · rcases List.mem_cons.mp n with n | n
            · rw [n] at l0
              exact Nat.lt_irrefl _ l0
            · cases n
        have J := inv_tab (more := more) (h' := z'.heap) (g' := z'.gens) (d' := z'.drawn) (t' := z'.toks) j1 hT
          (fun b u hb q => mv.heap b u (low b u q) (keep5 b u (stay b u hb q)))
          (by rw [← em]; exact mv.heap P _ (low P _ tabAt) (keep5 P _ tabAt3)) (AllBare.movedS (j1.bare.push bare) mv)
        rw [sh_eta z1 z' mv.os] at J
        refine ⟨upd h1 P (.tbl (tab ++ more)), ⟨⟨tab ++ more, upd_same, by rw [← em]; exact tri3⟩, fun b hb => upd_ne hb⟩, J⟩
  refine ⟨free2, ?_⟩
  cases among : codeAmong gp tab.toList with
  | none =>
    refine wpAny_genexprCodeX cd (code2.code tabAt2 tri) (code2.tab tabAt2) among fun c2 h2 t2 ext ge lt isC _ tabE _ => ?_
    obtain ⟨o1, vs, f1, tf, fl, tg, inF, tx, tt, op, _, _, _, _, _, _, _, _, _, tr2, _⟩ := isC
    exact rest _ h2 t2 _ ext (Nat.le_trans ge (Nat.le_of_lt lt)) tabE.2 ⟨_, rfl⟩ tr2
  | some cv =>
    refine wpAny_genexprCode_hit cd (code2.code tabAt2 tri) among ?_
    exact rest cv (z1.heap.push obj) z1.toks tab (Heap.ExtBut.refl _ _) (Nat.le_refl _) tabAt2 ⟨#[], by simp⟩ tri
theorem pe_allG {c P : Addr} {e it : Expr} {x : Str} {p1 p pos gp : Pos} {sc : Scope} {ok : Nat → Bool} {te : TE} {k : Nat}
    (room : Room k X.A) (hg : Gl X "all") (hm : X.mg "all" = none) (hb : bootBuiltins "all" = some (.builtin "all")) (tb : TabB X.base X.mg c P) (cd : X.env.code = .ref c) (gs : GenS X.env sc x) (hi : PE X it te) (el : EltG X.prog X.w X.mg sc x e ok)
    (fold : ∀ v, genFold it X.env v = pure v)
    (se : starEach [.GeneratorExp e [⟨.Name x p1, it, [], 0⟩] sc gp] X.env = (false, eval (.GeneratorExp e [⟨.Name x p1, it, [], 0⟩] sc gp) X.env) :: starEach [] X.env := by rfl) :
    PE X (.Call (.Name "all" p) [.GeneratorExp e [⟨.Name x p1, it, [], 0⟩] sc gp] [] pos) (tAllS P ok te) := by
  refine ⟨fun pl z st hp Q inv yes => ?_⟩
  refine wpAny_Call_Name_kw (ld_blt inv hg hm hb ?_)
  refine PyProof.Rows.callWith_builtin1 ?_ se (by rfl)
  rw [se]
  show wpAny _ _ (spliced ((false, eval (.GeneratorExp e [⟨.Name x p1, it, [], 0⟩] sc gp) X.env) :: backTo pos (starEach [] X.env))) _ _ z
  refine Calls.spliced_cons (gen_strG (R := fun a h1 => ∀ h2, Tabbed P h1 h2 → Q (.bl (a.cps.toList.all ok)) h2) room tb cd gs hi el fold inv yes fun a h1 g z5 hR ready => ?_)
  obtain ⟨fp, wr, G, F, Stt, W, start, truth, back⟩ := ready
  refine Calls.spliced_nil ?_
  refine call_all_walkS (W.self 0 _ _ _ start ⟨g, fp, wr, G, _, F, Stt, _, rfl, W, start, truth, fun z' mv => ?_⟩)
  obtain ⟨h2, tabbed, J⟩ := back z' mv
  refine ⟨.bl _, h2, J, rfl, ?_⟩
  rw [all_signs a ok]
  exact hR h2 tabbed
end
end GY

namespace NX
open PySem PySem.Spec PyProof.Rows L2
/-! ### an object of any kind beside a text -/
section
variable {M : Model} {A : Around} {E : Value → Shared → Prop} {s : Shared}
theorem dict_ne_text (l : Addr) (es : Array DictEntry) (n : Nat) (dd : Option Addr) (sl : Array (Option Value)) (b : Str) (u : Tok) :
    Meets (Builtin.«dict.__ne__» ⟨[.ref l, .str b u], []⟩) (fun _ R z => z.heap.get? l = some { cls := .type "dict", dict := dd, data := .dict es n, slots := sl } ∧ R (.ok (.ret .notImplemented)) z) :=
  .of_wp fun prog w A R z h => by
    obtain ⟨hp, g, d, tk, os⟩ := z
    obtain ⟨hl, h⟩ := h
    have f1 := F.sub_str_dict
    wp_walk using wpAny_loadPart' hl
    exact ⟨_, rfl, h⟩
theorem text_ne_dict (b : Str) (u : Tok) (l : Addr) (c : Value) (es : Array DictEntry) (n : Nat) (dd : Option Addr) (sl : Array (Option Value)) :
    Meets (Builtin.«str.__ne__» ⟨[.str b u, .ref l], []⟩) (fun _ R z => z.heap.get? l = some { cls := c, dict := dd, data := .dict es n, slots := sl } ∧ R (.ok (.ret .notImplemented)) z) :=
  .of_wp fun prog w A R z h => by
    obtain ⟨hp, g, d, tk, os⟩ := z
    obtain ⟨hl, h⟩ := h
    wp_walk using wpAny_loadPart' hl, wpAny_load hl
    exact ⟨_, rfl, h⟩
end
theorem dict_text {P : Program} {w : World} {A : Around} {E : Value → Shared → Prop} {s : Shared} {l : Addr} {o : Obj} {es : Array DictEntry} {n : Nat} {b : Str} {u : Tok} {Q : Value → Shared → Prop} (ho : s.heap.get? l = some o) (hc : o.cls = .type "dict") (hd : o.data = .dict es n)
    (hu : A.units < cLine) (h : Q (.bool true) s) : wpAny (model P w) A (compareOp .NotEq (.ref l) (.str b u)) Q E s := by
  obtain ⟨cls, dd, data, sl⟩ := o
  simp only at hc hd
  subst hc hd
  show wpAny _ A (richCompare .NotEq _ _) Q E s
  exact PySem.SeqAt.rc_ne_decline_or (k := false) ⟨_, ho, rfl⟩ (typeIs_str s b u) (by decide) F.sub_str_dict F.slot_dict_ne F.slot_str_ne_refl
    (fun _ hq => call_meets F.slot_dict_ne ⟨_, ho, rfl⟩ F.entry_dict_ne (F.args_dict_ne_2 _ _) (dict_ne_text l es n dd sl b u) ⟨ho, hq⟩)
    (fun _ hq => call_meets F.slot_str_ne_refl (typeIs_str s b u) F.entry_str_ne (F.args_str_ne_2 _ _) (text_ne_dict b u l (.type "dict") es n dd sl) ⟨ho, hq⟩)
    (fun _ hq => wpAny_of_eq (rfl : isSame (.ref l) (.str b u) = pure false) hq) (.inr hu) h
def rNeX : R2 := fun x y H Q => rNe x y H Q ∨ ∃ a z, x = .ref a ∧ y = .str z ∧ ((∃ xs, H a = some (.lst xs)) ∨ (∃ xs, H a = some (.tup xs)) ∨ ∃ kvs, H a = some (.dK kvs)) ∧ Q (.bl true) H
theorem op_neX {X : Cx} (hu : X.A.units < cLine) : OpR X (compareOp .NotEq) rNeX := by
  intro pins s σ H x y v u Q I rx ry h
  rcases h with h | ⟨a, z, rfl, rfl, h, q⟩
  · exact op_ne pins s σ H x y v u Q I rx ry h
  · obtain rfl : v = Value.ref a := rx
    obtain ⟨t, rfl⟩ := ry
    rcases h with ⟨xs, h⟩ | ⟨xs, h⟩ | ⟨kvs, h⟩
    · obtain ⟨its, rv, hl, hz⟩ := I.list (SqL.of h)
      exact SeqAt.RcNeAt.list_str z t hl.isList hu _ _ _ _ ⟨.bl true, H, I, rfl, q⟩
    · obtain ⟨its, rv, hl, hz⟩ := I.tuple (SqT.of h)
      exact SeqAt.RcNeAt.tuple_str z t hl hu _ _ _ _ ⟨.bl true, H, I, rfl, q⟩
    · obtain ⟨mm, ya, va, ra, da⟩ := (show ObjOk X.prog X.w H s.heap a (.dK kvs) from I.hok a _ h)
      obtain ⟨od, es, ep, ho, hc, hd⟩ := da
      exact dict_text ho hc.1 hd.1 hu ⟨.bl true, H, I, rfl, q⟩
end NX

namespace NX
open PySem PySem.Spec PyProof.Rows L2
/-! ### .. asked whether it is the text -/
section
variable {M : Model} {A : Around} {E : Value → Shared → Prop} {s : Shared}
theorem dict_eq_text (l : Addr) (es : Array DictEntry) (n : Nat) (dd : Option Addr) (sl : Array (Option Value)) (b : Str) (u : Tok) :
    Meets (Builtin.«dict.__eq__» ⟨[.ref l, .str b u], []⟩) (fun _ R z => z.heap.get? l = some { cls := .type "dict", dict := dd, data := .dict es n, slots := sl } ∧ R (.ok (.ret .notImplemented)) z) :=
  .of_wp fun prog w A R z h => by
    obtain ⟨hp, g, d, tk, os⟩ := z
    obtain ⟨hl, h⟩ := h
    have f1 := F.sub_str_dict
    wp_walk using wpAny_loadPart' hl
    exact ⟨_, rfl, h⟩
theorem text_eq_dict (b : Str) (u : Tok) (l : Addr) (c : Value) (es : Array DictEntry) (n : Nat) (dd : Option Addr) (sl : Array (Option Value)) :
    Meets (Builtin.«str.__eq__» ⟨[.str b u, .ref l], []⟩) (fun _ R z => z.heap.get? l = some { cls := c, dict := dd, data := .dict es n, slots := sl } ∧ R (.ok (.ret .notImplemented)) z) :=
  .of_wp fun prog w A R z h => by
    obtain ⟨hp, g, d, tk, os⟩ := z
    obtain ⟨hl, h⟩ := h
    wp_walk using wpAny_loadPart' hl, wpAny_load hl
    exact ⟨_, rfl, h⟩
end
theorem dict_textE {P : Program} {w : World} {A : Around} {E : Value → Shared → Prop} {s : Shared} {l : Addr} {o : Obj} {es : Array DictEntry} {n : Nat} {b : Str} {u : Tok} {Q : Value → Shared → Prop} (ho : s.heap.get? l = some o) (hc : o.cls = .type "dict") (hd : o.data = .dict es n)
    (hu : A.units < cLine) (h : Q (.bool false) s) : wpAny (model P w) A (compareOp .Eq (.ref l) (.str b u)) Q E s := by
  obtain ⟨cls, dd, data, sl⟩ := o
  simp only at hc hd
  subst hc hd
  show wpAny _ A (richCompare .Eq _ _) Q E s
  exact PySem.SeqAt.rc_eq_decline_or (k := false) ⟨_, ho, rfl⟩ (typeIs_str s b u) (by decide) F.sub_str_dict F.slot_dict_eq F.slot_str_eq_refl
    (fun _ hq => call_meets F.slot_dict_eq ⟨_, ho, rfl⟩ F.entry_dict_eq (F.args_dict_eq_2 _ _) (dict_eq_text l es n dd sl b u) ⟨ho, hq⟩)
    (fun _ hq => call_meets F.slot_str_eq_refl (typeIs_str s b u) F.entry_str_eq (F.args_str_eq_2 _ _) (text_eq_dict b u l (.type "dict") es n dd sl) ⟨ho, hq⟩)
    (fun _ hq => wpAny_of_eq (rfl : isSame (.ref l) (.str b u) = pure false) hq) (.inr hu) h
def rEqX : R2 := fun x y H Q => rEq x y H Q ∨ ∃ a z, x = .ref a ∧ y = .str z ∧ ((∃ xs, H a = some (.lst xs)) ∨ (∃ xs, H a = some (.tup xs)) ∨ ∃ kvs, H a = some (.dK kvs)) ∧ Q (.bl false) H
theorem op_eqX {X : Cx} (hu : X.A.units < cLine) : OpR X (compareOp .Eq) rEqX := by
  intro pins s σ H x y v u Q I rx ry h
  rcases h with h | ⟨a, z, rfl, rfl, h, q⟩
  · exact op_eq pins s σ H x y v u Q I rx ry h
  · obtain rfl : v = Value.ref a := rx
    obtain ⟨t, rfl⟩ := ry
    rcases h with ⟨xs, h⟩ | ⟨xs, h⟩ | ⟨kvs, h⟩
    · obtain ⟨its, rv, hl, hz⟩ := I.list (SqL.of h)
      exact SeqAt.RcAt.list_str z t hl.isList hu _ _ _ _ ⟨.bl false, H, I, rfl, q⟩
    · obtain ⟨its, rv, hl, hz⟩ := I.tuple (SqT.of h)
      exact SeqAt.RcAt.tuple_str z t hl hu _ _ _ _ ⟨.bl false, H, I, rfl, q⟩
    · obtain ⟨mm, ya, va, ra, da⟩ := (show ObjOk X.prog X.w H s.heap a (.dK kvs) from I.hok a _ h)
      obtain ⟨od, es, ep, ho, hc, hd⟩ := da
      exact dict_textE ho hc.1 hd.1 hu ⟨.bl false, H, I, rfl, q⟩
end NX

namespace SL
open PySem PySem.Spec PyProof.Rows L2 SX
variable {X : Cx}
theorem sw_eq (a b : List Nat) : Txt.startswith (S a) (S b) = decide (a.take b.length = b) := by
  unfold Txt.startswith
  rw [StrLaws.subAt_eq]
  show (decide (0 + b.length ≤ a.length) && ((a.drop 0).take b.length == b)) = _
  rw [List.drop_zero, Bool.eq_iff_iff]
  simp only [Bool.and_eq_true, decide_eq_true_eq, beq_iff_eq]
  constructor
  · exact fun h => h.2
  · intro h
    refine ⟨?_, h⟩
    have := congrArg List.length h
    rw [List.length_take] at this
    omega
theorem mt_swL : MtR X "str.startswith" (fun x xs H Q => ∃ a b, x = .str (S a) ∧ xs = [.str (S b)] ∧ Q (.bl (decide (a.take b.length = b))) H) := by
  intro pins s σ H x xs v us Q I rx rxs h
  obtain ⟨a, b, rfl, rfl, q⟩ := h
  exact mt_startswith pins s σ H _ _ v us Q I rx rxs ⟨S a, S b, rfl, rfl, by rw [sw_eq]; exact q⟩
theorem find_at {l r : List Nat} {n c : Nat} (hc : c ≠ 125) (h : l.drop n = c :: r) :
    Txt.find3 (S l) (S [125]) (n : Int) = if 125 ∈ r then ((n + 1 + (My.inn r).length : Nat) : Int) else -1 := by
  have hn : n < l.length := by
    rcases Nat.lt_or_ge n l.length with z | z
    · exact z
    · rw [List.drop_eq_nil_of_le z] at h; cases h
  have e0 : fromIndex (S l).length (n : Int) = n := by
    unfold fromIndex
    rw [if_neg (by omega)]
    omega
  have at_ : ∀ k, l[n + 1 + k]? = r[k]? := fun k => by
    have e : (l.drop n)[k + 1]? = r[k]? := by rw [h]; rfl
    rw [List.getElem?_drop] at e
    rw [← e, show n + 1 + k = n + (k + 1) by omega]
  have atn : l[n]? = some c := by
    have e : (l.drop n)[0]? = some c := by rw [h]; rfl
    rw [List.getElem?_drop] at e
    exact e
  have gd : ∀ v, v < l.length → (S l).cps.getD v 0 = 125 → l[v]? = some 125 := fun v hv e => StrLaws.getElem?_of_getD (x := S l) (by rw [S_len]; exact hv) e
  have spec := StrLaws.find3_spec (S l) 125 (n : Int)
  rw [e0] at spec
  have e1 : (S [125] : Str) = ⟨#[125]⟩ := rfl
  rw [e1]
  by_cases hr : 125 ∈ r
  · rw [if_pos hr]
    have hsp := My.inn_split hr
    have hk : l[n + 1 + (My.inn r).length]? = some 125 := by
      rw [at_, hsp, My.inn_app (My.inn_no r), List.getElem?_append_right (Nat.le_refl _), Nat.sub_self]
      rfl
    have hlo : ∀ v, n ≤ v → v < n + 1 + (My.inn r).length → l[v]? ≠ some 125 := fun v h1 h2 e => by
      rcases Nat.eq_or_lt_of_le h1 with z | z
      · rw [← z, atn] at e; exact hc (Option.some.inj e)
      · obtain ⟨k, rfl⟩ : ∃ k, v = n + 1 + k := ⟨v - n - 1, by omega⟩
        rw [at_, hsp, List.getElem?_append_left (by omega)] at e
        exact My.inn_no r (List.mem_of_getElem? e)
    have hlen : n + 1 + (My.inn r).length < l.length := (List.getElem?_eq_some_iff.mp hk).1
    rcases spec with ⟨_, no⟩ | ⟨k, e, k1, k2, k3, k4⟩
    · exact absurd (StrLaws.getD_of_getElem? (x := S l) hk) (no _ (by omega) (by rw [S_len]; exact hlen))
    · rw [e]
      rw [S_len] at k2
      have g := gd k k2 k3
      rcases Nat.lt_trichotomy k (n + 1 + (My.inn r).length) with z | z | z
      · exact absurd g (hlo k k1 z)
      · rw [z]
      · exact absurd (StrLaws.getD_of_getElem? (x := S l) hk) (k4 _ (by omega) z)
  · rw [if_neg hr]
    rcases spec with ⟨e, _⟩ | ⟨k, e, k1, k2, k3, k4⟩
    · exact e
    · exfalso
      rw [S_len] at k2
      have g := gd k k2 k3
      rcases Nat.eq_or_lt_of_le k1 with z | z
      · rw [← z, atn] at g; exact hc (Option.some.inj g)
      · obtain ⟨j, rfl⟩ : ∃ j, k = n + 1 + j := ⟨k - n - 1, by omega⟩
        rw [at_] at g
        exact hr (List.mem_of_getElem? g)
theorem mt_findL : MtR X "str.find" (fun x xs H Q => ∃ (l r : List Nat) (n c : Nat), x = .str (S l) ∧ xs = [.str (S [125]), .int n] ∧ c ≠ 125 ∧ l.drop n = c :: r ∧ Q (.int (if 125 ∈ r then ((n + 1 + (My.inn r).length : Nat) : Int) else -1)) H) := by
  intro pins s σ H x xs v us Q I rx rxs h
  obtain ⟨l, r, n, c, rfl, rfl, hc, hd, q⟩ := h
  exact mt_find3 pins s σ H _ _ v us Q I rx rxs ⟨S l, S [125], n, rfl, rfl, by rw [find_at hc hd]; exact q⟩
theorem call_intL : CallR X (.type "int") (fun xs H Q => ∃ d, xs = [.str (S d)] ∧ (∀ c ∈ d, 48 ≤ c ∧ c ≤ 57) ∧ d ≠ [] ∧ d.length ≤ 600 ∧ ∀ n : Int, Q (.int n) H) := by
  intro pins s σ H xs us Q I r h
  obtain ⟨d, rfl, hd, hne, hl, q⟩ := h
  refine call_int_str pins s σ H _ us Q I r ⟨S d, _, rfl, int_S (List.all_eq_true.mpr fun c hc => ?_) hne (by omega), by rw [S_len]; omega, q _⟩
  rw [Bool.and_eq_true, decide_eq_true_eq, decide_eq_true_eq]
  exact hd c hc
end SL

namespace My
open PySem PySem.Spec PyProof.Rows L2
def top (i : Nat) : Stmt := PySem.Challenge.pw_recordyard_k08_formats_in_braces_refused.main.body.getD i (.Pass ⟨0, 0, 0, 0⟩)
abbrev s__wall : Stmt := top 0
abbrev s_BadField___init__ : Stmt := inClass (top 3) 0
abbrev s_BadFormat___init__ : Stmt := inClass (top 4) 0
abbrev s_BadStyle___init__ : Stmt := inClass (top 5) 0
abbrev s_is_word_sign : Stmt := top 9
abbrev s_leading_name : Stmt := top 10
abbrev s_own_copy : Stmt := top 11
abbrev s_is_style : Stmt := top 14
abbrev s_Field___init__ : Stmt := inClass (top 15) 0
abbrev s_Field_written : Stmt := inClass (top 15) 1
abbrev s_brace_pieces : Stmt := top 16
abbrev s_brace_field : Stmt := top 17
abbrev s_split_spec : Stmt := top 18
abbrev s_is_width : Stmt := top 19
abbrev s_dollar_pieces : Stmt := top 20
abbrev s_dollar_name : Stmt := top 21
abbrev s_joined : Stmt := top 22
abbrev s_first_day : Stmt := top 27
abbrev s_month_days : Stmt := top 28
abbrev s_date_of : Stmt := top 29
abbrev s_date_text : Stmt := top 30
abbrev s_hours_text : Stmt := top 31
abbrev s_time_text : Stmt := top 32
abbrev s_Formatter___init__ : Stmt := inClass (top 34) 0
abbrev s_Formatter_formatted : Stmt := inClass (top 34) 1
abbrev s_Formatter_value : Stmt := inClass (top 34) 2
abbrev s_Formatter_uses_time : Stmt := inClass (top 34) 3
abbrev s_Formatter_fields : Stmt := inClass (top 34) 4
abbrev s_pieces_of : Stmt := top 35
abbrev s__law_draw : Stmt := top 37
abbrev s__law_pick : Stmt := top 38
abbrev s__law_text : Stmt := top 39
abbrev s__law_same : Stmt := top 40
abbrev s__law_field : Stmt := top 41
abbrev s__law_braced : Stmt := top 42
abbrev s__law_braced_text : Stmt := top 43
abbrev s__law_format_parts : Stmt := top 44
abbrev s__law_wrong_part : Stmt := top 45
abbrev s__law_formatter_told : Stmt := top 46
abbrev s__law_braced_parts : Stmt := top 47
abbrev s__law_made_alone : Stmt := top 48
abbrev s_law : Stmt := top 49
theorem sc__wall : FnScope ["k"] ["k"] (defScope s__wall) := ⟨rfl, rfl, rfl, by decide +kernel, rfl, by decide +kernel, by decide +kernel⟩
theorem sc_BadField___init__ : FnScope ["self", "name"] ["self", "name"] (defScope s_BadField___init__) := ⟨rfl, rfl, rfl, by decide +kernel, rfl, by decide +kernel, by decide +kernel⟩
theorem sc_BadFormat___init__ : FnScope ["self", "fmt"] ["self", "fmt"] (defScope s_BadFormat___init__) := ⟨rfl, rfl, rfl, by decide +kernel, rfl, by decide +kernel, by decide +kernel⟩
theorem sc_BadStyle___init__ : FnScope ["self", "style"] ["self", "style"] (defScope s_BadStyle___init__) := ⟨rfl, rfl, rfl, by decide +kernel, rfl, by decide +kernel, by decide +kernel⟩
theorem sc_is_word_sign : FnScope ["sign"] ["sign"] (defScope s_is_word_sign) := ⟨rfl, rfl, rfl, by decide +kernel, rfl, by decide +kernel, by decide +kernel⟩
theorem sc_leading_name : FnScope ["text", "end"] ["text"] (defScope s_leading_name) := ⟨rfl, rfl, rfl, by decide +kernel, rfl, by decide +kernel, by decide +kernel⟩
theorem sc_own_copy : FnScope ["thing", "table", "key", "row", "item"] ["thing"] (defScope s_own_copy) := ⟨rfl, rfl, rfl, by decide +kernel, rfl, by decide +kernel, by decide +kernel⟩
theorem sc_is_style : FnScope ["thing"] ["thing"] (defScope s_is_style) := ⟨rfl, rfl, rfl, by decide +kernel, rfl, by decide +kernel, by decide +kernel⟩
theorem sc_Field___init__ : FnScope ["self", "name", "way", "fill", "align", "width"] ["self", "name", "way", "fill", "align", "width"] (defScope s_Field___init__) := ⟨rfl, rfl, rfl, by decide +kernel, rfl, by decide +kernel, by decide +kernel⟩
theorem sc_Field_written : FnScope ["self", "value"] ["self", "value"] (defScope s_Field_written) := ⟨rfl, rfl, rfl, by decide +kernel, rfl, by decide +kernel, by decide +kernel⟩
theorem sc_brace_pieces : FnScope ["fmt", "pieces", "at", "pair", "end", "field"] ["fmt"] (defScope s_brace_pieces) := ⟨rfl, rfl, rfl, by decide +kernel, rfl, by decide +kernel, by decide +kernel⟩
theorem sc_brace_field : FnScope ["inner", "name", "rest", "way", "fill", "align", "digits"] ["inner"] (defScope s_brace_field) := ⟨rfl, rfl, rfl, by decide +kernel, rfl, by decide +kernel, by decide +kernel⟩
theorem sc_split_spec : FnScope ["spec"] ["spec"] (defScope s_split_spec) := ⟨rfl, rfl, rfl, by decide +kernel, rfl, by decide +kernel, by decide +kernel⟩
theorem sc_is_width : FnScope ["digits", "sign"] ["digits"] (defScope s_is_width) := ⟨rfl, rfl, rfl, by decide +kernel, rfl, by decide +kernel, by decide +kernel⟩
theorem sc_dollar_pieces : FnScope ["fmt", "pieces", "at", "name"] ["fmt"] (defScope s_dollar_pieces) := ⟨rfl, rfl, rfl, by decide +kernel, rfl, by decide +kernel, by decide +kernel⟩
theorem sc_dollar_name : FnScope ["fmt", "start", "name", "end"] ["fmt", "start"] (defScope s_dollar_name) := ⟨rfl, rfl, rfl, by decide +kernel, rfl, by decide +kernel, by decide +kernel⟩
theorem sc_joined : FnScope ["pieces", "out", "piece"] ["pieces"] (defScope s_joined) := ⟨rfl, rfl, rfl, by decide +kernel, rfl, by decide +kernel, by decide +kernel⟩
theorem sc_first_day : FnScope ["year", "past"] ["year"] (defScope s_first_day) := ⟨rfl, rfl, rfl, by decide +kernel, rfl, by decide +kernel, by decide +kernel⟩
theorem sc_month_days : FnScope ["year", "month", "leap"] ["year", "month"] (defScope s_month_days) := ⟨rfl, rfl, rfl, by decide +kernel, rfl, by decide +kernel, by decide +kernel⟩
theorem sc_date_of : FnScope ["day", "year", "month", "left"] ["day"] (defScope s_date_of) := ⟨rfl, rfl, rfl, by decide +kernel, rfl, by decide +kernel, by decide +kernel⟩
theorem sc_date_text : FnScope ["seconds", "year", "month", "day"] ["seconds"] (defScope s_date_text) := ⟨rfl, rfl, rfl, by decide +kernel, rfl, by decide +kernel, by decide +kernel⟩
theorem sc_hours_text : FnScope ["seconds", "sign", "hour", "minute", "second"] ["seconds", "sign"] (defScope s_hours_text) := ⟨rfl, rfl, rfl, by decide +kernel, rfl, by decide +kernel, by decide +kernel⟩
theorem sc_time_text : FnScope ["milliseconds", "seconds", "hours", "beyond"] ["milliseconds"] (defScope s_time_text) := ⟨rfl, rfl, rfl, by decide +kernel, rfl, by decide +kernel, by decide +kernel⟩
theorem sc_Formatter___init__ : FnScope ["self", "fmt", "style", "validate", "defaults"] ["self", "fmt", "style", "validate", "defaults"] (defScope s_Formatter___init__) := ⟨rfl, rfl, rfl, by decide +kernel, rfl, by decide +kernel, by decide +kernel⟩
theorem sc_Formatter_formatted : FnScope ["self", "record"] ["self", "record"] (defScope s_Formatter_formatted) := ⟨rfl, rfl, rfl, by decide +kernel, rfl, by decide +kernel, by decide +kernel⟩
theorem sc_Formatter_value : FnScope ["self", "record", "name"] ["self", "record", "name"] (defScope s_Formatter_value) := ⟨rfl, rfl, rfl, by decide +kernel, rfl, by decide +kernel, by decide +kernel⟩
theorem sc_Formatter_uses_time : FnScope ["self"] ["self"] (defScope s_Formatter_uses_time) := ⟨rfl, rfl, rfl, by decide +kernel, rfl, by decide +kernel, by decide +kernel⟩
theorem sc_Formatter_fields : FnScope ["self", "piece"] ["self"] (defScope s_Formatter_fields) := ⟨rfl, rfl, rfl, by decide +kernel, rfl, by decide +kernel, by decide +kernel⟩
theorem sc_pieces_of : FnScope ["fmt", "style"] ["fmt", "style"] (defScope s_pieces_of) := ⟨rfl, rfl, rfl, by decide +kernel, rfl, by decide +kernel, by decide +kernel⟩
theorem sc__law_draw : FnScope ["_law_stream", "_law_many", "_law_digit", "_law_mixed", "_law_last"] ["_law_stream", "_law_many"] (defScope s__law_draw) := ⟨rfl, rfl, rfl, by decide +kernel, rfl, by decide +kernel, by decide +kernel⟩
theorem sc__law_pick : FnScope ["_law_stream", "_law_some"] ["_law_stream", "_law_some"] (defScope s__law_pick) := ⟨rfl, rfl, rfl, by decide +kernel, rfl, by decide +kernel, by decide +kernel⟩
theorem sc__law_text : FnScope ["_law_stream", "_law_signs", "_law_most", "_law_k"] ["_law_stream", "_law_signs", "_law_most"] (defScope s__law_text) := ⟨rfl, rfl, rfl, by decide +kernel, rfl, by decide +kernel, by decide +kernel⟩
theorem sc__law_same : FnScope ["_law_found", "_law_due", "_law_key", "_law_one", "_law_other"] ["_law_found", "_law_due"] (defScope s__law_same) := ⟨rfl, rfl, rfl, by decide +kernel, rfl, by decide +kernel, by decide +kernel⟩
theorem sc__law_field : FnScope ["_law_stream", "_law_keys", "_law_key", "_law_sign", "_law_align", "_law_fill"] ["_law_stream", "_law_keys"] (defScope s__law_field) := ⟨rfl, rfl, rfl, by decide +kernel, rfl, by decide +kernel, by decide +kernel⟩
theorem sc__law_braced : FnScope ["_law_field_here", "_law_key", "_law_sign", "_law_fill", "_law_align", "_law_width", "_law_spec"] ["_law_field_here"] (defScope s__law_braced) := ⟨rfl, rfl, rfl, by decide +kernel, rfl, by decide +kernel, by decide +kernel⟩
theorem sc__law_braced_text : FnScope ["_law_shown"] ["_law_shown"] (defScope s__law_braced_text) := ⟨rfl, rfl, rfl, by decide +kernel, rfl, by decide +kernel, by decide +kernel⟩
theorem sc__law_format_parts : FnScope ["_law_stream", "_law_most", "_law_keys", "_law_found", "_law_k"] ["_law_stream", "_law_most", "_law_keys"] (defScope s__law_format_parts) := ⟨rfl, rfl, rfl, by decide +kernel, rfl, by decide +kernel, by decide +kernel⟩
theorem sc__law_wrong_part : FnScope ["_law_stream", "_law_some"] ["_law_stream"] (defScope s__law_wrong_part) := ⟨rfl, rfl, rfl, by decide +kernel, rfl, by decide +kernel, by decide +kernel⟩
theorem sc__law_formatter_told : FnScope ["_law_form", "_law_sign", "_law_firm", "e"] ["_law_form", "_law_sign", "_law_firm"] (defScope s__law_formatter_told) := ⟨rfl, rfl, rfl, by decide +kernel, rfl, by decide +kernel, by decide +kernel⟩
theorem sc__law_braced_parts : FnScope ["_law_parts", "_law_part"] ["_law_parts"] (defScope s__law_braced_parts) := ⟨rfl, rfl, rfl, by decide +kernel, rfl, by decide +kernel, by decide +kernel⟩
theorem sc__law_made_alone : FnScope ["_law_form", "_law_sign", "e"] ["_law_form", "_law_sign"] (defScope s__law_made_alone) := ⟨rfl, rfl, rfl, by decide +kernel, rfl, by decide +kernel, by decide +kernel⟩
theorem sc_law : FnScope ["_law_script", "_law_stream", "_law_turn", "_law_parts", "_law_right", "_law_firm", "_law_at", "_law_way", "_law_broken", "_law_spot", "_law_bare", "_law_due", "_law_odd", "_law_form"] ["_law_script"] (defScope s_law) := ⟨rfl, rfl, rfl, by decide +kernel, rfl, by decide +kernel, by decide +kernel⟩
structure Dfn (K : PySem.W.Frag) (mg : Str → Option Value) (x qual : Str) (st : Stmt) (ps : List Str) (f : Addr) (fd : FuncData) : Prop where
  F : Fun K x qual st f fd
  g : mg x = some (.ref f)
  b : Binds K fd ps []
structure Blt (mg : Str → Option Value) : Prop where
  n_all : mg "all" = none
  n_bool : mg "bool" = none
  n_dict : mg "dict" = none
  n_int : mg "int" = none
  n_isinstance : mg "isinstance" = none
  n_len : mg "len" = none
  n_list : mg "list" = none
  n_range : mg "range" = none
  n_sorted : mg "sorted" = none
  n_str : mg "str" = none
  n_tuple : mg "tuple" = none
  n_zip : mg "zip" = none
structure Txt (K : PySem.W.Frag) (mg : Str → Option Value) where
  B : Blt mg
  f__wall : Addr
  fd__wall : FuncData
  D__wall : Dfn K mg "_wall" "_wall" s__wall ["k"] f__wall fd__wall
  f_is_word_sign : Addr
  fd_is_word_sign : FuncData
  D_is_word_sign : Dfn K mg "is_word_sign" "is_word_sign" s_is_word_sign ["sign"] f_is_word_sign fd_is_word_sign
  f_leading_name : Addr
  fd_leading_name : FuncData
  D_leading_name : Dfn K mg "leading_name" "leading_name" s_leading_name ["text"] f_leading_name fd_leading_name
  f_own_copy : Addr
  fd_own_copy : FuncData
  D_own_copy : Dfn K mg "own_copy" "own_copy" s_own_copy ["thing"] f_own_copy fd_own_copy
  f_is_style : Addr
  fd_is_style : FuncData
  D_is_style : Dfn K mg "is_style" "is_style" s_is_style ["thing"] f_is_style fd_is_style
  f_brace_pieces : Addr
  fd_brace_pieces : FuncData
  D_brace_pieces : Dfn K mg "brace_pieces" "brace_pieces" s_brace_pieces ["fmt"] f_brace_pieces fd_brace_pieces
  f_brace_field : Addr
  fd_brace_field : FuncData
  D_brace_field : Dfn K mg "brace_field" "brace_field" s_brace_field ["inner"] f_brace_field fd_brace_field
  f_split_spec : Addr
  fd_split_spec : FuncData
  D_split_spec : Dfn K mg "split_spec" "split_spec" s_split_spec ["spec"] f_split_spec fd_split_spec
  f_is_width : Addr
  fd_is_width : FuncData
  D_is_width : Dfn K mg "is_width" "is_width" s_is_width ["digits"] f_is_width fd_is_width
  f_dollar_pieces : Addr
  fd_dollar_pieces : FuncData
  D_dollar_pieces : Dfn K mg "dollar_pieces" "dollar_pieces" s_dollar_pieces ["fmt"] f_dollar_pieces fd_dollar_pieces
  f_dollar_name : Addr
  fd_dollar_name : FuncData
  D_dollar_name : Dfn K mg "dollar_name" "dollar_name" s_dollar_name ["fmt", "start"] f_dollar_name fd_dollar_name
  f_joined : Addr
  fd_joined : FuncData
  D_joined : Dfn K mg "joined" "joined" s_joined ["pieces"] f_joined fd_joined
  f_first_day : Addr
  fd_first_day : FuncData
  D_first_day : Dfn K mg "first_day" "first_day" s_first_day ["year"] f_first_day fd_first_day
  f_month_days : Addr
  fd_month_days : FuncData
  D_month_days : Dfn K mg "month_days" "month_days" s_month_days ["year", "month"] f_month_days fd_month_days
  f_date_of : Addr
  fd_date_of : FuncData
  D_date_of : Dfn K mg "date_of" "date_of" s_date_of ["day"] f_date_of fd_date_of
  f_date_text : Addr
  fd_date_text : FuncData
  D_date_text : Dfn K mg "date_text" "date_text" s_date_text ["seconds"] f_date_text fd_date_text
  f_hours_text : Addr
  fd_hours_text : FuncData
  D_hours_text : Dfn K mg "hours_text" "hours_text" s_hours_text ["seconds", "sign"] f_hours_text fd_hours_text
  f_time_text : Addr
  fd_time_text : FuncData
  D_time_text : Dfn K mg "time_text" "time_text" s_time_text ["milliseconds"] f_time_text fd_time_text
  f_pieces_of : Addr
  fd_pieces_of : FuncData
  D_pieces_of : Dfn K mg "pieces_of" "pieces_of" s_pieces_of ["fmt", "style"] f_pieces_of fd_pieces_of
  f__law_draw : Addr
  fd__law_draw : FuncData
  D__law_draw : Dfn K mg "_law_draw" "_law_draw" s__law_draw ["_law_stream", "_law_many"] f__law_draw fd__law_draw
  f__law_pick : Addr
  fd__law_pick : FuncData
  D__law_pick : Dfn K mg "_law_pick" "_law_pick" s__law_pick ["_law_stream", "_law_some"] f__law_pick fd__law_pick
  f__law_text : Addr
  fd__law_text : FuncData
  D__law_text : Dfn K mg "_law_text" "_law_text" s__law_text ["_law_stream", "_law_signs", "_law_most"] f__law_text fd__law_text
  f__law_same : Addr
  fd__law_same : FuncData
  D__law_same : Dfn K mg "_law_same" "_law_same" s__law_same ["_law_found", "_law_due"] f__law_same fd__law_same
  f__law_field : Addr
  fd__law_field : FuncData
  D__law_field : Dfn K mg "_law_field" "_law_field" s__law_field ["_law_stream", "_law_keys"] f__law_field fd__law_field
  f__law_braced : Addr
  fd__law_braced : FuncData
  D__law_braced : Dfn K mg "_law_braced" "_law_braced" s__law_braced ["_law_field_here"] f__law_braced fd__law_braced
  f__law_braced_text : Addr
  fd__law_braced_text : FuncData
  D__law_braced_text : Dfn K mg "_law_braced_text" "_law_braced_text" s__law_braced_text ["_law_shown"] f__law_braced_text fd__law_braced_text
  f__law_format_parts : Addr
  fd__law_format_parts : FuncData
  D__law_format_parts : Dfn K mg "_law_format_parts" "_law_format_parts" s__law_format_parts ["_law_stream", "_law_most", "_law_keys"] f__law_format_parts fd__law_format_parts
  f__law_wrong_part : Addr
  fd__law_wrong_part : FuncData
  D__law_wrong_part : Dfn K mg "_law_wrong_part" "_law_wrong_part" s__law_wrong_part ["_law_stream"] f__law_wrong_part fd__law_wrong_part
  f__law_formatter_told : Addr
  fd__law_formatter_told : FuncData
  D__law_formatter_told : Dfn K mg "_law_formatter_told" "_law_formatter_told" s__law_formatter_told ["_law_form", "_law_sign", "_law_firm"] f__law_formatter_told fd__law_formatter_told
  f__law_braced_parts : Addr
  fd__law_braced_parts : FuncData
  D__law_braced_parts : Dfn K mg "_law_braced_parts" "_law_braced_parts" s__law_braced_parts ["_law_parts"] f__law_braced_parts fd__law_braced_parts
  f__law_made_alone : Addr
  fd__law_made_alone : FuncData
  D__law_made_alone : Dfn K mg "_law_made_alone" "_law_made_alone" s__law_made_alone ["_law_form", "_law_sign"] f__law_made_alone fd__law_made_alone
  f_law : Addr
  fd_law : FuncData
  D_law : Dfn K mg "law" "law" s_law ["_law_script"] f_law fd_law
  C_Field : Addr
  c_BadField : Addr
  c_BadFormat : Addr
  c_BadStyle : Addr
  i_BadField : Addr
  i_BadFormat : Addr
  i_BadStyle : Addr
  E_BadField : ErrTxt K mg "BadField" "name" c_BadField i_BadField
  E_BadFormat : ErrTxt K mg "BadFormat" "fmt" c_BadFormat i_BadFormat
  E_BadStyle : ErrTxt K mg "BadStyle" "style" c_BadStyle i_BadStyle
  i_Field : Addr
  fdi_Field : FuncData
  F_Field : FunD K "__init__" "Field.__init__" (defArgs s_Field___init__) (defBody s_Field___init__) (defScope s_Field___init__) [.str (SX.S []), .str (SX.S [32]), .str (SX.S []), .int 0] [] i_Field fdi_Field
  M_Field : Mk K C_Field i_Field
  g_Field : mg "Field" = some (.ref C_Field)
  I_Field : C8.InsC K C_Field
  kFS : PySem.W.kitOne K (.ref C_Field) (.type "str") = some false
  kSF : PySem.W.kitOne K (.type "str") (.ref C_Field) = some false
  C_Formatter : Addr
  i_Formatter : Addr
  fdi_Formatter : FuncData
  F_Formatter : FunD K "__init__" "Formatter.__init__" (defArgs s_Formatter___init__) (defBody s_Formatter___init__) (defScope s_Formatter___init__) [.non, .str (SX.S [123]), .bl true, .non] [] i_Formatter fdi_Formatter
  M_Formatter : Mk K C_Formatter i_Formatter
  g_Formatter : mg "Formatter" = some (.ref C_Formatter)
  cl_Formatter : Cls K C_Formatter
  na_pieces : NoAttr K C_Formatter "pieces"
  na_defaults : NoAttr K C_Formatter "defaults"
  m_fields : Addr
  fdm_fields : FuncData
  Me_fields : Meth K C_Formatter "fields" m_fields
  F_fields : Fun K "fields" "Formatter.fields" s_Formatter_fields m_fields fdm_fields
  b_fields : Binds K fdm_fields ["self"] []
  na_name : NoAttr K C_Field "name"
  na_way : NoAttr K C_Field "way"
  na_fill : NoAttr K C_Field "fill"
  na_align : NoAttr K C_Field "align"
  na_width : NoAttr K C_Field "width"
  cW : Addr
  PW : Addr
  W_ex : ∃ (oc : Value) (od : Option Addr) (kV doc pm : Value) (an : Option Addr) (ct : Value) (osl : Array (Option Value)), fd_is_width = PySem.W.fnOf "is_width" "is_width" (defArgs s_is_width) (defBody s_is_width) (defScope s_is_width) .none kV doc pm an (.ref cW) ct ∧ K.lookup f_is_width = some ⟨oc, od, .func fd_is_width, osl⟩ ∧ PySem.W.codeIn K (.ref cW) "is_width" = true
  aAL : Addr
  k_ALIGNS : ∃ u, mg "ALIGNS" = some u ∧ RelV (.ref aAL) u
  t_ALIGNS : ∀ H, SqT K H aAL [.str (SX.S [60]), .str (SX.S [62]), .str (SX.S [94])]
  exmS : PySem.W.exmOne K (.ref c_BadStyle) (.ref c_BadStyle) = some true
  exmSF : PySem.W.exmOne K (.ref c_BadStyle) (.ref c_BadFormat) = some false
  exm : PySem.W.exmOne K (.ref c_BadFormat) (.ref c_BadFormat) = some true
  k_LETTERS : ∃ u, mg "LETTERS" = some u ∧ RelV (.str (SX.S LET)) u
  k_DIGITS : ∃ u, mg "DIGITS" = some u ∧ RelV (.str (SX.S DIG)) u
local macro_rules | `(tactic| walk_at "hp") => `(tactic| first | assumption | exact upd_same | (refine Eq.trans (upd_ne (by first | assumption | (apply Ne.symm; assumption))) ?_; walk_at "hp"))
local macro_rules | `(tactic| walk_at "ixl") => `(tactic| (refine' ⟨_, ?xs, _, ?vv, rfl, rfl, SqL.of ?hh, ?aa, ?qq⟩; (case hh => walk_at "hp"); (case aa => rfl)))
local macro_rules | `(tactic| walk_at "setl") => `(tactic| (refine' ⟨_, ?xs, _, ?jj, rfl, rfl, ?hh, ?aa, ?qq⟩; (case hh => walk_at "hp"); (case aa => rfl)))
local macro_rules | `(tactic| walk_at "cond") => `(tactic| first | exact Nat.le_of_lt (small1000 (Nat.le_of_ble_eq_true rfl)) | decide | omega | (dsimp only; omega) | exact ⟨by decide, by decide⟩ | exact Or.inr ⟨by decide, by decide⟩ | exact Or.inl ⟨by decide, by decide⟩ | exact ⟨by decide, by decide, by decide⟩ | exact ⟨by omega, by omega⟩ | exact ⟨by omega, by omega, by omega⟩)
local macro_rules | `(tactic| walk_at "st") => `(tactic| repeat (first | refine ⟨_, rfl, ?_⟩ | refine ⟨_, _, rfl, rfl, ?_⟩ | walk_at "ixl" | walk_at "setl" | refine ⟨rfl, ?_⟩ | refine Or.inl ⟨_, rfl, ?_⟩ | refine And.intro (by walk_at "cond") ?_))
/-- what the stepper does not open -/
inductive Hd (p : Prop) : Prop where
  | a (h : p)
  | b (h : p)
theorem Hd.out {p : Prop} (h : Hd p) : p := by
  cases h <;> assumption
/-! ### all stands but tables, which may grow -/
theorem szl {n : Nat} (h : n ≤ 100000) : n < sizeLine := Nat.lt_of_le_of_lt h (by decide)
theorem keep_put {H : Hp} {p : Addr} {o : HO} : ∀ b, b ≠ p → ∀ u, H b = some u → upd H p o b = some u := fun b hb u e => by rw [upd_ne hb]; exact e
def noT : HO → Bool
  | .tbl _ => false
  | _ => true
structure SmT (H H' : Hp) : Prop where
  st : ∀ b o, H b = some o → noT o = true → H' b = some o
  tb : ∀ b ps, H b = some (.tbl ps) → ∃ ps', H' b = some (.tbl ps') ∧ (TriplesOk ps.toList → TriplesOk ps'.toList)
theorem Same.t {H H' : Hp} (h : Same H H') : SmT H H' := ⟨fun b o e _ => h b o e, fun b ps e => ⟨ps, h b _ e, id⟩⟩
theorem SmT.refl (H : Hp) : SmT H H := ⟨fun _ _ e _ => e, fun _ ps e => ⟨ps, e, id⟩⟩
theorem SmT.trans {H H1 H2 : Hp} (a : SmT H H1) (b : SmT H1 H2) : SmT H H2 := ⟨fun c o e z => b.st c o (a.st c o e z) z, fun c ps e => by
  obtain ⟨p1, e1, k1⟩ := a.tb c ps e
  obtain ⟨p2, e2, k2⟩ := b.tb c p1 e1
  exact ⟨p2, e2, fun h => k2 (k1 h)⟩⟩
theorem SmT.free {H H' : Hp} (h : SmT H H') {b : Addr} (e : H' b = none) : H b = none := by
  cases z : H b with
  | none => rfl
  | some o =>
    cases o with
    | tbl ps => obtain ⟨p, e1, _⟩ := h.tb b ps z; rw [e1] at e; cases e
    | _ => rw [h.st b _ z rfl] at e; cases e
theorem SmT.new {H H' : Hp} {x : Addr} {o : HO} (h : SmT H H') (hx : H x = none) : SmT H (upd H' x o) := ⟨fun b u e z => by
  rw [upd_ne (ne_of_none e hx)]; exact h.st b u e z, fun b ps e => by
  rw [upd_ne (ne_of_none e hx)]; exact h.tb b ps e⟩
theorem put_t {H H' : Hp} {x : Addr} {o o' : HO} (h : SmT H H') (hx : H x = none) (_ : H' x = some o') : SmT H (upd H' x o) := h.new hx
theorem SmT.tab {H H' : Hp} {P : Addr} (h : SmT H H') (t : GxR.TabG H P) : GxR.TabG H' P := by
  obtain ⟨ps, e, k⟩ := t
  obtain ⟨p, e1, k1⟩ := h.tb P ps e
  exact ⟨p, e1, k1 k⟩
theorem SmT.of {H H' : Hp} {P : Addr} (t : GxR.TabG H P) (h : GxR.Tabbed P H H') : SmT H H' := by
  obtain ⟨ps, e, k⟩ := t
  obtain ⟨⟨p, e1, k1⟩, h2⟩ := h
  refine ⟨fun b o eb z => ?_, fun b q eb => ?_⟩
  · have hb : b ≠ P := fun y => by rw [y, e] at eb; cases eb; cases z
    rw [h2 b hb]; exact eb
  · by_cases hb : b = P
    · rw [hb]; exact ⟨p, e1, fun _ => k1⟩
    · exact ⟨q, by rw [h2 b hb]; exact eb, id⟩
theorem Tabbed_refl {H : Hp} {P : Addr} (t : GxR.TabG H P) : GxR.Tabbed P H H := ⟨t, fun _ _ => rfl⟩
/-! ### the stream of draws -/
structure StmA (H : Hp) (p q : Addr) (n : Int) (cs : List Int) (a c : Int) : Prop where
  hp : H p = some (.lst [.ref q, .int a, .int n, .int c])
  hq : H q = some (.lst (cs.map V.int))
  a0 : 0 ≤ a
  c0 : 0 ≤ c
  c1 : c < 2147483647
structure Stm (H : Hp) (p q : Addr) (n : Int) : Prop where
  ex : ∃ (cs : List Int) (a c : Int), StmA H p q n cs a c
  n0 : 0 ≤ n
  n1 : n ≤ 100000
theorem StmA.ne {H : Hp} {p q : Addr} {a n c : Int} {cs : List Int} (S : StmA H p q n cs a c) : p ≠ q := by
  intro e
  have h2 := S.hq
  rw [← e, S.hp] at h2
  cases cs with
  | nil => cases h2
  | cons x r => simp at h2
/-- all but the stream's two lists -/
def off (H : Hp) (p q : Addr) : Hp := fun b => if b = p ∨ b = q then none else H b
theorem off_p {H : Hp} {p q : Addr} {o : HO} : off (upd H p o) p q = off H p q := by
  funext b
  unfold off
  by_cases h : b = p ∨ b = q
  · rw [if_pos h, if_pos h]
  · rw [if_neg h, if_neg h, upd_ne (fun e => h (.inl e))]
theorem off_q {H : Hp} {p q : Addr} {o : HO} : off (upd H q o) p q = off H p q := by
  funext b
  unfold off
  by_cases h : b = p ∨ b = q
  · rw [if_pos h, if_pos h]
  · rw [if_neg h, if_neg h, upd_ne (fun e => h (.inr e))]
/-- something new -/
theorem off_new {H : Hp} {p q x : Addr} {o : HO} (hx : H x = none) : Same (off H p q) (off (upd H x o) p q) := by
  intro b u e
  unfold off at e ⊢
  by_cases h : b = p ∨ b = q
  · rw [if_pos h] at e; cases e
  · rw [if_neg h] at e ⊢
    rw [upd_ne (ne_of_none e hx)]
    exact e
def spDraw : Sp := fun vs H Q _ => Hd (∃ (p q : Addr) (n m : Int), vs = [.ref p, .int m] ∧ Stm H p q n ∧ n + 1 ≤ 100000 ∧ 0 < m ∧ m < 1000000 ∧
  ∀ (d n' : Int) (H' : Hp), 0 ≤ d → d < m → n' ≤ n + 1 → Stm H' p q n' → Same (off H p q) (off H' p q) → Q (.int d) H')
theorem if_true_of {c : Bool} {A B : Prop} (hc : c = true) (h : A) : if c = true then A else B := by
  rw [if_pos hc]
  exact h
theorem if_false_of {c : Bool} {A B : Prop} (hc : c = false) (h : B) : if c = true then A else B := by
  rw [hc, if_neg Bool.false_ne_true]
  exact h
theorem eqvAll_nil (cs : List Int) : PyData.eqv (.list (cs.map PyData.int)) (.list []) = cs.isEmpty := by
  cases cs with
  | nil => rfl
  | cons x r => rfl
theorem canLay_ints : ∀ (cs : List Int), PyData.canLayAll0 (cs.map PyData.int) = true
  | [] => rfl
  | x :: r => by
    show (PyData.canLay0 (.int x) && PyData.canLayAll0 (r.map PyData.int)) = true
    rw [canLay_ints r]
    rfl
theorem depth_ints : ∀ (cs : List Int), PyData.depthAll (cs.map PyData.int) = 0
  | [] => rfl
  | x :: r => by
    show max (PyData.depth (.int x)) (PyData.depthAll (r.map PyData.int)) = 0
    rw [depth_ints r]
    rfl
theorem shaped_ints (cs : List Int) : SeqAt.shaped (.list (cs.map PyData.int)) = true := by
  show (PyData.canLayAll0 (cs.map PyData.int) && decide (PyData.depthAll (cs.map PyData.int) + 1 ≤ 64)) = true
  rw [canLay_ints, depth_ints]
  rfl
theorem dpAll_ints {K : PySem.W.Frag} {H : Hp} : ∀ (cs : List Int), DpAll K H (cs.map V.int) (cs.map PyData.int)
  | [] => .nil
  | x :: r => .cons (.int x) (dpAll_ints r)
theorem while_ex {c : TT} {tb : TS} {D : Ends} {σ : L2.St} {H : Hp} (Pv : Nat → L2.St → Hp → Prop) (Ex : L2.St → Hp → Prop) (h0 : ∃ m, Pv m σ H) (hfin : ∀ σ H, Ex σ H → D.nx σ H)
    (hs : ∀ (R : L2.St → Hp → Prop), (∀ σ H, Ex σ H → R σ H) → ∀ m σ H, Pv m σ H → ∀ NW : L2.St → Hp → Prop, NW = (fun σ' H' => Hd (∃ m', m' < m ∧ Pv m' σ' H')) →
      c σ H fun b H1 => if b = true then ∃ N : L2.St → Hp → Prop, (∀ σ' H', N σ' H' → ∃ m', m' < m ∧ Pv m' σ' H') ∧ tb { D with nx := N, ct := N, bk := R } σ H1 else R σ H1) : tWhile c tb D σ H :=
  ⟨Pv, h0, fun m σ H hp => hs D.nx hfin m σ H hp _ rfl⟩
theorem seqIndex0 {n : Nat} : seqIndex? 0 (n + 1) = some 0 := by
  unfold seqIndex?
  simp
def lenAt (H : Hp) (q : Addr) : Nat := match H q with
  | some (.lst xs) => xs.length
  | _ => 0
theorem lenAt_of {H : Hp} {q : Addr} {xs : List V} (h : H q = some (.lst xs)) : lenAt H q = xs.length := by
  unfold lenAt; rw [h]
/-! ### from the object's file: heaps -/
theorem off_same {H : Hp} {p q : Addr} : Same (off H p q) H := fun b o e => by
  unfold off at e
  by_cases h : b = p ∨ b = q
  · rw [if_pos h] at e; cases e
  · rw [if_neg h] at e; exact e
theorem off_mono {H H' : Hp} {p q : Addr} (h : Same H H') : Same (off H p q) (off H' p q) := fun b o e => by
  unfold off at e ⊢
  by_cases c : b = p ∨ b = q
  · rw [if_pos c] at e; cases e
  · rw [if_neg c] at e ⊢
    exact h _ _ e
theorem same_new {H : Hp} {x : Addr} {o : HO} (hx : H x = none) : Same H (upd H x o) := fun b u e => by
  rw [upd_ne (ne_of_none e hx)]
  exact e
theorem Stm.same {H H' : Hp} {p q : Addr} {n : Int} (S : Stm H p q n) (h : Same H H') : Stm H' p q n := by
  obtain ⟨⟨cs, a, c, SA⟩, n0, n1⟩ := S
  exact ⟨⟨cs, a, c, ⟨h _ _ SA.hp, h _ _ SA.hq, SA.a0, SA.c0, SA.c1⟩⟩, n0, n1⟩
/-- what is new since H0 -/
def nw (H0 H : Hp) : Hp := fun b => if (H0 b).isNone = true then H b else none
theorem nw_none {H0 H : Hp} {b : Addr} (h : H0 b = none) : nw H0 H b = H b := by
  unfold nw
  rw [h]
  rfl
theorem nw_some {H0 H : Hp} {b : Addr} {o : HO} (h : nw H0 H b = some o) : H0 b = none ∧ H b = some o := by
  unfold nw at h
  cases e : H0 b with
  | none => rw [e] at h; exact ⟨rfl, h⟩
  | some u => rw [e] at h; cases h
theorem nw_same {H0 H : Hp} : Same (nw H0 H) H := fun b o e => (nw_some e).2
/-- all but the stream stands, and what stood is there -/
structure Xt (H H' : Hp) (p q : Addr) : Prop where
  fr : Same (off H p q) (off H' p q)
  dm : ∀ b, H' b = none → H b = none
theorem Xt.refl {H : Hp} {p q : Addr} : Xt H H p q := ⟨Same.refl _, fun _ h => h⟩
theorem Xt.trans {H H1 H2 : Hp} {p q : Addr} (a : Xt H H1 p q) (b : Xt H1 H2 p q) : Xt H H2 p q := ⟨a.fr.trans b.fr, fun c h => a.dm c (b.dm c h)⟩
theorem Xt.new {H : Hp} {p q x : Addr} {o : HO} (hx : H x = none) : Xt H (upd H x o) p q := ⟨off_new hx, fun b h => by
  by_cases e : b = x
  · rw [e]; exact hx
  · rw [upd_ne e] at h; exact h⟩
theorem Xt.same {H H' : Hp} {p q : Addr} (h : Same H H') : Xt H H' p q := ⟨off_mono h, fun b e => h.free e⟩
/-- what is written at a place that is new since H -/
theorem Xt.put {H H' : Hp} {p q x : Addr} {o : HO} (a : Xt H H' p q) (hx : H x = none) : Xt H (upd H' x o) p q := ⟨fun b u e => by
  have hb : b ≠ x := fun z => by
    have := off_same _ _ e
    rw [z, hx] at this; cases this
  have q1 := a.fr _ _ e
  unfold off at q1 ⊢
  by_cases c : b = p ∨ b = q
  · rw [if_pos c] at q1; cases q1
  · rw [if_neg c] at q1 ⊢
    rw [upd_ne hb]; exact q1, fun b h => by
  by_cases e : b = x
  · rw [e]; exact hx
  · rw [upd_ne e] at h; exact a.dm b h⟩
theorem Xt.of {H H' : Hp} {p q : Addr} {n n' : Int} (S' : Stm H' p q n') (fr : Same (off H p q) (off H' p q)) : Xt H H' p q := ⟨fr, fun b h => by
  obtain ⟨⟨cs, a, c, SA⟩, _, _⟩ := S'
  cases e : H b with
  | none => rfl
  | some o =>
    by_cases z : b = p ∨ b = q
    · rcases z with rfl | rfl
      · rw [SA.hp] at h; cases h
      · rw [SA.hq] at h; cases h
    · have q1 : off H' p q b = some o := fr b o (by unfold off; rw [if_neg z]; exact e)
      rw [off_same _ _ q1] at h; cases h⟩
theorem Stm.there {H : Hp} {p q : Addr} {n : Int} (S : Stm H p q n) : H p ≠ none ∧ H q ≠ none := by
  obtain ⟨⟨cs, a, c, SA⟩, _, _⟩ := S
  exact ⟨by rw [SA.hp]; exact (fun z => nomatch z), by rw [SA.hq]; exact (fun z => nomatch z)⟩
/-- what is new stays behind draws -/
theorem nw_mono {H0 H H' : Hp} {p q : Addr} (hp : H0 p ≠ none) (hq : H0 q ≠ none) (fr : Same (off H p q) (off H' p q)) : Same (nw H0 H) (nw H0 H') := fun b o e => by
  obtain ⟨h0, h1⟩ := nw_some e
  rw [nw_none h0]
  have z : ¬ (b = p ∨ b = q) := fun z => by
    rcases z with rfl | rfl
    · exact hp h0
    · exact hq h0
  exact off_same _ _ (fr b o (by unfold off; rw [if_neg z]; exact h1))
/-- new since later, new since earlier -/
theorem nw_low {H0 H1 H : Hp} (dm : ∀ b, H1 b = none → H0 b = none) : Same (nw H1 H) (nw H0 H) := fun b o e => by
  obtain ⟨h0, h1⟩ := nw_some e
  rw [nw_none (dm b h0)]
  exact h1
theorem Xt.at {H H' : Hp} {p q b : Addr} {o : HO} (x : Xt H H' p q) (h : H b = some o) (hp : b ≠ p) (hq : b ≠ q) : H' b = some o :=
  off_same _ _ (x.fr b o (by unfold off; rw [if_neg (fun z => z.elim hp hq)]; exact h))
theorem Stm.put {H : Hp} {p q x : Addr} {n : Int} {o : HO} (S : Stm H p q n) (hp : x ≠ p) (hq : x ≠ q) : Stm (upd H x o) p q n := by
  obtain ⟨⟨cs, a, c, SA⟩, n0, n1⟩ := S
  exact ⟨⟨cs, a, c, ⟨by rw [upd_ne hp.symm]; exact SA.hp, by rw [upd_ne hq.symm]; exact SA.hq, SA.a0, SA.c0, SA.c1⟩⟩, n0, n1⟩
theorem nw_put {H0 H : Hp} {x : Addr} {o : HO} (hx : H0 x ≠ none) : nw H0 (upd H x o) = nw H0 H := by
  funext b
  unfold nw
  cases e : H0 b with
  | none =>
    have hb : b ≠ x := fun z => hx (by rw [← z]; exact e)
    simp [upd_ne hb]
  | some u => rfl
theorem off_at {H : Hp} {p q x : Addr} {n : Int} {o : HO} (S : Stm H p q n) (hx : H x = none) : off (upd H x o) p q x = some o := by
  obtain ⟨⟨cs, a, c, SA⟩, _, _⟩ := S
  unfold off
  rw [if_neg (fun h => by
    rcases h with rfl | rfl
    · rw [SA.hp] at hx; cases hx
    · rw [SA.hq] at hx; cases hx)]
  exact upd_same
theorem take_snoc {α : Type} {l : List α} {i : Nat} {x : α} (h : l[i]? = some x) : l.take (i + 1) = l.take i ++ [x] := by
  obtain ⟨h1, h2⟩ := List.getElem?_eq_some_iff.mp h
  rw [← h2, List.take_append_getElem h1]
theorem same_put {H H' : Hp} {x : Addr} {o : HO} (h : Same H H') (hx : H x = none) : Same H (upd H' x o) := fun b u e => by
  rw [upd_ne (ne_of_none e hx)]
  exact h _ _ e
theorem nw_step {H0 H H' : Hp} (h : Same H H') : Same (nw H0 H) (nw H0 H') := fun b o e => by
  obtain ⟨e1, e2⟩ := nw_some e
  rw [nw_none e1]
  exact h _ _ e2
end My

namespace My
open PySem PySem.Spec PyProof.Rows L2
local macro_rules | `(tactic| walk_at "hp") => `(tactic| first | assumption | exact upd_same | (refine Eq.trans (upd_ne (by first | assumption | (apply Ne.symm; assumption))) ?_; walk_at "hp"))
local macro_rules | `(tactic| walk_at "ixl") => `(tactic| (refine' ⟨_, ?xs, _, ?vv, rfl, rfl, SqL.of ?hh, ?aa, ?qq⟩; (case hh => walk_at "hp"); (case aa => rfl)))
local macro_rules | `(tactic| walk_at "setl") => `(tactic| (refine' ⟨_, ?xs, _, ?jj, rfl, rfl, ?hh, ?aa, ?qq⟩; (case hh => walk_at "hp"); (case aa => rfl)))
local macro_rules | `(tactic| walk_at "cond") => `(tactic| first | exact ⟨_, rfl⟩ | exact Nat.le_of_lt (small1000 (Nat.le_of_ble_eq_true rfl)) | decide | omega | (dsimp only; omega) | exact ⟨by decide, by decide⟩ | exact Or.inr ⟨by decide, by decide⟩ | exact Or.inl ⟨by decide, by decide⟩ | exact ⟨by decide, by decide, by decide⟩ | exact ⟨by omega, by omega⟩ | exact ⟨by omega, by omega, by omega⟩ | (simp only [List.length_cons, List.length_nil, List.length_append, List.length_take, List.length_drop]; omega) | (refine ⟨?_, ?_, ?_⟩ <;> first | decide | omega | (simp only [List.length_cons, List.length_nil, List.length_append, List.length_take, List.length_drop, Option.getD_some, Option.getD_none]; omega)))
local macro_rules | `(tactic| walk_at "st") => `(tactic| repeat (first | refine ⟨_, rfl, ?_⟩ | refine ⟨_, _, rfl, rfl, ?_⟩ | walk_at "ixl" | walk_at "setl" | refine ⟨rfl, ?_⟩ | refine Or.inl ⟨_, rfl, ?_⟩ | refine And.intro (by walk_at "cond") ?_))
section
variable {P : Program} {w : World} {K : PySem.W.Frag} {mg : Str → Option Value} {base : Heap}
def spWord : Sp := fun vs H Q _ => Hd (∃ c, vs = [.str (SX.S [c])] ∧ Q (.bl (wordc c)) H)
theorem ok_word (T : Txt K mg) : FnOk P w K mg base CX0 1 T.f_is_word_sign T.fd_is_word_sign ["sign"] spWord := by
  refine T.D_is_word_sign.F.ok sc_is_word_sign (fun vs H Q E h => ?_) (fun cdv A outer s H vs Q E hr h => ?_)
  · obtain ⟨c, rfl, _⟩ := h.out
    rfl
  · obtain ⟨c, rfl, k⟩ := h.out
    refine ⟨_, (pss_one (ps_ret (pe_or (pe_cmpR SL.op_inL (pv 0) (C8.pe_gc rfl T.k_LETTERS) rfl) (pe_or (pe_cmpR SL.op_inL (pv 0) (C8.pe_gc rfl T.k_DIGITS) rfl) (pe_one (pe_cmpR SL.op_eqL (pv 0) (SL.pe_strL [95] (by decide +kernel)) (nomark _))))))), ?_⟩
    walk_at "st"
    have e1 : SL.inL [c] LET = decide (c ∈ LET) := rfl
    have e2 : SL.inL [c] DIG = decide (c ∈ DIG) := rfl
    unfold wordc at k
    by_cases h1 : c ∈ LET
    · refine if_true_of (by rw [e1, decide_eq_true h1]) ?_
      rw [decide_eq_true h1] at k
      exact k
    · refine if_false_of (by rw [e1, decide_eq_false h1]) ?_
      rw [decide_eq_false h1] at k
      walk_at "st"
      by_cases h2 : c ∈ DIG
      · refine if_true_of (by rw [e2, decide_eq_true h2]) ?_
        rw [decide_eq_true h2] at k
        exact k
      · refine if_false_of (by rw [e2, decide_eq_false h2]) ?_
        rw [decide_eq_false h2] at k
        walk_at "st"
        have e3 : decide ([c] = [95]) = decide (c = 95) := by simp
        rw [e3]
        exact k
end
end My

namespace My
open PySem PySem.Spec PyProof.Rows L2
local macro_rules | `(tactic| walk_at "hp") => `(tactic| first | assumption | exact upd_same | (refine Eq.trans (upd_ne (by first | assumption | (apply Ne.symm; assumption))) ?_; walk_at "hp"))
local macro_rules | `(tactic| walk_at "ixl") => `(tactic| (refine' ⟨_, ?xs, _, ?vv, rfl, rfl, SqL.of ?hh, ?aa, ?qq⟩; (case hh => walk_at "hp"); (case aa => rfl)))
local macro_rules | `(tactic| walk_at "setl") => `(tactic| (refine' ⟨_, ?xs, _, ?jj, rfl, rfl, ?hh, ?aa, ?qq⟩; (case hh => walk_at "hp"); (case aa => rfl)))
local macro_rules | `(tactic| walk_at "cond") => `(tactic| first | exact ⟨_, rfl⟩ | exact Nat.le_of_lt (small1000 (Nat.le_of_ble_eq_true rfl)) | decide | omega | (dsimp only; omega) | exact ⟨by decide, by decide⟩ | exact Or.inr ⟨by decide, by decide⟩ | exact Or.inl ⟨by decide, by decide⟩ | exact ⟨by decide, by decide, by decide⟩ | exact ⟨by omega, by omega⟩ | exact ⟨by omega, by omega, by omega⟩ | (simp only [List.length_cons, List.length_nil, List.length_append, List.length_take, List.length_drop]; omega) | (refine ⟨?_, ?_, ?_⟩ <;> first | decide | omega | (simp only [List.length_cons, List.length_nil, List.length_append, List.length_take, List.length_drop, Option.getD_some, Option.getD_none]; omega)))
local macro_rules | `(tactic| walk_at "st") => `(tactic| repeat (first | refine ⟨_, rfl, ?_⟩ | refine ⟨_, _, rfl, rfl, ?_⟩ | walk_at "ixl" | walk_at "setl" | refine ⟨rfl, ?_⟩ | refine Or.inl ⟨_, rfl, ?_⟩ | refine And.intro (by walk_at "cond") ?_))
section
variable {P : Program} {w : World} {K : PySem.W.Frag} {mg : Str → Option Value} {base : Heap}
theorem takeW_at : ∀ {l : List Nat} {e : Nat}, (∀ i c, i < e → l[i]? = some c → wordc c = true) → (∀ c, l[e]? = some c → wordc c = false) → l.take e = l.takeWhile wordc
  | [], e, _, _ => by simp
  | c :: r, 0, _, h => by
    rw [List.takeWhile_cons_of_neg (by rw [h c rfl]; decide)]; rfl
  | c :: r, e + 1, h1, h2 => by
    rw [List.takeWhile_cons_of_pos (h1 0 c (Nat.succ_pos _) rfl), List.take_succ_cons]
    exact congrArg (c :: ·) (takeW_at (fun i d hi hd => h1 (i + 1) d (Nat.succ_lt_succ hi) hd) h2)
def spLead : Sp := fun vs H Q _ => Hd (∃ l, vs = [.str (SX.S l)] ∧ l.length ≤ 100000 ∧ Q (.str (SX.S (leadN l))) H)
theorem ok_lead (T : Txt K mg) : FnOk P w K mg base CX0 2 T.f_leading_name T.fd_leading_name ["text"] spLead := by
  have G_is_word_sign : FnOk P w K mg base CX0 1 _ _ _ spWord := ok_word T
  refine T.D_leading_name.F.ok sc_leading_name (fun vs H Q E h => ?_) (fun cdv A outer s H vs Q E hr h => ?_)
  · obtain ⟨l, rfl, _⟩ := h.out
    rfl
  · obtain ⟨l, rfl, hz, k⟩ := h.out
    refine ⟨_, (pss_cons (ps_set (i := 1) sc_leading_name.nd rfl (by first | exact Or.inl rfl | exact Or.inr rfl) pe_int)
  (pss_cons (ps_while PassesOwn.never (PW.pt (pw_and (pt_cmpR op_lt (pv 1) (pe_callB SL.call_lenL (by rfl) T.B.n_len (by decide +kernel) (pa_cons (pv 0) pa_nil)) (nomark _)) (pw_and1 (pt_val (pe_call G_is_word_sign (hr.mono (by first | decide | omega)) rfl T.D_is_word_sign.g T.D_is_word_sign.F.kp T.D_is_word_sign.b .nil pass0 (pa_cons (pe_ix SL.ix_strL (pv 0) (pv 1) (fun _ _ => rfl)) pa_nil))))))
    (pss_one (ps_aug (i := 1) sc_leading_name.nd rfl (by first | exact Or.inl rfl | exact Or.inr rfl) pe_int ip_add)))
  (pss_one (ps_ret (pe_ifExp (pt_cmpR SL.op_inL (pe_slice SL.sl_L (pv 0) po_none (po_some pe_int)) (C8.pe_gc rfl T.k_DIGITS) rfl) (SL.pe_strL [] (by decide +kernel)) (pe_slice SL.sl_L (pv 0) po_none (po_some (pv 1)))))))), ?_⟩
    walk_at "st"
    refine while_ex (fun m σ H1 => ∃ e : Nat, m = l.length - e ∧ e ≤ l.length ∧ σ = [some (.str (SX.S l)), some (.int e)] ∧ H1 = H ∧ ∀ i c, i < e → l[i]? = some c → wordc c = true)
      (fun σ H1 => ∃ e : Nat, σ = [some (.str (SX.S l)), some (.int e)] ∧ H1 = H ∧ l.take e = l.takeWhile wordc) ⟨_, 0, rfl, Nat.zero_le _, rfl, rfl, fun i c hi => absurd hi (Nat.not_lt_zero _)⟩ ?_ ?_
    · rintro σ H1 ⟨e, rfl, rfl, he⟩
      walk_at "st"
      have hc : (SL.cutL l none (some 1)).length ≤ 1 := by
        show ((l.take 1).drop 0).length ≤ 1
        rw [List.drop_zero, List.length_take]; omega
      refine ⟨hc, ?_⟩
      walk_at "st"
      cases l with
      | nil =>
        refine if_true_of rfl ?_
        exact k
      | cons c r =>
        have e1 : SL.inL (SL.cutL (c :: r) none (some 1)) DIG = decide (c ∈ DIG) := rfl
        have e2 : leadN (c :: r) = if c ∈ DIG then [] else (c :: r).takeWhile wordc := rfl
        by_cases hd : c ∈ DIG
        · rw [e2, if_pos hd] at k
          exact if_true_of (by rw [e1, decide_eq_true hd]) k
        · rw [e2, if_neg hd] at k
          refine if_false_of (by rw [e1, decide_eq_false hd]) ?_
          walk_at "st"
          have e3 : SL.cutL (c :: r) none (some (e : Int)) = (c :: r).takeWhile wordc := by rw [← he]; rfl
          rw [e3]
          exact k
    · rintro R fin m σ H1 ⟨e, rfl, he, rfl, rfl, hw⟩ NW hNW
      walk_at "st"
      by_cases h1 : e < l.length
      · refine if_true_of (decide_eq_true (by omega)) ?_
        walk_at "st"
        intro c hc
        rw [Int.toNat_natCast] at hc
        refine .a ⟨c, rfl, ?_⟩
        walk_at "st"
        cases hwc : wordc c with
        | true =>
          refine if_true_of rfl ⟨NW, by rw [hNW]; exact fun _ _ => Hd.out, ?_⟩
          walk_at "st"
          rw [hNW]
          refine .a ⟨l.length - (e + 1), by omega, e + 1, rfl, by omega, rfl, rfl, fun i d hi hd => ?_⟩
          by_cases hie : i = e
          · subst hie; rw [hc] at hd; rw [← Option.some.inj hd]; exact hwc
          · exact hw i d (by omega) hd
        | false =>
          refine if_false_of rfl ?_
          exact fin _ _ ⟨e, rfl, rfl, takeW_at hw fun d hd => by rw [hc] at hd; rw [← Option.some.inj hd]; exact hwc⟩
      · refine if_false_of (decide_eq_false (by omega)) ?_
        refine if_false_of rfl ?_
        exact fin _ _ ⟨e, rfl, rfl, takeW_at hw fun d hd => absurd (List.getElem?_eq_some_iff.mp hd).1 h1⟩
end
end My

namespace My
open PySem PySem.Spec PyProof.Rows L2
local macro_rules | `(tactic| walk_at "hp") => `(tactic| first | assumption | exact upd_same | (refine Eq.trans (upd_ne (by first | assumption | (apply Ne.symm; assumption))) ?_; walk_at "hp"))
local macro_rules | `(tactic| walk_at "ixl") => `(tactic| (refine' ⟨_, ?xs, _, ?vv, rfl, rfl, SqL.of ?hh, ?aa, ?qq⟩; (case hh => walk_at "hp"); (case aa => rfl)))
local macro_rules | `(tactic| walk_at "setl") => `(tactic| (refine' ⟨_, ?xs, _, ?jj, rfl, rfl, ?hh, ?aa, ?qq⟩; (case hh => walk_at "hp"); (case aa => rfl)))
local macro_rules | `(tactic| walk_at "cond") => `(tactic| first | exact ⟨_, rfl⟩ | exact Nat.le_of_lt (small1000 (Nat.le_of_ble_eq_true rfl)) | decide | omega | (dsimp only; omega) | exact ⟨by decide, by decide⟩ | exact Or.inr ⟨by decide, by decide⟩ | exact Or.inl ⟨by decide, by decide⟩ | exact ⟨by decide, by decide, by decide⟩ | exact ⟨by omega, by omega⟩ | exact ⟨by omega, by omega, by omega⟩ | (simp only [List.length_cons, List.length_nil, List.length_append, List.length_take, List.length_drop]; omega) | (refine ⟨?_, ?_, ?_⟩ <;> first | decide | omega | (simp only [List.length_cons, List.length_nil, List.length_append, List.length_take, List.length_drop, Option.getD_some, Option.getD_none]; omega)))
local macro_rules | `(tactic| walk_at "st") => `(tactic| repeat (first | refine ⟨_, rfl, ?_⟩ | refine ⟨_, _, rfl, rfl, ?_⟩ | walk_at "ixl" | walk_at "setl" | refine ⟨rfl, ?_⟩ | refine Or.inl ⟨_, rfl, ?_⟩ | refine And.intro (by walk_at "cond") ?_))
section
variable {P : Program} {w : World} {K : PySem.W.Frag} {mg : Str → Option Value} {base : Heap}
theorem ok_draw (T : Txt K mg) : FnOk P w K mg base CX0 1 T.f__law_draw T.fd__law_draw ["_law_stream", "_law_many"] spDraw := by
  refine T.D__law_draw.F.ok sc__law_draw (fun vs H Q E h => ?_) (fun cdv A outer s H vs Q E hr h => ?_)
  · obtain ⟨p, q, n, m, rfl, _⟩ := h.out
    rfl
  · obtain ⟨p, q, n, m, rfl, S, hn, hm, hm2, k⟩ := h.out
    have hu64 := hr.units
    refine ⟨_, (pss_cons (ps_while PassesOwn.never (PW.pt (pw_and (pt_cmpR op_eq (pe_ix ix_list (pv 0) pe_int (fun _ _ => rfl)) pe_int (nomark _)) (pw_and1 (pt_cmpR (op_neD hu64) (pe_ix ix_list (pv 0) pe_int (fun _ _ => rfl)) (pe_lst pa_nil) (nomark _)))))
    (pss_cons (ps_asg (pe_bm PySem.F.plainAttrs_list PySem.F.slot_list_pop PySem.F.type_list_pop mt_popAt (pe_ix ix_list (pv 0) pe_int (fun _ _ => rfl)) (pa_cons pe_int pa_nil)) (pg_sub (pv 0) pe_int set_list (fun _ => rfl)))
  (pss_one (ps_if (pt_cmpR op_lt (pe_ix ix_list (pv 0) pe_int (fun _ _ => rfl)) (pe_op op_pow pe_int pe_int) (nomark _))
    (pss_cons (ps_asg (pe_op op_mod (pe_callTy call_int1 (by rfl) T.B.n_int (by decide +kernel) (pa_cons (pe_op op_add (pe_op op_add (pe_op op_mul (pe_ix ix_list (pv 0) pe_int (fun _ _ => rfl)) pe_int) (pe_ix ix_list (pv 0) pe_int (fun _ _ => rfl))) pe_int) pa_nil)) pe_int) (pg_sub (pv 0) pe_int set_list (fun _ => rfl)))
  (pss_one (ps_asg pe_int (pg_sub (pv 0) pe_int set_list (fun _ => rfl)))))
    pss_nil))))
  (pss_cons (ps_if (pt_cmpR op_gt (pe_ix ix_list (pv 0) pe_int (fun _ _ => rfl)) pe_int (nomark _))
    (pss_cons (ps_set (i := 2) sc__law_draw.nd rfl (by first | exact Or.inl rfl | exact Or.inr rfl) (pe_op op_mod (pe_callTy call_int1 (by rfl) T.B.n_int (by decide +kernel) (pa_cons (pe_ix ix_list (pv 0) pe_int (fun _ _ => rfl)) pa_nil)) (pv 1)))
  (pss_cons (ps_asg (pe_op op_fdiv (pe_ix ix_list (pv 0) pe_int (fun _ _ => rfl)) (pv 1)) (pg_sub (pv 0) pe_int set_list (fun _ => rfl)))
  (pss_one (ps_ret (pv 2)))))
    pss_nil)
  (pss_cons (ps_asg (pe_op op_add (pe_ix ix_list (pv 0) pe_int (fun _ _ => rfl)) pe_int) (pg_sub (pv 0) pe_int set_list (fun _ => rfl)))
  (pss_cons (ps_set (i := 3) sc__law_draw.nd rfl (by first | exact Or.inl rfl | exact Or.inr rfl) (pe_op op_mod (pe_callTy call_int1 (by rfl) T.B.n_int (by decide +kernel) (pa_cons (pe_op op_pow (pe_op op_add (pe_op op_add (pe_ix ix_list (pv 0) pe_int (fun _ _ => rfl)) (pe_op op_mul pe_int (pe_ix ix_list (pv 0) pe_int (fun _ _ => rfl)))) pe_int) pe_int) pa_nil)) pe_int))
  (pss_cons (ps_set (i := 4) sc__law_draw.nd rfl (by first | exact Or.inl rfl | exact Or.inr rfl) (pe_op op_mod (pe_callTy call_int1 (by rfl) T.B.n_int (by decide +kernel) (pa_cons (pe_op op_pow (pe_op op_add (pe_op op_add (pe_op op_mul (pv 3) pe_int) (pe_op op_mul (pe_op op_mul pe_int (pe_ix ix_list (pv 0) pe_int (fun _ _ => rfl))) (pe_ix ix_list (pv 0) pe_int (fun _ _ => rfl)))) pe_int) pe_int) pa_nil)) pe_int))
  (pss_one (ps_ret (pe_op op_mod (pe_callTy call_int1 (by rfl) T.B.n_int (by decide +kernel) (pa_cons (pv 4) pa_nil)) (pv 1))))))))), ?_⟩
    obtain ⟨⟨cs, a, c, SA⟩, n0, n1⟩ := S
    refine while_ex (fun l σ H1 => ∃ cs a c, cs.length = l ∧ σ = [some (.ref p), some (.int m), none, none, none] ∧ StmA H1 p q n cs a c ∧ Same (off H p q) (off H1 p q))
      (fun σ H1 => ∃ cs a c, σ = [some (.ref p), some (.int m), none, none, none] ∧ StmA H1 p q n cs a c ∧ Same (off H p q) (off H1 p q)) ⟨cs.length, cs, a, c, rfl, rfl, SA, Same.refl _⟩ ?_ ?_
    · rintro σ H1 ⟨cs, a, c, rfl, SA, fr⟩
      have hpq := SA.ne
      obtain ⟨hp, hq, a0, c0, c1⟩ := SA
      walk_at "st"
      by_cases ha : a > 0
      · refine if_true_of (decide_eq_true ha) ?_
        walk_at "st"
        refine k (a % m) n _ (Int.emod_nonneg _ (by omega)) (Int.emod_lt_of_pos _ hm) (by omega) ⟨⟨cs, a / m, c, ⟨upd_same, ?_, Int.ediv_nonneg a0 (by omega), c0, c1⟩⟩, n0, n1⟩ ?_
        · rw [upd_ne hpq.symm]; exact hq
        · rw [off_p]; exact fr
      · refine if_false_of (decide_eq_false ha) ?_
        walk_at "st"
        have sq0 : 0 ≤ (n + 1) * (n + 1) := Int.mul_nonneg (by omega) (by omega)
        have sq1 : (n + 1) * (n + 1) ≤ 100000 * 100000 := Int.mul_le_mul hn hn (by omega) (by omega)
        have sqe : 40503 * (n + 1) * (n + 1) = 40503 * ((n + 1) * (n + 1)) := Int.mul_assoc _ _ _
        refine ⟨Or.inr ⟨by omega, by omega⟩, ?_⟩
        walk_at "st"
        refine k _ (n + 1) _ (Int.emod_nonneg _ (by omega)) (Int.emod_lt_of_pos _ hm) (by omega) ⟨⟨cs, a, c, ⟨upd_same, ?_, a0, c0, c1⟩⟩, by omega, hn⟩ ?_
        · rw [upd_ne hpq.symm]; exact hq
        · rw [off_p]; exact fr
    · rintro R fin l σ H1 ⟨cs, a, c, rfl, rfl, SA, fr⟩ NW hNW
      have hpq := SA.ne
      obtain ⟨hp, hq, a0, c0, c1⟩ := SA
      walk_at "st"
      by_cases ha : a = 0
      · refine if_true_of (decide_eq_true (congrArg V.int ha)) ?_
        walk_at "st"
        intro x hx
        have xp : p ≠ x := ne_of_none hp hx
        have xq : q ≠ x := ne_of_none hq hx
        refine ⟨.list (cs.map PyData.int), .list [], .lst (SqL.of (by rw [upd_ne xq]; exact hq)) (dpAll_ints cs), .lst (SqL.of upd_same) .nil, shaped_ints cs, rfl, _, rfl, ?_⟩
        have fr2 : Same (off H p q) (off (upd H1 x (.lst [])) p q) := fr.trans (off_new hx)
        have hp2 : (upd H1 x (.lst [])) p = some (.lst [.ref q, .int a, .int n, .int c]) := by rw [upd_ne xp]; exact hp
        have hq2 : (upd H1 x (.lst [])) q = some (.lst (cs.map V.int)) := by rw [upd_ne xq]; exact hq
        generalize upd H1 x (.lst []) = H2 at fr2 hp2 hq2 ⊢
        cases cs with
        | nil =>
          refine if_false_of rfl ?_
          exact fin _ _ ⟨[], a, c, rfl, ⟨hp2, hq2, a0, c0, c1⟩, fr2⟩
        | cons z r =>
          refine if_true_of rfl ⟨NW, by rw [hNW]; exact fun _ _ => Hd.out, ?_⟩
          walk_at "st"
          refine ⟨.inl ⟨rfl, _, SqL.of hq2⟩, q, _, 0, 0, _, rfl, rfl, hq2, by decide, by decide, seqIndex0, rfl, ?_⟩
          walk_at "st"
          by_cases hz : z < 10 ^ 18
          · refine if_true_of (decide_eq_true hz) ?_
            walk_at "st"
            rw [hNW]; refine .a ⟨r.length, Nat.lt_succ_self _, r, 0, (c * 31 + z + 7) % 2147483647, rfl, rfl, ⟨upd_same, ?_, by decide, Int.emod_nonneg _ (by decide), Int.emod_lt_of_pos _ (by decide)⟩, ?_⟩
            · rw [upd_ne hpq.symm, upd_ne hpq.symm, upd_ne hpq.symm]; exact upd_same
            · rw [off_p, off_p, off_p, off_q]; exact fr2
          · refine if_false_of (decide_eq_false hz) ?_
            walk_at "st"
            rw [hNW]; refine .a ⟨r.length, Nat.lt_succ_self _, r, z, c, rfl, rfl, ⟨upd_same, ?_, by omega, c0, c1⟩, ?_⟩
            · rw [upd_ne hpq.symm]; exact upd_same
            · rw [off_p, off_q]; exact fr2
      · refine if_false_of (decide_eq_false fun e => ha (V.int.inj e)) ?_
        exact fin _ _ ⟨cs, a, c, rfl, ⟨hp, hq, a0, c0, c1⟩, fr⟩
def spPick : Sp := fun vs H Q _ => Hd (∃ (p q l : Addr) (n : Int) (xs : List V), vs = [.ref p, .ref l] ∧ Stm H p q n ∧ n + 1 ≤ 100000 ∧ off H p q l = some (.lst xs) ∧ 0 < xs.length ∧ xs.length < 1000 ∧
  ∀ (v : V) (n' : Int) (H' : Hp), v ∈ xs → n' ≤ n + 1 → Stm H' p q n' → Same (off H p q) (off H' p q) → Q v H')
theorem ok_pick (T : Txt K mg) : FnOk P w K mg base CX0 2 T.f__law_pick T.fd__law_pick ["_law_stream", "_law_some"] spPick := by
  have G__law_draw : FnOk P w K mg base CX0 1 T.f__law_draw T.fd__law_draw _ spDraw := ok_draw T
  refine T.D__law_pick.F.ok sc__law_pick (fun vs H Q E h => ?_) (fun cdv A outer s H vs Q E hr h => ?_)
  · obtain ⟨p, q, l, n, xs, rfl, _⟩ := h.out
    rfl
  · obtain ⟨p, q, l, n, xs, rfl, S, hn, hl, l0, l1, k⟩ := h.out
    refine ⟨_, (pss_one (ps_ret (pe_ix ix_list (pv 1) (pe_call G__law_draw (hr.mono (by first | decide | omega)) rfl T.D__law_draw.g T.D__law_draw.F.kp T.D__law_draw.b .nil pass0 (pa_cons (pv 0) (pa_cons (pe_callB call_len_seq (by rfl) T.B.n_len (by decide +kernel) (pa_cons (pv 1) pa_nil)) pa_nil))) (fun _ _ => rfl)))), ?_⟩
    have hl2 := off_same _ _ hl
    refine ⟨_, rfl, _, rfl, _, rfl, l, xs, rfl, .inl (SqL.of hl2), ?_⟩
    refine .a ⟨p, q, n, (xs.length : Int), rfl, S, hn, by omega, by omega, fun d n' H' d0 d1 hn' S' fr => ?_⟩
    obtain ⟨j, rfl⟩ : ∃ j : Nat, d = (j : Int) := ⟨d.toNat, by omega⟩
    have hj : j < xs.length := by omega
    refine ⟨l, xs, _, xs[j], rfl, rfl, SqL.of (off_same _ _ (fr _ _ hl)), atI_nat (by simp [hj]), ?_⟩
    exact k _ n' H' (List.getElem_mem hj) hn' S' fr
def spPickS : Sp := fun vs H Q _ => Hd (∃ (p q : Addr) (n : Int) (l : List Nat), vs = [.ref p, .str (SX.S l)] ∧ Stm H p q n ∧ n + 1 ≤ 100000 ∧ 0 < l.length ∧ l.length < 1000 ∧
  ∀ (c : Nat) (n' : Int) (H' : Hp), c ∈ l → n' ≤ n + 1 → Stm H' p q n' → Same (off H p q) (off H' p q) → Q (.str (SX.S [c])) H')
theorem ok_pickS (T : Txt K mg) : FnOk P w K mg base CX0 2 T.f__law_pick T.fd__law_pick ["_law_stream", "_law_some"] spPickS := by
  have G__law_draw : FnOk P w K mg base CX0 1 T.f__law_draw T.fd__law_draw _ spDraw := ok_draw T
  refine T.D__law_pick.F.ok sc__law_pick (fun vs H Q E h => ?_) (fun cdv A outer s H vs Q E hr h => ?_)
  · obtain ⟨p, q, n, l, rfl, _⟩ := h.out
    rfl
  · obtain ⟨p, q, n, l, rfl, S, hn, l0, l1, k⟩ := h.out
    refine ⟨_, (pss_one (ps_ret (pe_ix SL.ix_strL (pv 1) (pe_call G__law_draw (hr.mono (by first | decide | omega)) rfl T.D__law_draw.g T.D__law_draw.F.kp T.D__law_draw.b .nil pass0 (pa_cons (pv 0) (pa_cons (pe_callB SL.call_lenL (by rfl) T.B.n_len (by decide +kernel) (pa_cons (pv 1) pa_nil)) pa_nil))) (fun _ _ => rfl)))), ?_⟩
    walk_at "st"
    refine .a ⟨p, q, n, (l.length : Int), rfl, S, hn, by omega, by omega, fun d n' H' d0 d1 hn' S' fr => ?_⟩
    walk_at "st"
    intro c hc
    exact k c n' H' (List.mem_of_getElem? hc) hn' S' fr
end
end My

namespace My
open PySem PySem.Spec PyProof.Rows L2
local macro_rules | `(tactic| walk_at "hp") => `(tactic| first | assumption | exact upd_same | (refine Eq.trans (upd_ne (by first | assumption | (apply Ne.symm; assumption))) ?_; walk_at "hp"))
local macro_rules | `(tactic| walk_at "ixl") => `(tactic| (refine' ⟨_, ?xs, _, ?vv, rfl, rfl, SqL.of ?hh, ?aa, ?qq⟩; (case hh => walk_at "hp"); (case aa => rfl)))
local macro_rules | `(tactic| walk_at "setl") => `(tactic| (refine' ⟨_, ?xs, _, ?jj, rfl, rfl, ?hh, ?aa, ?qq⟩; (case hh => walk_at "hp"); (case aa => rfl)))
local macro_rules | `(tactic| walk_at "cond") => `(tactic| first | exact ⟨_, rfl⟩ | exact Nat.le_of_lt (small1000 (Nat.le_of_ble_eq_true rfl)) | decide | omega | (dsimp only; omega) | exact ⟨by decide, by decide⟩ | exact Or.inr ⟨by decide, by decide⟩ | exact Or.inl ⟨by decide, by decide⟩ | exact ⟨by decide, by decide, by decide⟩ | exact ⟨by omega, by omega⟩ | exact ⟨by omega, by omega, by omega⟩ | (simp only [List.length_cons, List.length_nil, List.length_append, List.length_take, List.length_drop]; omega) | (refine ⟨?_, ?_, ?_⟩ <;> first | decide | omega | (simp only [List.length_cons, List.length_nil, List.length_append, List.length_take, List.length_drop, Option.getD_some, Option.getD_none]; omega)))
local macro_rules | `(tactic| walk_at "st") => `(tactic| repeat (first | refine ⟨_, rfl, ?_⟩ | refine ⟨_, _, rfl, rfl, ?_⟩ | walk_at "ixl" | walk_at "setl" | refine ⟨rfl, ?_⟩ | refine Or.inl ⟨_, rfl, ?_⟩ | refine And.intro (by walk_at "cond") ?_))
/-- a comprehension over a range -/
theorem comp_rng {lo : Int} {n : Nat} {D : Addr} {g : TG} {tt : TT} {te : TE} {σ : L2.St} {vs : List Nat} {H1 : Hp} {Q : Hp → Prop} (W : Nat → Hp → Prop) (h0 : W 0 (upd H1 D (.lst []))) (hend : ∀ H, W n H → Q H)
    (hs : ∀ (i : Nat) H, i < n → W i H → ∀ N : Hp → Prop, N = (fun H' => Hd (W (i + 1) H')) → g (.int (lo + i)) (wipe σ vs) H fun σ2 H2 => wipe σ2 vs = wipe σ vs ∧ tt σ2 H2 fun b H3 => if b = true then te σ2 H3 fun y H4 => ∃ acc, H4 D = some (.lst acc) ∧ acc.length < sizeLine ∧ N (upd H4 D (.lst (acc ++ [y]))) else N H3) :
    ∃ W : Nat → Nat → Hp → Prop, (∃ m, W 0 m (upd H1 D (.lst []))) ∧ ∀ i m H, W i m H → ((Itr lo n).stop i H ∧ Q H) ∨ ((Itr lo n).go i H ∧ ∃ Nx : Hp → Prop, (∀ H', Nx H' → ∃ m', m' < m ∧ W (i + 1) m' H') ∧
      ∀ x H', (Itr lo n).yld i H x H' → g x (wipe σ vs) H' fun σ2 H2 => wipe σ2 vs = wipe σ vs ∧ tt σ2 H2 fun b H3 => if b = true then te σ2 H3 fun y H4 => ∃ acc, H4 D = some (.lst acc) ∧ acc.length < sizeLine ∧ Nx (upd H4 D (.lst (acc ++ [y]))) else Nx H3) := by
  refine ⟨fun i m H => W i H ∧ m = n - i ∧ i ≤ n, ⟨_, h0, rfl, Nat.zero_le _⟩, ?_⟩
  rintro i m H ⟨hw, rfl, hi⟩
  by_cases hlt : i < n
  · refine .inr ⟨hlt, fun H' => Hd (W (i + 1) H'), fun H' z => ⟨n - (i + 1), by omega, z.out, rfl, by omega⟩, ?_⟩
    rintro x H' ⟨rfl, rfl⟩
    exact hs i H' hlt hw _ rfl
  · have e : i = n := by omega
    subst e
    exact .inl ⟨Nat.le_refl _, hend H hw⟩
/-- a walk over a range -/
theorem for_rng {lo : Int} {n : Nat} {g : TG} {tb : TS} {D : Ends} {σ : L2.St} {H : Hp} (W : Nat → L2.St → Hp → Prop) (h0 : W 0 σ H) (hend : ∀ σ H, W n σ H → D.nx σ H)
    (hs : ∀ (R : L2.St → Hp → Prop) (i : Nat) σ H, i < n → W i σ H → ∀ N : L2.St → Hp → Prop, N = (fun σ' H' => Hd (W (i + 1) σ' H')) → g (.int (lo + i)) σ H fun σ2 H2 => tb { D with nx := N, ct := N, bk := D.nx } σ2 H2) :
    ∃ W : Nat → Nat → L2.St → Hp → Prop, (∃ m, W 0 m σ H) ∧ ∀ i m σ H, W i m σ H →
      ((Itr lo n).stop i H ∧ D.nx σ H) ∨ ((Itr lo n).go i H ∧ ∃ N : L2.St → Hp → Prop, (∀ σ' H', N σ' H' → ∃ m', m' < m ∧ W (i + 1) m' σ' H') ∧ ∀ x H', (Itr lo n).yld i H x H' → g x σ H' fun σ2 H2 => tb { D with nx := N, ct := N, bk := D.nx } σ2 H2) := by
  refine ⟨fun i m σ H => W i σ H ∧ m = n - i ∧ i ≤ n, ⟨_, h0, rfl, Nat.zero_le _⟩, ?_⟩
  rintro i m σ H ⟨hw, rfl, hi⟩
  by_cases hlt : i < n
  · refine .inr ⟨hlt, fun σ' H' => Hd (W (i + 1) σ' H'), fun σ' H' z => ⟨n - (i + 1), by omega, z.out, rfl, by omega⟩, ?_⟩
    rintro x H' ⟨rfl, rfl⟩
    exact hs D.nx i σ H' hlt hw _ rfl
  · have e : i = n := by omega
    subst e
    exact .inl ⟨Nat.le_refl _, hend σ H hw⟩
theorem joinL_one : ∀ l : List Nat, TL.joinL [] (l.map fun c => [c]) = l
  | [] => rfl
  | [c] => rfl
  | c :: d :: r => by
    show [c] ++ ([] ++ TL.joinL [] ((d :: r).map fun c => [c])) = _
    rw [joinL_one (d :: r)]; rfl
def sgV (l : List Nat) : List V := l.map fun c => .str (SX.S [c])
theorem sgV_str (l : List Nat) : sgV l = (l.map fun c => SX.S [c]).map V.str := by
  unfold sgV; rw [List.map_map]; rfl
theorem join_sg (l : List Nat) : Txt.join (SX.S []) (l.map fun c => SX.S [c]) = SX.S l := by
  have e : (l.map fun c => SX.S [c]) = (l.map fun c => [c]).map SX.S := by rw [List.map_map]; rfl
  rw [e, SX.join_S, joinL_one]
theorem sum_sg : ∀ l : List Nat, ((l.map fun c => SX.S [c]).map (·.length)).sum = l.length
  | [] => rfl
  | c :: r => by
    have := sum_sg r
    simp only [List.map_cons, List.sum_cons, List.length_cons] at this ⊢
    rw [this]
    show 1 + r.length = _; omega
section
variable {P : Program} {w : World} {K : PySem.W.Frag} {mg : Str → Option Value} {base : Heap}
def spText : Sp := fun vs H Q _ => Hd (∃ (p q : Addr) (n : Int) (l : List Nat) (m : Nat), vs = [.ref p, .str (SX.S l), .int m] ∧ Stm H p q n ∧ n + 1 + m ≤ 100000 ∧ 0 < l.length ∧ l.length < 1000 ∧ m ≤ 1000 ∧
  ∀ (t : List Nat) (n' : Int) (H' : Hp), (∀ c ∈ t, c ∈ l) → t.length ≤ m → n' ≤ n + 1 + m → Stm H' p q n' → Xt H H' p q → Q (.str (SX.S t)) H')
theorem ok_text (T : Txt K mg) : FnOk P w K mg base CX0 3 T.f__law_text T.fd__law_text ["_law_stream", "_law_signs", "_law_most"] spText := by
  have G__law_draw : FnOk P w K mg base CX0 1 T.f__law_draw T.fd__law_draw _ spDraw := ok_draw T
  have G__law_pick : FnOk P w K mg base CX0 2 T.f__law_pick T.fd__law_pick _ spPickS := ok_pickS T
  refine T.D__law_text.F.ok sc__law_text (fun vs H Q E h => ?_) (fun cdv A outer s H vs Q E hr h => ?_)
  · obtain ⟨p, q, n, l, m, rfl, _⟩ := h.out
    rfl
  · obtain ⟨p, q, n, l, m, rfl, S, hn, l0, l1, hm, k⟩ := h.out
    refine ⟨_, (pss_one (ps_ret (pe_join (SL.pe_strL [] (by decide +kernel)) (pe_lc (own := [("_law_k", 3)]) (g := gName 3) rfl sc__law_text.nd (pi_range1 rfl T.B.n_range (pa_cons (pe_call G__law_draw (hr.mono (by first | decide | omega)) rfl T.D__law_draw.g T.D__law_draw.F.kp T.D__law_draw.b .nil pass0 (pa_cons (pv 0) (pa_cons (pe_op op_add (pv 2) pe_int) pa_nil))) pa_nil)) (blkOk_by (N := ["_law_stream", "_law_signs", "_law_most", "_law_k"]) (sc := defScope s__law_text) (by decide +kernel)) (fun _ _ _ _ _ => (pg_name (i := 3) sc__law_text.nd rfl (by first | exact Or.inl rfl | exact Or.inr rfl))) (fun _ _ _ _ _ => pts_nil) (fun _ _ _ _ _ => (pe_call G__law_pick (hr.mono (by first | decide | omega)) rfl T.D__law_pick.g T.D__law_pick.F.kp T.D__law_pick.b .nil pass0 (pa_cons (pv 0) (pa_cons (pv 1) pa_nil)))))))), ?_⟩
    walk_at "st"
    refine .a ⟨p, q, n, (m : Int) + 1, rfl, S, by omega, by omega, by omega, fun d n1 H1 d0 d1 hn1 S1 fr1 => ?_⟩
    have X1 : Xt H H1 p q := .of (n := n) S1 fr1
    walk_at "st"
    intro D hD
    obtain ⟨hpn, hqn⟩ := S1.there
    have Dp : D ≠ p := fun z => hpn (z ▸ hD)
    have Dq : D ≠ q := fun z => hqn (z ▸ hD)
    refine comp_rng (fun i H2 => ∃ (t : List Nat) (n' : Int), H2 D = some (.lst (sgV t)) ∧ (∀ c ∈ t, c ∈ l) ∧ t.length ≤ i ∧ n' ≤ n + 1 + i ∧ Stm H2 p q n' ∧ Xt H1 H2 p q) ⟨[], n1, upd_same, (fun _ z => nomatch z), Nat.le_refl _, by omega, S1.put Dp Dq, Xt.new hD⟩ ?_ ?_
    · rintro H2 ⟨t, n', h1, h2, h3, h4, S2, X2⟩
      walk_at "st"
      refine ⟨_, D, t.map fun c => SX.S [c], rfl, rfl, .inl (SqL.of (by rw [h1, sgV_str])), ?_, ?_⟩
      · rw [sum_sg]; show _ + _ * 0 ≤ _; omega
      · have e : Txt.join (SX.S []) (t.map fun c => SX.S [c]) = SX.S t := join_sg t
        rw [e]
        exact k t n' H2 h2 (by omega) (by omega) S2 (X1.trans X2)
    · rintro i H2 hi ⟨t, n', h1, h2, h3, h4, S2, X2⟩ N hN
      walk_at "st"
      refine .a ⟨p, q, n', l, rfl, S2, by omega, l0, l1, fun c n2 H3 hc hn2 S3 fr3 => ?_⟩
      have h5 : H3 D = some (.lst (sgV t)) := (Xt.of (n := n') S3 fr3).at h1 Dp Dq
      refine ⟨_, h5, szl ?_, ?_⟩
      · have : (sgV t).length = t.length := List.length_map ..
        omega
      · rw [hN]
        refine .a ⟨t ++ [c], n2, ?_, ?_, ?_, by omega, S3.put Dp Dq, (X2.trans (.of (n := n') S3 fr3)).put hD⟩
        · unfold sgV; rw [List.map_append]; exact upd_same
        · intro b hb
          rcases List.mem_append.mp hb with hb | hb
          · exact h2 b hb
          · rw [List.mem_singleton.mp hb]; exact hc
        · rw [List.length_append, List.length_singleton]; omega
end
end My

namespace My
open PySem PySem.Spec PyProof.Rows L2
local macro_rules | `(tactic| walk_at "hp") => `(tactic| first | assumption | exact upd_same | (refine Eq.trans (upd_ne (by first | assumption | (apply Ne.symm; assumption))) ?_; walk_at "hp"))
local macro_rules | `(tactic| walk_at "ixl") => `(tactic| (refine' ⟨_, ?xs, _, ?vv, rfl, rfl, SqL.of ?hh, ?aa, ?qq⟩; (case hh => walk_at "hp"); (case aa => rfl)))
local macro_rules | `(tactic| walk_at "setl") => `(tactic| (refine' ⟨_, ?xs, _, ?jj, rfl, rfl, ?hh, ?aa, ?qq⟩; (case hh => walk_at "hp"); (case aa => rfl)))
local macro_rules | `(tactic| walk_at "cond") => `(tactic| first | exact ⟨_, rfl⟩ | exact Nat.le_of_lt (small1000 (Nat.le_of_ble_eq_true rfl)) | decide | omega | (dsimp only; omega) | exact ⟨by decide, by decide⟩ | exact Or.inr ⟨by decide, by decide⟩ | exact Or.inl ⟨by decide, by decide⟩ | exact ⟨by decide, by decide, by decide⟩ | exact ⟨by omega, by omega⟩ | exact ⟨by omega, by omega, by omega⟩ | (simp only [List.length_cons, List.length_nil, List.length_append, List.length_take, List.length_drop]; omega) | (refine ⟨?_, ?_, ?_⟩ <;> first | decide | omega | (simp only [List.length_cons, List.length_nil, List.length_append, List.length_take, List.length_drop, Option.getD_some, Option.getD_none]; omega)))
local macro_rules | `(tactic| walk_at "st") => `(tactic| repeat (first | refine ⟨_, rfl, ?_⟩ | refine ⟨_, _, rfl, rfl, ?_⟩ | walk_at "ixl" | walk_at "setl" | refine ⟨rfl, ?_⟩ | refine Or.inl ⟨_, rfl, ?_⟩ | refine And.intro (by walk_at "cond") ?_))
section
variable {P : Program} {w : World} {K : PySem.W.Frag} {mg : Str → Option Value} {base : Heap}
def fldG (n : List Nat) (w f a d : V) : List (Str × V) := [("name", .str (SX.S n)), ("way", w), ("fill", f), ("align", a), ("width", d)]
/-- a field of this name -/
def IsF (C : Addr) (H : Hp) (x : Addr) (n : List Nat) : Prop := ∃ (dx : Addr) (w f a d : V), H x = some (.ins C dx (fldG n w f a d))
def spFld (C : Addr) : Sp := fun vs H Q _ => Hd (∃ (x dx : Addr) (n : List Nat) (w f a d : V), vs = [.ref x, .str (SX.S n), w, f, a, d] ∧ H x = some (.ins C dx []) ∧
  ∀ H' : Hp, IsF C H' x n → (∀ b, b ≠ x → H' b = H b) → Q .non H')
theorem ok_Field (T : Txt K mg) : FnOk P w K mg base CX0 1 T.i_Field T.fdi_Field ["self", "name", "way", "fill", "align", "width"] (spFld T.C_Field) := by
  refine T.F_Field.ok sc_Field___init__ (fun vs H Q E h => ?_) (fun cdv A outer s H vs Q E hr h => ?_)
  · obtain ⟨x, dx, n, w, f, a, d, rfl, _⟩ := h.out
    rfl
  · obtain ⟨x, dx, n, w, f, a, d, rfl, hx, k⟩ := h.out
    refine ⟨_, (pss_cons (ps_fld (pv 0) (pv 1) rfl)
  (pss_cons (ps_fld (pv 0) (pv 2) rfl)
  (pss_cons (ps_fld (pv 0) (pv 3) rfl)
  (pss_cons (ps_fld (pv 0) (pv 4) rfl)
  (pss_one (ps_fld (pv 0) (pv 5) rfl)))))), ?_⟩
    walk_at "st"
    refine ⟨x, T.C_Field, dx, _, rfl, hx, T.I_Field.cl, T.na_name, Nat.le_of_ble_eq_true rfl, ?_⟩
    walk_at "st"
    refine ⟨x, T.C_Field, dx, _, rfl, upd_same, T.I_Field.cl, T.na_way, Nat.le_of_ble_eq_true rfl, ?_⟩
    walk_at "st"
    refine ⟨x, T.C_Field, dx, _, rfl, upd_same, T.I_Field.cl, T.na_fill, Nat.le_of_ble_eq_true rfl, ?_⟩
    walk_at "st"
    refine ⟨x, T.C_Field, dx, _, rfl, upd_same, T.I_Field.cl, T.na_align, Nat.le_of_ble_eq_true rfl, ?_⟩
    walk_at "st"
    refine ⟨x, T.C_Field, dx, _, rfl, upd_same, T.I_Field.cl, T.na_width, Nat.le_of_ble_eq_true rfl, ?_⟩
    walk_at "st"
    exact k _ ⟨dx, w, f, a, d, upd_same⟩ fun b hb => by rw [upd_ne hb, upd_ne hb, upd_ne hb, upd_ne hb, upd_ne hb]
theorem bi_Field (T : Txt K mg) : ∃ ds, Vals [.str (SX.S []), .str (SX.S [32]), .str (SX.S []), .int 0] ds ∧ Binds K T.fdi_Field ["self", "name", "way", "fill", "align", "width"] ds :=
  T.F_Field.binds1 2 0 (by decide) rfl fun T kV doc pm an cdv ct us its l1 l2 => by
    match us, its, l1, l2 with
    | [a, b], [c, d, e, f], _, _ => exact ⟨_, rfl, rfl⟩
theorem bi_Field2 (T : Txt K mg) : ∃ ds, Vals [.str (SX.S [32]), .str (SX.S []), .int 0] ds ∧ Binds K T.fdi_Field ["self", "name", "way", "fill", "align", "width"] ds :=
  T.F_Field.binds1 3 1 (by decide) rfl fun T kV doc pm an cdv ct us its l1 l2 => by
    match us, its, l1, l2 with
    | [a, b, e], [c, d, g, f], _, _ => exact ⟨_, rfl, rfl⟩
theorem bi_Field5 (T : Txt K mg) : ∃ ds, Vals [] ds ∧ Binds K T.fdi_Field ["self", "name", "way", "fill", "align", "width"] ds :=
  T.F_Field.binds1 6 4 (by decide) rfl fun T kV doc pm an cdv ct us its l1 l2 => by
    match us, its, l1, l2 with
    | [a, b, e, h, i, j], [c, d, g, f], _, _ => exact ⟨_, rfl, rfl⟩
end
section
def PcV (C : Addr) (H : Hp) (v : V) : Pc → Prop
  | .txt l => v = .str (SX.S l)
  | .fld n => ∃ x, v = .ref x ∧ IsF C H x n
inductive PcsV (C : Addr) (H : Hp) : List V → List Pc → Prop
  | nil : PcsV C H [] []
  | cons {v : V} {p : Pc} {vs : List V} {ps : List Pc} : PcV C H v p → PcsV C H vs ps → PcsV C H (v :: vs) (p :: ps)
theorem PcV.mono {C : Addr} {H H' : Hp} {v : V} : ∀ {p : Pc}, PcV C H v p → SmT H H' → PcV C H' v p
  | .txt _, h, _ => h
  | .fld _, ⟨x, e, dx, w, f, a, d, h⟩, s => ⟨x, e, dx, w, f, a, d, s.st _ _ h rfl⟩
theorem PcV.keep {C : Addr} {H H' : Hp} {v : V} {q : Addr} {xs : List V} (hq : H q = some (.lst xs)) (s : ∀ b, b ≠ q → ∀ o, H b = some o → H' b = some o) : ∀ {p : Pc}, PcV C H v p → PcV C H' v p
  | .txt _, h => h
  | .fld _, ⟨x, e, dx, w, f, a, d, h⟩ => ⟨x, e, dx, w, f, a, d, s _ (fun z => by rw [z, hq] at h; cases h) _ h⟩
theorem PcsV.keep {C : Addr} {H H' : Hp} {q : Addr} {xs : List V} (hq : H q = some (.lst xs)) (s : ∀ b, b ≠ q → ∀ o, H b = some o → H' b = some o) {vs : List V} {ps : List Pc} (h : PcsV C H vs ps) : PcsV C H' vs ps := by
  induction h with
  | nil => exact .nil
  | cons h _ ih => exact .cons (h.keep hq s) ih
theorem PcsV.mono {C : Addr} {H H' : Hp} {vs : List V} {ps : List Pc} (h : PcsV C H vs ps) (s : SmT H H') : PcsV C H' vs ps := by
  induction h with
  | nil => exact .nil
  | cons h _ ih => exact .cons (h.mono s) ih
theorem PcsV.snoc {C : Addr} {H : Hp} {vs : List V} {ps : List Pc} {v : V} {p : Pc} (h : PcsV C H vs ps) (h2 : PcV C H v p) : PcsV C H (vs ++ [v]) (ps ++ [p]) := by
  induction h with
  | nil => exact .cons h2 .nil
  | cons h _ ih => exact .cons h ih
theorem map_snoc {o : Option (List Pc)} {ps : List Pc} {p : Pc} : (o.map (p :: ·)).map (ps ++ ·) = o.map ((ps ++ [p]) ++ ·) := by
  cases o with
  | none => rfl
  | some x => simp
end
end My

namespace My
open PySem PySem.Spec PyProof.Rows L2
local macro_rules | `(tactic| walk_at "hp") => `(tactic| first | assumption | exact upd_same | (refine Eq.trans (upd_ne (by first | assumption | (apply Ne.symm; assumption))) ?_; walk_at "hp"))
local macro_rules | `(tactic| walk_at "ixl") => `(tactic| (refine' ⟨_, ?xs, _, ?vv, rfl, rfl, SqL.of ?hh, ?aa, ?qq⟩; (case hh => walk_at "hp"); (case aa => rfl)))
local macro_rules | `(tactic| walk_at "setl") => `(tactic| (refine' ⟨_, ?xs, _, ?jj, rfl, rfl, ?hh, ?aa, ?qq⟩; (case hh => walk_at "hp"); (case aa => rfl)))
local macro_rules | `(tactic| walk_at "cond") => `(tactic| first | exact ⟨_, rfl⟩ | exact Nat.le_of_lt (small1000 (Nat.le_of_ble_eq_true rfl)) | decide | omega | (dsimp only; omega) | exact ⟨by decide, by decide⟩ | exact Or.inr ⟨by decide, by decide⟩ | exact Or.inl ⟨by decide, by decide⟩ | exact ⟨by decide, by decide, by decide⟩ | exact ⟨by omega, by omega⟩ | exact ⟨by omega, by omega, by omega⟩ | (simp only [List.length_cons, List.length_nil, List.length_append, List.length_take, List.length_drop]; omega) | (refine ⟨?_, ?_, ?_⟩ <;> first | decide | omega | (simp only [List.length_cons, List.length_nil, List.length_append, List.length_take, List.length_drop, Option.getD_some, Option.getD_none]; omega)))
local macro_rules | `(tactic| walk_at "st") => `(tactic| repeat (first | refine ⟨_, rfl, ?_⟩ | refine ⟨_, _, rfl, rfl, ?_⟩ | walk_at "ixl" | walk_at "setl" | refine ⟨rfl, ?_⟩ | refine Or.inl ⟨_, rfl, ?_⟩ | refine And.intro (by walk_at "cond") ?_))
theorem FnOk.cong {P : Program} {w : World} {K : PySem.W.Frag} {mg : Str → Option Value} {base : Heap} {CX : CXT} {k : Nat} {f : Addr} {fd fd' : FuncData} {ps : List Str} {sp : Sp} (e : fd' = fd) (h : FnOk P w K mg base CX k f fd ps sp) : FnOk P w K mg base CX k f fd' ps sp := by
  rw [e]; exact h
theorem cut_from {l : List Nat} {n : Nat} {i : Int} (h : i = (n : Int)) : SL.cutL l (some i) none = l.drop n := by
  subst h
  show l.drop (n : Int).toNat = _
  rw [Int.toNat_natCast]
theorem cut_one {l : List Nat} {n : Nat} {i : Int} (h : i = (n : Int) + 1) : SL.cutL l (some (n : Int)) (some i) = (l.drop n).take 1 := by
  subst h
  show (l.take ((n : Int) + 1).toNat).drop (n : Int).toNat = _
  rw [show ((n : Int) + 1).toNat = n + 1 by omega, Int.toNat_natCast, List.drop_take, show n + 1 - n = 1 by omega]
theorem leadN_le : ∀ (l : List Nat), (leadN l).length ≤ l.length
  | [] => Nat.zero_le _
  | c :: r => by
    show (if c ∈ DIG then [] else (c :: r).takeWhile wordc).length ≤ _
    by_cases h : c ∈ DIG
    · rw [if_pos h]; exact Nat.zero_le _
    · rw [if_neg h]; exact (List.takeWhile_sublist _).length_le
section
variable {P : Program} {w : World} {K : PySem.W.Frag} {mg : Str → Option Value} {base : Heap}
def spWid (PW : Addr) : Sp := fun vs H Q _ => Hd (∃ d, vs = [.str (SX.S d)] ∧ d.length ≤ 100000 ∧ GxR.TabG H PW ∧ ∀ H', SmT H H' → Q (.bl (isW d)) H')
theorem ok_width (T : Txt K mg) (TB : GxR.TabB base mg T.cW T.PW) : FnOk P w K mg base CX0 1 T.f_is_width T.fd_is_width ["digits"] (spWid T.PW) := by
  obtain ⟨oc, od, kV, doc, pm, an, ct, osl, efd, lk, hcd⟩ := T.W_ex
  rw [efd] at lk
  refine FnOk.cong efd (fn_of lk hcd sc_is_width (fun vs H Q E h => ?_) fun A outer s H vs Q E hr h => ?_)
  · obtain ⟨d, rfl, _⟩ := h.out
    rfl
  · obtain ⟨d, rfl, hz, hT, k⟩ := h.out
    refine ⟨_, PSs.nox (pss_one (ps_ret (pe_and (pe_cmpR op_lt (pe_callB SL.call_lenL (by rfl) T.B.n_len (by decide +kernel) (pa_cons (pv 0) pa_nil)) pe_int (nomark _)) (pe_and (pe_not (pe_bm PySem.F.plainAttrs_str PySem.F.slot_str_startswith PySem.F.type_str_startswith SL.mt_swL (pv 0) (pa_cons (SL.pe_strL [48] (by decide +kernel)) pa_nil))) (pe_one (GY.pe_allG hr rfl T.B.n_all (by decide +kernel) TB rfl (GY.genS_by rfl rfl rfl rfl (by decide +kernel)) (pv 0) (GY.elt_inG rfl rfl rfl T.k_DIGITS) (fun _ => rfl))))))), ?_⟩
    walk_at "st"
    have e0 : isW d = (decide (d.length < 3) && (!decide (d.take 1 = [48]) && d.all fun c => decide (c ∈ DIG))) := rfl
    by_cases h1 : d.length < 3
    · refine if_true_of (decide_eq_true (by omega)) ?_
      walk_at "st"
      rw [decide_eq_true h1] at e0
      by_cases h2 : d.take 1 = [48]
      · rw [decide_eq_true h2] at e0
        refine if_false_of (by rw [decide_eq_true (show d.take [48].length = [48] from h2)]; rfl) ?_
        have := k H (SmT.refl H)
        rw [e0] at this
        exact this
      · rw [decide_eq_false h2] at e0
        refine if_true_of (by rw [decide_eq_false (show ¬ d.take [48].length = [48] from h2)]; rfl) ?_
        refine ⟨_, rfl, SX.S d, rfl, hT, fun H2 tb => ?_⟩
        have := k H2 (.of hT tb)
        rw [e0] at this
        exact this
    · refine if_false_of (decide_eq_false (by omega)) ?_
      rw [decide_eq_false h1] at e0
      have := k H (SmT.refl H)
      rw [e0] at this
      exact this
def al3 : List V := [.str (SX.S [60]), .str (SX.S [62]), .str (SX.S [94])]
theorem inV_al {l : List Nat} : inV (.str (SX.S l)) al3 = isAl l := by
  unfold al3 inV isAl
  have e : ∀ m : List Nat, eqV (.str (SX.S m)) (.str (SX.S l)) = decide (l = m) := fun m => by
    show (SX.S m == SX.S l) = _
    rw [SX.S_beq_eq, decide_eq_decide]
    exact ⟨fun h => h.symm, fun h => h.symm⟩
  simp only [List.any_cons, List.any_nil, e, Bool.or_false]
theorem take1_of {l : List Nat} {c : Nat} (h : l[0]? = some c) : l.take 1 = [c] := by
  cases l with
  | nil => cases h
  | cons d r => rw [← Option.some.inj h]; rfl
def spSplit : Sp := fun vs H Q _ => Hd (∃ s : List Nat, vs = [.str (SX.S s)] ∧ s.length ≤ 100000 ∧ s ≠ [] ∧
  ∀ (p : Addr), H p = none → Q (.ref p) (upd H p (.tup [.str (SX.S (bsplit s).1), .str (SX.S (bsplit s).2.1), .str (SX.S (bsplit s).2.2)])))
theorem ok_split (T : Txt K mg) : FnOk P w K mg base CX0 1 T.f_split_spec T.fd_split_spec ["spec"] spSplit := by
  refine T.D_split_spec.F.ok sc_split_spec (fun vs H Q E h => ?_) (fun cdv A outer s H vs Q E hr h => ?_)
  · obtain ⟨d, rfl, _⟩ := h.out
    rfl
  · obtain ⟨l, rfl, hz, hne, k⟩ := h.out
    refine ⟨_, (pss_cons (ps_if (pt_cmpR op_in_seq (pe_slice SL.sl_L (pv 0) (po_some pe_int) (po_some pe_int)) (C8.pe_gc rfl T.k_ALIGNS) rfl)
    (pss_one (ps_ret (pe_tup (pa_cons (pe_ix SL.ix_strL (pv 0) pe_int (fun _ _ => rfl)) (pa_cons (pe_ix SL.ix_strL (pv 0) pe_int (fun _ _ => rfl)) (pa_cons (pe_slice SL.sl_L (pv 0) (po_some pe_int) po_none) pa_nil))))))
    pss_nil)
  (pss_cons (ps_if (pt_cmpR op_in_seq (pe_ix SL.ix_strL (pv 0) pe_int (fun _ _ => rfl)) (C8.pe_gc rfl T.k_ALIGNS) rfl)
    (pss_one (ps_ret (pe_tup (pa_cons (SL.pe_strL [32] (by decide +kernel)) (pa_cons (pe_ix SL.ix_strL (pv 0) pe_int (fun _ _ => rfl)) (pa_cons (pe_slice SL.sl_L (pv 0) (po_some pe_int) po_none) pa_nil))))))
    pss_nil)
  (pss_one (ps_ret (pe_tup (pa_cons (SL.pe_strL [32] (by decide +kernel)) (pa_cons (SL.pe_strL [] (by decide +kernel)) (pa_cons (pv 0) pa_nil)))))))), ?_⟩
    walk_at "st"
    have c1 : SL.cutL l (some 1) (some 2) = (l.drop 1).take 1 := cut_one (n := 1) rfl
    rw [c1]
    have hl0 : 0 < l.length := List.length_pos_iff.mpr hne
    have h0 : l[0]? = some l[0] := List.getElem?_eq_getElem hl0
    refine ⟨T.aAL, al3, rfl, .inr (T.t_ALIGNS H), rfl, rfl, ?_⟩
    rw [inV_al]
    refine ⟨isAl ((l.drop 1).take 1), rfl, ?_⟩
    by_cases a1 : isAl ((l.drop 1).take 1) = true
    · refine if_true_of a1 ?_
      have hl : 1 < l.length := by
        rcases Nat.lt_or_ge 1 l.length with z | z
        · exact z
        · rw [List.drop_eq_nil_of_le z] at a1; cases a1
      have eb : bsplit l = (l.take 1, (l.drop 1).take 1, l.drop 2) := if_pos a1
      have h1 : l[1]? = some l[1] := List.getElem?_eq_getElem hl
      walk_at "st"
      intro c hc
      rw [take1_of hc] at eb
      walk_at "st"
      intro c2 hc2
      have e2 : (l.drop 1).take 1 = [c2] := take1_of (by rw [List.getElem?_drop]; exact hc2)
      rw [e2] at eb
      walk_at "st"
      intro p hp
      have c3 : SL.cutL l (some 2) none = l.drop 2 := cut_from rfl
      rw [c3]
      have := k p hp
      rw [eb] at this
      exact this
    · refine if_false_of (Bool.not_eq_true _ ▸ a1) ?_
      walk_at "st"
      intro c hc
      have e1 := take1_of hc
      walk_at "st"
      refine ⟨T.aAL, al3, rfl, .inr (T.t_ALIGNS H), rfl, rfl, ?_⟩
      rw [inV_al, ← e1]
      refine ⟨isAl (l.take 1), rfl, ?_⟩
      by_cases a2 : isAl (l.take 1) = true
      · refine if_true_of a2 ?_
        have eb : bsplit l = ([32], l.take 1, l.drop 1) := by
          unfold bsplit
          rw [if_neg a1, if_pos a2]
        walk_at "st"
        intro c' hc'
        walk_at "st"
        intro p hp
        have c3 : SL.cutL l (some 1) none = l.drop 1 := cut_from rfl
        rw [c3]
        have := k p hp
        rw [eb, take1_of hc'] at this
        exact this
      · refine if_false_of (Bool.not_eq_true _ ▸ a2) ?_
        have eb : bsplit l = ([32], [], l) := by
          unfold bsplit
          rw [if_neg a1, if_neg a2]
        walk_at "st"
        intro p hp
        have := k p hp
        rw [eb] at this
        exact this
end
end My

namespace My
open PySem PySem.Spec PyProof.Rows L2
local macro_rules | `(tactic| walk_at "hp") => `(tactic| first | assumption | exact upd_same | (refine Eq.trans (upd_ne (by first | assumption | (apply Ne.symm; assumption))) ?_; walk_at "hp"))
local macro_rules | `(tactic| walk_at "ixl") => `(tactic| (refine' ⟨_, ?xs, _, ?vv, rfl, rfl, SqL.of ?hh, ?aa, ?qq⟩; (case hh => walk_at "hp"); (case aa => rfl)))
local macro_rules | `(tactic| walk_at "setl") => `(tactic| (refine' ⟨_, ?xs, _, ?jj, rfl, rfl, ?hh, ?aa, ?qq⟩; (case hh => walk_at "hp"); (case aa => rfl)))
local macro_rules | `(tactic| walk_at "cond") => `(tactic| first | exact ⟨_, rfl⟩ | exact Nat.le_of_lt (small1000 (Nat.le_of_ble_eq_true rfl)) | decide | omega | (dsimp only; omega) | exact ⟨by decide, by decide⟩ | exact Or.inr ⟨by decide, by decide⟩ | exact Or.inl ⟨by decide, by decide⟩ | exact ⟨by decide, by decide, by decide⟩ | exact ⟨by omega, by omega⟩ | exact ⟨by omega, by omega, by omega⟩ | (simp only [List.length_cons, List.length_nil, List.length_append, List.length_take, List.length_drop]; omega) | (refine ⟨?_, ?_, ?_⟩ <;> first | decide | omega | (simp only [List.length_cons, List.length_nil, List.length_append, List.length_take, List.length_drop, Option.getD_some, Option.getD_none]; omega)))
local macro_rules | `(tactic| walk_at "st") => `(tactic| repeat (first | refine ⟨_, rfl, ?_⟩ | refine ⟨_, _, rfl, rfl, ?_⟩ | walk_at "ixl" | walk_at "setl" | refine ⟨rfl, ?_⟩ | refine Or.inl ⟨_, rfl, ?_⟩ | refine And.intro (by walk_at "cond") ?_))
theorem if_rest {c : Bool} {t : TS} {D : Ends} {σ : L2.St} {H : Hp} (Mid : L2.St → Hp → Prop) (h2 : ∀ σ' H', Mid σ' H' → D.nx σ' H') (h1 : ∀ R : L2.St → Hp → Prop, (∀ σ' H', Mid σ' H' → R σ' H') → c = true → t { nx := R, rt := D.rt, bk := D.bk, ct := D.ct } σ H)
    (h3 : c = false → Mid σ H) : if c = true then t D σ H else tNext D σ H := by
  cases c with
  | true => exact h1 D.nx h2 rfl
  | false => exact h2 _ _ (h3 rfl)
theorem or_rest {c c2 : Bool} {t : TS} {tt : TT} {D : Ends} {σ : L2.St} {H : Hp} (Mid : L2.St → Hp → Prop) (h2 : ∀ σ' H', Mid σ' H' → D.nx σ' H')
    (ht : ∀ Kk : Bool → Hp → Prop, Kk c2 H → tt σ H Kk) (h1 : ∀ R : L2.St → Hp → Prop, (∀ σ' H', Mid σ' H' → R σ' H') → (c = true ∨ c2 = true) → t { nx := R, rt := D.rt, bk := D.bk, ct := D.ct } σ H)
    (h3 : c = false → c2 = false → Mid σ H) : if c = true then (if true = true then t D σ H else tNext D σ H) else tt σ H (fun b H1 => if b = true then t D σ H1 else tNext D σ H1) := by
  cases c with
  | true => exact h1 D.nx h2 (.inl rfl)
  | false =>
    refine ht _ ?_
    cases c2 with
    | true => exact h1 D.nx h2 (.inr rfl)
    | false => exact h2 _ _ (h3 rfl rfl)
theorem isW_dig {d : List Nat} (h : isW d = true) : ∀ c ∈ d, 48 ≤ c ∧ c ≤ 57 := by
  unfold isW at h
  simp only [Bool.and_eq_true, List.all_eq_true, decide_eq_true_eq] at h
  have k : ∀ c ∈ DIG, 48 ≤ c ∧ c ≤ 57 := by decide +kernel
  exact fun c hc => k c (h.2.2 c hc)
theorem isW_len {d : List Nat} (h : isW d = true) : d.length < 3 := by
  unfold isW at h
  simp only [Bool.and_eq_true, decide_eq_true_eq] at h
  exact h.1
theorem bsplit_len (s : List Nat) : (bsplit s).2.2.length ≤ s.length := by
  unfold bsplit
  split
  · show (s.drop 2).length ≤ _; rw [List.length_drop]; omega
  · split
    · show (s.drop 1).length ≤ _; rw [List.length_drop]; omega
    · exact Nat.le_refl _
theorem made_t {H H3 : Hp} {x dx : Addr} {o o' : HO} (hx : H x = none) (hdx : H dx = none) (hk3 : ∀ b, b ≠ x → H3 b = upd (upd H dx o) x o' b) : SmT H H3 :=
  Same.t fun b u e => by
    have b1 : b ≠ x := fun z => by rw [z, hx] at e; cases e
    have b2 : b ≠ dx := fun z => by rw [z, hdx] at e; cases e
    rw [hk3 b b1, upd_ne b1, upd_ne b2]; exact e
section
variable {P : Program} {w : World} {K : PySem.W.Frag} {mg : Str → Option Value} {base : Heap}
def spBF (C PW : Addr) : Sp := fun vs H Q _ => Hd (∃ (i : List Nat), vs = [.str (SX.S i)] ∧ i.length ≤ 100000 ∧ GxR.TabG H PW ∧
  (bfield i = none → ∀ H', SmT H H' → Q .non H') ∧
  (∀ n, bfield i = some n → ∀ (x : Addr) (H' : Hp), H x = none → IsF C H' x n → SmT H H' → Q (.ref x) H'))
theorem ok_bfield (T : Txt K mg) (TB : GxR.TabB base mg T.cW T.PW) : FnOk P w K mg base CX0 4 T.f_brace_field T.fd_brace_field ["inner"] (spBF T.C_Field T.PW) := by
  have G_leading_name : FnOk P w K mg base CX0 2 _ _ _ spLead := ok_lead T
  have G_split_spec : FnOk P w K mg base CX0 1 _ _ _ spSplit := ok_split T
  have G_is_width : FnOk P w K mg base CX0 1 _ _ _ (spWid T.PW) := ok_width T TB
  have G_Field : FnOk P w K mg base CX0 1 _ _ _ (spFld T.C_Field) := ok_Field T
  obtain ⟨dsF2, hdF2, hbF2⟩ := bi_Field2 T
  obtain ⟨dsF5, hdF5, hbF5⟩ := bi_Field5 T
  refine T.D_brace_field.F.ok sc_brace_field (fun vs H Q E h => ?_) (fun cdv A outer s H vs Q E hr h => ?_)
  · obtain ⟨i, rfl, _⟩ := h.out
    rfl
  · obtain ⟨i, rfl, hz, hT, kN, kF⟩ := h.out
    refine ⟨_, (pss_cons (ps_set (i := 1) sc_brace_field.nd rfl (by first | exact Or.inl rfl | exact Or.inr rfl) (pe_call G_leading_name (hr.mono (by first | decide | omega)) rfl T.D_leading_name.g T.D_leading_name.F.kp T.D_leading_name.b .nil pass0 (pa_cons (pv 0) pa_nil)))
  (pss_cons (ps_set (i := 2) sc_brace_field.nd rfl (by first | exact Or.inl rfl | exact Or.inr rfl) (pe_slice SL.sl_L (pv 0) (po_some (pe_callB SL.call_lenL (by rfl) T.B.n_len (by decide +kernel) (pa_cons (pv 1) pa_nil))) po_none))
  (pss_cons (ps_set (i := 3) sc_brace_field.nd rfl (by first | exact Or.inl rfl | exact Or.inr rfl) (SL.pe_strL [] (by decide +kernel)))
  (pss_cons (ps_if (PW.pt (pw_or (pt_val (pe_bm PySem.F.plainAttrs_str PySem.F.slot_str_startswith PySem.F.type_str_startswith SL.mt_swL (pv 2) (pa_cons (SL.pe_strL [33, 114] (by decide +kernel)) pa_nil))) (pw_or1 (pt_val (pe_bm PySem.F.plainAttrs_str PySem.F.slot_str_startswith PySem.F.type_str_startswith SL.mt_swL (pv 2) (pa_cons (SL.pe_strL [33, 115] (by decide +kernel)) pa_nil))))))
    (pss_cons (ps_set (i := 3) sc_brace_field.nd rfl (by first | exact Or.inl rfl | exact Or.inr rfl) (pe_ix SL.ix_strL (pv 2) pe_int (fun _ _ => rfl)))
  (pss_one (ps_set (i := 2) sc_brace_field.nd rfl (by first | exact Or.inl rfl | exact Or.inr rfl) (pe_slice SL.sl_L (pv 2) (po_some pe_int) po_none))))
    pss_nil)
  (pss_cons (ps_if (pt_cmpR SL.op_eqL (pv 1) (SL.pe_strL [] (by decide +kernel)) (nomark _))
    (pss_one (ps_ret pe_non))
    pss_nil)
  (pss_cons (ps_if (pt_cmpR SL.op_eqL (pv 2) (SL.pe_strL [] (by decide +kernel)) (nomark _))
    (pss_one (ps_ret (pe_make T.M_Field G_Field (hr.mono (by first | decide | omega)) rfl T.g_Field hbF2 hdF2 pass0 (pa_cons (pv 1) (pa_cons (pv 3) pa_nil)))))
    pss_nil)
  (pss_cons (ps_if (PW.pt (pw_or (pt_cmpR SL.op_neL (pe_ix SL.ix_strL (pv 2) pe_int (fun _ _ => rfl)) (SL.pe_strL [58] (by decide +kernel)) (nomark _)) (pw_or1 (pt_cmpR SL.op_eqL (pv 2) (SL.pe_strL [58] (by decide +kernel)) (nomark _)))))
    (pss_one (ps_ret pe_non))
    pss_nil)
  (pss_cons (ps_asg (pe_call G_split_spec (hr.mono (by first | decide | omega)) rfl T.D_split_spec.g T.D_split_spec.F.kp T.D_split_spec.b .nil pass0 (pa_cons (pe_slice SL.sl_L (pv 2) (po_some pe_int) po_none) pa_nil)) (pg_tup rfl (pgs_cons (pg_name (i := 4) sc_brace_field.nd rfl (by first | exact Or.inl rfl | exact Or.inr rfl)) (pgs_cons (pg_name (i := 5) sc_brace_field.nd rfl (by first | exact Or.inl rfl | exact Or.inr rfl)) (pgs_cons (pg_name (i := 6) sc_brace_field.nd rfl (by first | exact Or.inl rfl | exact Or.inr rfl)) pgs_nil)))))
  (pss_cons (ps_if (PW.pt (pw_or (pt_cmpR SL.op_eqL (pv 4) (SL.pe_strL [123] (by decide +kernel)) (nomark _)) (pw_or1 (pt_not (pt_val (pe_call G_is_width (hr.mono (by first | decide | omega)) rfl T.D_is_width.g T.D_is_width.F.kp T.D_is_width.b .nil pass0 (pa_cons (pv 6) pa_nil)))))))
    (pss_one (ps_ret pe_non))
    pss_nil)
  (pss_one (ps_ret (pe_make T.M_Field G_Field (hr.mono (by first | decide | omega)) rfl T.g_Field hbF5 hdF5 pass0 (pa_cons (pv 1) (pa_cons (pv 3) (pa_cons (pv 4) (pa_cons (pv 5) (pa_cons (pe_ifExp (pt_cmpR SL.op_eqL (pv 6) (SL.pe_strL [] (by decide +kernel)) (nomark _)) pe_int (pe_callTy SL.call_intL (by rfl) T.B.n_int (by decide +kernel) (pa_cons (pv 6) pa_nil))) pa_nil))))))))))))))))), ?_⟩
    walk_at "st"
    refine .a ⟨i, rfl, hz, ?_⟩
    walk_at "st"
    have hl := leadN_le i
    have c1 : SL.cutL i (some ((leadN i).length : Int)) none = i.drop (leadN i).length := cut_from rfl
    refine ⟨by omega, ?_⟩
    walk_at "st"
    rw [c1]
    have hrl : (i.drop (leadN i).length).length ≤ 100000 := by rw [List.length_drop]; omega
    have ebf : bfield i = if leadN i = [] then none else if bway (i.drop (leadN i).length) = [] then some (leadN i)
      else if (bway (i.drop (leadN i).length)).take 1 ≠ [58] ∨ bway (i.drop (leadN i).length) = [58] then none
      else if bspec ((bway (i.drop (leadN i).length)).drop 1) = true then some (leadN i) else none := rfl
    generalize i.drop (leadN i).length = r at hrl ebf ⊢
    refine or_rest (c2 := decide (r.take 2 = [33, 115])) (fun σ' H' => ∃ wv : List Nat, σ' = [some (.str (SX.S i)), some (.str (SX.S (leadN i))), some (.str (SX.S (bway r))), some (.str (SX.S wv)), none, none, none] ∧ H' = H) ?_ ?_ ?_ ?_
    · rintro σ' H' ⟨wv, rfl, rfl⟩
      have hbl : (bway r).length ≤ 100000 := by
        unfold bway
        split
        · rw [List.length_drop]; omega
        · exact hrl
      generalize bway r = b at hbl ebf ⊢
      walk_at "st"
      by_cases h1 : leadN i = []
      · refine if_true_of (decide_eq_true h1) ?_
        rw [if_pos h1] at ebf
        exact kN ebf _ (SmT.refl _)
      · refine if_false_of (decide_eq_false h1) ?_
        rw [if_neg h1] at ebf
        walk_at "st"
        by_cases h2 : b = []
        · refine if_true_of (decide_eq_true h2) ?_
          rw [if_pos h2] at ebf
          walk_at "st"
          intro x dx hx hdx hxd
          refine .a ⟨x, dx, leadN i, _, _, _, _, rfl, upd_same, fun H3 hF hk3 => ⟨rfl, ?_⟩⟩
          exact kF _ ebf x H3 hx hF (made_t hx hdx hk3)
        · refine if_false_of (decide_eq_false h2) ?_
          rw [if_neg h2] at ebf
          have hb0 : 0 < b.length := List.length_pos_iff.mpr h2
          walk_at "st"
          intro c hc
          have ec := take1_of hc
          walk_at "st"
          by_cases h3 : c = 58
          · subst h3
            refine if_false_of (by decide) ?_
            walk_at "st"
            by_cases h4 : b = [58]
            · refine if_true_of (decide_eq_true h4) ?_
              rw [if_pos (.inr h4)] at ebf
              walk_at "st"
              exact kN ebf _ (SmT.refl _)
            · refine if_false_of (decide_eq_false h4) ?_
              rw [if_neg (fun z => z.elim (fun z => z ec) h4)] at ebf
              have hs : b.drop 1 ≠ [] := fun z => h4 (by rw [← List.take_append_drop 1 b, ec, z]; rfl)
              have hsl : (b.drop 1).length ≤ 100000 := by rw [List.length_drop]; omega
              walk_at "st"
              have c2 : SL.cutL b (some 1) none = b.drop 1 := cut_from rfl
              rw [c2]
              generalize b.drop 1 = sp at hs hsl ebf ⊢
              refine .a ⟨sp, rfl, hsl, hs, fun q hq => ?_⟩
              walk_at "st"
              have hS : Same H' (upd H' q (.tup [.str (SX.S (bsplit sp).1), .str (SX.S (bsplit sp).2.1), .str (SX.S (bsplit sp).2.2)])) := same_new hq
              have hq2 : (upd H' q (.tup [.str (SX.S (bsplit sp).1), .str (SX.S (bsplit sp).2.1), .str (SX.S (bsplit sp).2.2)])) q = some (.tup [.str (SX.S (bsplit sp).1), .str (SX.S (bsplit sp).2.1), .str (SX.S (bsplit sp).2.2)]) := upd_same
              generalize upd H' q (.tup [.str (SX.S (bsplit sp).1), .str (SX.S (bsplit sp).2.1), .str (SX.S (bsplit sp).2.2)]) = H2 at hS hq2 ⊢
              have hT2 := (Same.t hS).tab hT
              have hdl := bsplit_len sp
              refine ⟨q, _, rfl, SqT.of hq2, rfl, _, _, rfl, _, _, rfl, _, _, rfl, rfl, ?_⟩
              walk_at "st"
              have eb : bspec sp = (!decide ((bsplit sp).1 = [123]) && isW (bsplit sp).2.2) := rfl
              rw [eb] at ebf
              by_cases h5 : (bsplit sp).1 = [123]
              · refine if_true_of (decide_eq_true h5) ?_
                rw [decide_eq_true h5, if_neg (by simp)] at ebf
                exact kN ebf _ (Same.t hS)
              · refine if_false_of (decide_eq_false h5) ?_
                rw [decide_eq_false h5] at ebf
                walk_at "st"
                refine .a ⟨_, rfl, by omega, hT2, fun H3 s3 => ?_⟩
                walk_at "st"
                have hS3 := (Same.t hS).trans s3
                cases hw : isW (bsplit sp).2.2 with
                | false =>
                  rw [hw, if_neg (by decide)] at ebf
                  refine if_true_of rfl ?_
                  exact kN ebf _ hS3
                | true =>
                  rw [hw, if_pos (by decide)] at ebf
                  refine if_false_of rfl ?_
                  walk_at "st"
                  by_cases h6 : (bsplit sp).2.2 = []
                  · refine if_true_of (decide_eq_true h6) ?_
                    walk_at "st"
                    intro x dx hx hdx hxd
                    refine .a ⟨x, dx, leadN i, _, _, _, _, rfl, upd_same, fun H4 hF hk3 => ⟨rfl, ?_⟩⟩
                    exact kF _ ebf x H4 (hS3.free hx) hF (hS3.trans (made_t hx hdx hk3))
                  · refine if_false_of (decide_eq_false h6) ?_
                    walk_at "st"
                    have hl3 := isW_len hw
                    refine ⟨isW_dig hw, h6, by omega, fun nn => ?_⟩
                    walk_at "st"
                    intro x dx hx hdx hxd
                    refine .a ⟨x, dx, leadN i, _, _, _, _, rfl, upd_same, fun H4 hF hk3 => ⟨rfl, ?_⟩⟩
                    exact kF _ ebf x H4 (hS3.free hx) hF (hS3.trans (made_t hx hdx hk3))
          · refine if_true_of (by simpa using h3) ?_
            rw [if_pos (.inl (by rw [ec]; simpa using h3))] at ebf
            exact kN ebf _ (SmT.refl _)
    · intro Kk hk
      walk_at "st"
      exact hk
    · intro R hR hc
      have er : bway r = r.drop 2 := by
        unfold bway
        rw [if_pos]
        rcases hc with hc | hc
        · exact .inl (of_decide_eq_true hc)
        · exact .inr (of_decide_eq_true hc)
      have hl2 : 2 ≤ r.length := by
        have e : (r.take 2).length = 2 := by
          rcases hc with hc | hc
          · rw [show r.take 2 = [33, 114] from of_decide_eq_true hc]; rfl
          · rw [show r.take 2 = [33, 115] from of_decide_eq_true hc]; rfl
        rw [List.length_take] at e
        omega
      walk_at "st"
      intro c hc
      walk_at "st"
      have c2 : SL.cutL r (some 2) none = r.drop 2 := cut_from rfl
      rw [c2]
      exact hR _ _ ⟨[c], by rw [er]; rfl, rfl⟩
    · intro h1 h2
      have er : bway r = r := by
        unfold bway
        rw [if_neg]
        intro z
        rcases z with z | z
        · exact of_decide_eq_false h1 z
        · exact of_decide_eq_false h2 z
      exact ⟨[], by rw [er]; rfl, rfl⟩
end
end My

namespace My
open PySem PySem.Spec PyProof.Rows L2
local macro_rules | `(tactic| walk_at "hp") => `(tactic| first | assumption | exact upd_same | (refine Eq.trans (upd_ne (by first | assumption | (apply Ne.symm; assumption))) ?_; walk_at "hp"))
local macro_rules | `(tactic| walk_at "ixl") => `(tactic| (refine' ⟨_, ?xs, _, ?vv, rfl, rfl, SqL.of ?hh, ?aa, ?qq⟩; (case hh => walk_at "hp"); (case aa => rfl)))
local macro_rules | `(tactic| walk_at "setl") => `(tactic| (refine' ⟨_, ?xs, _, ?jj, rfl, rfl, ?hh, ?aa, ?qq⟩; (case hh => walk_at "hp"); (case aa => rfl)))
local macro_rules | `(tactic| walk_at "cond") => `(tactic| first | exact ⟨_, rfl⟩ | exact Nat.le_of_lt (small1000 (Nat.le_of_ble_eq_true rfl)) | decide | omega | (dsimp only; omega) | exact ⟨by decide, by decide⟩ | exact Or.inr ⟨by decide, by decide⟩ | exact Or.inl ⟨by decide, by decide⟩ | exact ⟨by decide, by decide, by decide⟩ | exact ⟨by omega, by omega⟩ | exact ⟨by omega, by omega, by omega⟩ | (simp only [List.length_cons, List.length_nil, List.length_append, List.length_take, List.length_drop]; omega) | (refine ⟨?_, ?_, ?_⟩ <;> first | decide | omega | (simp only [List.length_cons, List.length_nil, List.length_append, List.length_take, List.length_drop, Option.getD_some, Option.getD_none]; omega)))
local macro_rules | `(tactic| walk_at "st") => `(tactic| repeat (first | refine ⟨_, rfl, ?_⟩ | refine ⟨_, _, rfl, rfl, ?_⟩ | walk_at "ixl" | walk_at "setl" | refine ⟨rfl, ?_⟩ | refine Or.inl ⟨_, rfl, ?_⟩ | refine And.intro (by walk_at "cond") ?_))
theorem Bp.inv_nil {o : Option (List Pc)} (h : Bp [] o) : o = some [] := by
  cases h; rfl
theorem Bp.inv_two {c : Nat} {r : List Nat} {o : Option (List Pc)} (h : Bp (c :: r) o) (hc : c = 123 ∨ c = 125) (hr : r.head? = some c) : ∃ o', Bp r.tail o' ∧ o = o'.map (Pc.txt [c] :: ·) := by
  cases h with
  | two _ d => exact ⟨_, d, rfl⟩
  | opn z _ => exact absurd hr z
  | fld z _ _ _ => exact absurd hr z
  | cls z => exact absurd hr z
  | chr h1 h2 _ => exact absurd hc (by simp [h1, h2])
theorem Bp.inv_opn {r : List Nat} {o : Option (List Pc)} (h : Bp (123 :: r) o) (hr : r.head? ≠ some 123) (hn : 125 ∉ r ∨ bfield (inn r) = none) : o = none := by
  cases h with
  | two _ d => exact absurd rfl hr
  | opn _ _ => rfl
  | fld _ z y _ => exact absurd hn (by simp [z, y])
  | chr h1 _ _ => exact absurd rfl h1
theorem Bp.inv_fld {r n : List Nat} {o : Option (List Pc)} (h : Bp (123 :: r) o) (hr : r.head? ≠ some 123) (h1 : 125 ∈ r) (h2 : bfield (inn r) = some n) : ∃ o', Bp (aft r) o' ∧ o = o'.map (Pc.fld n :: ·) := by
  cases h with
  | two _ d => exact absurd rfl hr
  | opn _ z => exact absurd z (by simp [h1, h2])
  | fld _ _ y d => rw [h2] at y; cases y; exact ⟨_, d, rfl⟩
  | chr h1 _ _ => exact absurd rfl h1
theorem Bp.inv_cls {r : List Nat} {o : Option (List Pc)} (h : Bp (125 :: r) o) (hr : r.head? ≠ some 125) : o = none := by
  cases h with
  | two _ d => exact absurd rfl hr
  | cls _ => rfl
  | chr _ h1 _ => exact absurd rfl h1
theorem Bp.inv_chr {c : Nat} {r : List Nat} {o : Option (List Pc)} (h : Bp (c :: r) o) (h1 : c ≠ 123) (h2 : c ≠ 125) : ∃ o', Bp r o' ∧ o = o'.map (Pc.txt [c] :: ·) := by
  cases h with
  | two z _ => exact absurd z (by simp [h1, h2])
  | opn _ _ => exact absurd rfl h1
  | fld _ _ _ _ => exact absurd rfl h1
  | cls _ => exact absurd rfl h2
  | chr _ _ d => exact ⟨_, d, rfl⟩
theorem or_yes {c c2 : Bool} {t u : TS} {tt : TT} {D : Ends} {σ : L2.St} {H : Hp} (ht : ∀ Kk : Bool → Hp → Prop, Kk c2 H → tt σ H Kk) (h : c = true ∨ c2 = true) (hb : t D σ H) :
    if c = true then (if true = true then t D σ H else u D σ H) else tt σ H (fun b H1 => if b = true then t D σ H1 else u D σ H1) := by
  cases c with
  | true => exact hb
  | false =>
    refine ht _ ?_
    rcases h with h | h
    · cases h
    · rw [h]; exact hb
theorem or_no {c c2 : Bool} {t u : TS} {tt : TT} {D : Ends} {σ : L2.St} {H : Hp} (ht : ∀ Kk : Bool → Hp → Prop, Kk c2 H → tt σ H Kk) (h1 : c = false) (h2 : c2 = false) (hb : u D σ H) :
    if c = true then (if true = true then t D σ H else u D σ H) else tt σ H (fun b H1 => if b = true then t D σ H1 else u D σ H1) := by
  subst h1
  refine ht _ ?_
  rw [h2]; exact hb
theorem pair_eq {l : List Nat} {k c : Nat} {r : List Nat} (h : l.drop k = c :: r) (d : Nat) : (l.drop k).take 2 = [d, d] ↔ c = d ∧ r.head? = some d := by
  rw [h]
  cases r with
  | nil => simp
  | cons e s => simp
theorem cut_two {l : List Nat} {n : Nat} {i : Int} (h : i = (n : Int) + 2) : SL.cutL l (some (n : Int)) (some i) = (l.drop n).take 2 := by
  subst h
  show (l.take ((n : Int) + 2).toNat).drop (n : Int).toNat = _
  rw [show ((n : Int) + 2).toNat = n + 2 by omega, Int.toNat_natCast, List.drop_take, show n + 2 - n = 2 by omega]
theorem cut_mid {l r : List Nat} {n c m : Nat} {i j : Int} (h : l.drop n = c :: r) (hi : i = ((n + 1 : Nat) : Int)) (hj : j = ((n + 1 + m : Nat) : Int)) : SL.cutL l (some i) (some j) = r.take m := by
  subst hi hj
  show (l.take ((n + 1 + m : Nat) : Int).toNat).drop ((n + 1 : Nat) : Int).toNat = _
  rw [Int.toNat_natCast, Int.toNat_natCast, List.drop_take, show n + 1 + m - (n + 1) = m by omega]
  have e : l.drop (n + 1) = r := by rw [← List.drop_drop, h]; rfl
  rw [e]
theorem inn_take {r : List Nat} (h : 125 ∈ r) : r.take (inn r).length = inn r := by
  have e := congrArg (List.take (inn r).length) (inn_split h)
  rw [List.take_left] at e
  exact e
section
variable {P : Program} {w : World} {K : PySem.W.Frag} {mg : Str → Option Value} {base : Heap}
def spBP (C CB PW : Addr) : Sp := fun vs H Q E => Hd (∃ (l : List Nat) (o : Option (List Pc)), vs = [.str (SX.S l)] ∧ l.length ≤ 99000 ∧ Bp l o ∧ GxR.TabG H PW ∧
  (o = none → ∀ (d : Addr) (H' : Hp), H' d = some (.xd [("fmt", .str (SX.S l))]) → SmT H H' → E (.ref CB) (some d) H') ∧
  (∀ ps, o = some ps → ∀ (p : Addr) (H' : Hp) (vs : List V), H p = none → H' p = some (.lst vs) → PcsV C H' vs ps → vs.length ≤ l.length → SmT H H' → Q (.ref p) H'))
theorem ok_bpieces (T : Txt K mg) (TB : GxR.TabB base mg T.cW T.PW) : FnOk P w K mg base (L2.CX P w) 5 T.f_brace_pieces T.fd_brace_pieces ["fmt"] (spBP T.C_Field T.c_BadFormat T.PW) := by
  have G_brace_field : FnOk P w K mg base CX0 4 _ _ _ (spBF T.C_Field T.PW) := ok_bfield T TB
  refine T.D_brace_pieces.F.okX sc_brace_pieces (fun vs H Q E h => ?_) (fun cdv A outer s H vs Q E hr h => ?_)
  · obtain ⟨l, o, rfl, _⟩ := h.out
    rfl
  · obtain ⟨l, o, rfl, hz, hD, hT, kE, kQ⟩ := h.out
    refine ⟨_, (pss_cons (ps_set (i := 1) sc_brace_pieces.nd rfl (by first | exact Or.inl rfl | exact Or.inr rfl) (pe_lst pa_nil))
  (pss_cons (ps_set (i := 2) sc_brace_pieces.nd rfl (by first | exact Or.inl rfl | exact Or.inr rfl) pe_int)
  (pss_cons (ps_while (passes_of rfl) (pt_cmpR op_lt (pv 2) (pe_callB SL.call_lenL (by rfl) T.B.n_len (by decide +kernel) (pa_cons (pv 0) pa_nil)) (nomark _))
    (pss_cons (ps_set (i := 3) sc_brace_pieces.nd rfl (by first | exact Or.inl rfl | exact Or.inr rfl) (pe_slice SL.sl_L (pv 0) (po_some (pv 2)) (po_some (pe_op op_add (pv 2) pe_int))))
  (pss_one (ps_if (PW.pt (pw_or (pt_cmpR SL.op_eqL (pv 3) (SL.pe_strL [123, 123] (by decide +kernel)) (nomark _)) (pw_or1 (pt_cmpR SL.op_eqL (pv 3) (SL.pe_strL [125, 125] (by decide +kernel)) (nomark _)))))
    (pss_cons (ps_expr (pe_bm PySem.F.plainAttrs_list PySem.F.slot_list_append PySem.F.type_list_append mt_append (pv 1) (pa_cons (pe_ix SL.ix_strL (pv 0) (pv 2) (fun _ _ => rfl)) pa_nil)))
  (pss_one (ps_aug (i := 2) sc_brace_pieces.nd rfl (by first | exact Or.inl rfl | exact Or.inr rfl) pe_int ip_add)))
    (pss_one (ps_if (pt_cmpR SL.op_eqL (pe_ix SL.ix_strL (pv 0) (pv 2) (fun _ _ => rfl)) (SL.pe_strL [123] (by decide +kernel)) (nomark _))
    (pss_cons (ps_set (i := 4) sc_brace_pieces.nd rfl (by first | exact Or.inl rfl | exact Or.inr rfl) (pe_bm PySem.F.plainAttrs_str PySem.F.slot_str_find PySem.F.type_str_find SL.mt_findL (pv 0) (pa_cons (SL.pe_strL [125] (by decide +kernel)) (pa_cons (pv 2) pa_nil))))
  (pss_cons (ps_set (i := 5) sc_brace_pieces.nd rfl (by first | exact Or.inl rfl | exact Or.inr rfl) (pe_ifExp (pt_cmpR op_gt (pv 4) pe_int (nomark _)) (pe_call G_brace_field (hr.mono (by first | decide | omega)) rfl T.D_brace_field.g T.D_brace_field.F.kp T.D_brace_field.b .nil pass0 (pa_cons (pe_slice SL.sl_L (pv 0) (po_some (pe_op op_add (pv 2) pe_int)) (po_some (pv 4))) pa_nil)) pe_non))
  (pss_cons (ps_if (pt_cmpR op_isN (pv 5) pe_non (nomark _))
    (pss_one (ps_raise rfl (takes_of rfl rfl rfl rfl) (pmk_err T.E_BadFormat hr (pa_cons (pv 0) pa_nil) rfl)))
    pss_nil)
  (pss_cons (ps_expr (pe_bm PySem.F.plainAttrs_list PySem.F.slot_list_append PySem.F.type_list_append mt_append (pv 1) (pa_cons (pv 5) pa_nil)))
  (pss_one (ps_set (i := 2) sc_brace_pieces.nd rfl (by first | exact Or.inl rfl | exact Or.inr rfl) (pe_op op_add (pv 4) pe_int)))))))
    (pss_one (ps_if (pt_cmpR SL.op_eqL (pe_ix SL.ix_strL (pv 0) (pv 2) (fun _ _ => rfl)) (SL.pe_strL [125] (by decide +kernel)) (nomark _))
    (pss_one (ps_raise rfl (takes_of rfl rfl rfl rfl) (pmk_err T.E_BadFormat hr (pa_cons (pv 0) pa_nil) rfl)))
    (pss_cons (ps_expr (pe_bm PySem.F.plainAttrs_list PySem.F.slot_list_append PySem.F.type_list_append mt_append (pv 1) (pa_cons (pe_ix SL.ix_strL (pv 0) (pv 2) (fun _ _ => rfl)) pa_nil)))
  (pss_one (ps_aug (i := 2) sc_brace_pieces.nd rfl (by first | exact Or.inl rfl | exact Or.inr rfl) pe_int ip_add)))))))))))
  (pss_one (ps_ret (pv 1)))))), ?_⟩
    walk_at "st"
    intro p hp
    walk_at "st"
    refine while_ex (fun m σ H1 => ∃ (k : Nat) (vs : List V) (ps : List Pc) (o' : Option (List Pc)) (y1 y2 y3 : Option V), m = l.length + 1 - k ∧ (vs.length ≤ k ∧ vs.length ≤ l.length) ∧ σ = [some (.str (SX.S l)), some (.ref p), some (.int k), y1, y2, y3] ∧ H1 p = some (.lst vs) ∧ PcsV T.C_Field H1 vs ps ∧ SmT H H1 ∧ Bp (l.drop k) o' ∧ o = o'.map (ps ++ ·))
      (fun σ H1 => ∃ (vs : List V) (ps : List Pc) (k : V) (y1 y2 y3 : Option V), σ = [some (.str (SX.S l)), some (.ref p), some k, y1, y2, y3] ∧ H1 p = some (.lst vs) ∧ PcsV T.C_Field H1 vs ps ∧ SmT H H1 ∧ o = some ps ∧ vs.length ≤ l.length) ⟨_, 0, [], [], o, none, none, none, rfl, ⟨Nat.zero_le _, Nat.zero_le _⟩, rfl, upd_same, .nil, (SmT.refl H).new hp, hD, by cases o <;> rfl⟩ ?_ ?_
    · rintro σ H1 ⟨vs, ps, k, y1, y2, y3, rfl, h1, h2, h3, h4, h5⟩
      walk_at "st"
      exact kQ ps h4 p H1 vs hp h1 h2 h5 h3
    · rintro R fin m σ H1 ⟨k, vs, ps, o', y1, y2, y3, rfl, ⟨hvk, hvl⟩, rfl, h1, h2, h3, h4, h5⟩ NW hNW
      walk_at "st"
      by_cases hk : k < l.length
      · refine if_true_of (decide_eq_true (by omega)) ⟨NW, by rw [hNW]; exact fun _ _ => Hd.out, ?_⟩
        have ec : l[k]? = some l[k] := List.getElem?_eq_getElem hk
        have ed : l.drop k = l[k] :: l.drop (k + 1) := List.drop_eq_getElem_cons hk
        generalize l[k] = c at ec ed
        rw [ed] at h4
        walk_at "st"
        have c1 : SL.cutL l (some (k : Int)) (some ((k : Int) + 2)) = (l.drop k).take 2 := cut_two rfl
        rw [c1]
        have hch : ∀ d : Nat, l[Int.toNat (k : Int)]? = some d → d = c := fun d hd => by
          rw [Int.toNat_natCast, ec] at hd; exact (Option.some.inj hd).symm
        by_cases h22 : (c = 123 ∨ c = 125) ∧ (l.drop (k + 1)).head? = some c
        · obtain ⟨o2, d2, e2⟩ := h4.inv_two h22.1 h22.2
          refine or_yes (c2 := decide ((l.drop k).take 2 = [125, 125])) (fun Kk hk => ?_) ?_ ?_
          · walk_at "st"
            exact hk
          · rcases h22 with ⟨rfl | rfl, hh⟩
            · exact .inl (decide_eq_true ((pair_eq ed 123).mpr ⟨rfl, hh⟩))
            · exact .inr (decide_eq_true ((pair_eq ed 125).mpr ⟨rfl, hh⟩))
          · walk_at "st"
            refine ⟨.inl ⟨rfl, _, SqL.of h1⟩, ?_⟩
            walk_at "st"
            intro c2 hc2
            obtain rfl := hch c2 hc2
            walk_at "st"
            refine ⟨_, _, _, rfl, rfl, h1, szl (by omega), ?_⟩
            walk_at "st"
            rw [hNW]
            have hk2 : k + 2 ≤ l.length := by
              cases hh : l.drop (k + 1) with
              | nil => rw [hh] at h22; cases h22.2
              | cons x r =>
                have := congrArg List.length hh
                rw [List.length_drop, List.length_cons] at this; omega
            refine .a ⟨l.length + 1 - (k + 2), by omega, k + 2, _, ps ++ [.txt [c2]], o2, _, _, _, rfl, ?_, rfl, upd_same, (h2.keep h1 keep_put).snoc (show PcV _ _ _ (.txt [c2]) from rfl), put_t h3 hp h1, ?_, ?_⟩
            · rw [List.length_append, List.length_singleton]; exact ⟨by omega, by omega⟩
            · rw [List.tail_drop] at d2; exact d2
            · rw [h5, e2, map_snoc]
        · refine or_no (c2 := decide ((l.drop k).take 2 = [125, 125])) (fun Kk hk => ?_) ?_ ?_ ?_
          · walk_at "st"
            exact hk
          · exact decide_eq_false fun z => h22 (by
              obtain ⟨rfl, hh⟩ := (pair_eq ed 123).mp z
              exact ⟨.inl rfl, hh⟩)
          · exact decide_eq_false fun z => h22 (by
              obtain ⟨rfl, hh⟩ := (pair_eq ed 125).mp z
              exact ⟨.inr rfl, hh⟩)
          · walk_at "st"
            intro c2 hc2
            obtain rfl := hch c2 hc2
            walk_at "st"
            by_cases h123 : c2 = 123
            · subst h123
              refine if_true_of (decide_eq_true rfl) ?_
              have hne : (l.drop (k + 1)).head? ≠ some 123 := fun z => h22 ⟨.inl rfl, z⟩
              walk_at "st"
              refine ⟨l, l.drop (k + 1), k, 123, rfl, rfl, by decide, ed, ?_⟩
              have hdr : (l.drop (k + 1)).length ≤ 99000 := by rw [List.length_drop]; omega
              by_cases hr5 : 125 ∈ l.drop (k + 1)
              · rw [if_pos hr5]
                walk_at "st"
                refine if_true_of (decide_eq_true (by omega)) ?_
                walk_at "st"
                have c3 : SL.cutL l (some ((k : Int) + 1)) (some ((k + 1 + (inn (l.drop (k + 1))).length : Nat) : Int)) = inn (l.drop (k + 1)) := by
                  rw [cut_mid ed (by omega) rfl, inn_take hr5]
                rw [c3]
                have hil : (inn (l.drop (k + 1))).length ≤ (l.drop (k + 1)).length := (List.takeWhile_sublist _).length_le
                refine .a ⟨_, rfl, by omega, h3.tab hT, fun hb H2 s2 => ?_, fun n hb x H2 hx hF s2 => ?_⟩
                · walk_at "st"
                  intro d hd
                  refine kE ?_ d _ upd_same ((h3.trans s2).new ((h3.trans s2).free hd))
                  rw [h5, h4.inv_opn hne (.inr hb)]; rfl
                · have hp2 : H2 p = some (.lst vs) := s2.st _ _ h1 rfl
                  obtain ⟨o2, d2, e2⟩ := h4.inv_fld hne hr5 hb
                  walk_at "st"
                  refine ⟨.inl ⟨rfl, _, SqL.of hp2⟩, ?_⟩
                  walk_at "st"
                  refine ⟨_, _, _, rfl, rfl, hp2, szl (by omega), ?_⟩
                  walk_at "st"
                  rw [hNW]
                  have xp : x ≠ p := fun z => by rw [z, h1] at hx; cases hx
                  have hF4 : IsF T.C_Field (upd H2 p (.lst (vs ++ [.ref x]))) x n := by
                    obtain ⟨dx, wv, f, a, d, e⟩ := hF
                    exact ⟨dx, wv, f, a, d, by rw [upd_ne xp]; exact e⟩
                  have had : l.drop (k + 1 + (inn (l.drop (k + 1))).length + 1) = aft (l.drop (k + 1)) := by
                    unfold aft
                    rw [List.drop_drop]
                    rfl
                  have hil2 : (inn (l.drop (k + 1))).length + 1 ≤ (l.drop (k + 1)).length := by
                    have := congrArg List.length (inn_split hr5)
                    rw [List.length_append, List.length_cons] at this
                    omega
                  have hdl : (l.drop (k + 1)).length = l.length - (k + 1) := List.length_drop ..
                  refine .a ⟨l.length + 1 - (k + 1 + (inn (l.drop (k + 1))).length + 1), by omega, k + 1 + (inn (l.drop (k + 1))).length + 1, _, ps ++ [.fld n], o2, _, _, _, rfl, ?_, rfl, upd_same,
                    ((h2.mono s2).keep hp2 keep_put).snoc (show PcV _ _ _ (.fld _) from ⟨x, rfl, hF4⟩), put_t (h3.trans s2) hp hp2, by rw [had]; exact d2, ?_⟩
                  · rw [List.length_append, List.length_singleton]; exact ⟨by omega, by omega⟩
                  · rw [h5, e2, map_snoc]
              · rw [if_neg hr5]
                walk_at "st"
                intro d hd
                refine kE ?_ d _ upd_same (h3.new (h3.free hd))
                rw [h5, h4.inv_opn hne (.inl hr5)]; rfl
            · refine if_false_of (decide_eq_false (by simpa using h123)) ?_
              walk_at "st"
              intro c3 hc3
              obtain rfl := hch c3 hc3
              walk_at "st"
              by_cases h125 : c3 = 125
              · subst h125
                refine if_true_of (decide_eq_true rfl) ?_
                walk_at "st"
                intro d hd
                refine kE ?_ d _ upd_same (h3.new (h3.free hd))
                rw [h5, h4.inv_cls fun z => h22 ⟨.inr rfl, z⟩]; rfl
              · refine if_false_of (decide_eq_false (by simpa using h125)) ?_
                obtain ⟨o2, d2, e2⟩ := h4.inv_chr h123 h125
                walk_at "st"
                refine ⟨.inl ⟨rfl, _, SqL.of h1⟩, ?_⟩
                walk_at "st"
                intro c2 hc2
                obtain rfl := hch c2 hc2
                walk_at "st"
                refine ⟨_, _, _, rfl, rfl, h1, szl (by omega), ?_⟩
                walk_at "st"
                rw [hNW]
                refine .a ⟨l.length + 1 - (k + 1), by omega, k + 1, _, ps ++ [.txt [c2]], o2, _, _, _, rfl, ?_, rfl, upd_same, (h2.keep h1 keep_put).snoc (show PcV _ _ _ (.txt [c2]) from rfl), put_t h3 hp h1, d2, ?_⟩
                · rw [List.length_append, List.length_singleton]; exact ⟨by omega, by omega⟩
                · rw [h5, e2, map_snoc]
      · refine if_false_of (decide_eq_false (by omega)) ?_
        rw [List.drop_eq_nil_of_le (by omega)] at h4
        have e2 := h4.inv_nil
        subst e2
        refine fin _ _ ⟨vs, ps, _, _, _, _, rfl, h1, h2, h3, by rw [h5]; simp, hvl⟩
end
end My

namespace My
open PySem PySem.Spec PyProof.Rows L2
local macro_rules | `(tactic| walk_at "hp") => `(tactic| first | assumption | exact upd_same | (refine Eq.trans (upd_ne (by first | assumption | (apply Ne.symm; assumption))) ?_; walk_at "hp"))
local macro_rules | `(tactic| walk_at "ixl") => `(tactic| (refine' ⟨_, ?xs, _, ?vv, rfl, rfl, SqL.of ?hh, ?aa, ?qq⟩; (case hh => walk_at "hp"); (case aa => rfl)))
local macro_rules | `(tactic| walk_at "setl") => `(tactic| (refine' ⟨_, ?xs, _, ?jj, rfl, rfl, ?hh, ?aa, ?qq⟩; (case hh => walk_at "hp"); (case aa => rfl)))
local macro_rules | `(tactic| walk_at "cond") => `(tactic| first | exact ⟨_, rfl⟩ | exact Nat.le_of_lt (small1000 (Nat.le_of_ble_eq_true rfl)) | decide | omega | (dsimp only; omega) | exact ⟨by decide, by decide⟩ | exact Or.inr ⟨by decide, by decide⟩ | exact Or.inl ⟨by decide, by decide⟩ | exact ⟨by decide, by decide, by decide⟩ | exact ⟨by omega, by omega⟩ | exact ⟨by omega, by omega, by omega⟩ | (simp only [List.length_cons, List.length_nil, List.length_append, List.length_take, List.length_drop]; omega) | (refine ⟨?_, ?_, ?_⟩ <;> first | decide | omega | (simp only [List.length_cons, List.length_nil, List.length_append, List.length_take, List.length_drop, Option.getD_some, Option.getD_none]; omega)))
local macro_rules | `(tactic| walk_at "st") => `(tactic| repeat (first | refine ⟨_, rfl, ?_⟩ | refine ⟨_, _, rfl, rfl, ?_⟩ | walk_at "ixl" | walk_at "setl" | refine ⟨rfl, ?_⟩ | refine Or.inl ⟨_, rfl, ?_⟩ | refine And.intro (by walk_at "cond") ?_))
/-- a walk over a list that stands -/
theorem for_list {K : PySem.W.Frag} {a : Addr} {xs : List V} {g : TG} {tb : TS} {D : Ends} {σ : L2.St} {H : Hp} (W : Nat → L2.St → Hp → Prop) (hst : ∀ i σ H, W i σ H → H a = some (.lst xs)) (h0 : W 0 σ H) (hend : ∀ σ H, W xs.length σ H → D.nx σ H)
    (hs : ∀ (R : L2.St → Hp → Prop) (i : Nat) σ H x, W i σ H → xs[i]? = some x → ∀ N : L2.St → Hp → Prop, N = (fun σ' H' => Hd (W (i + 1) σ' H')) → g x σ H fun σ2 H2 => tb { D with nx := N, ct := N, bk := D.nx } σ2 H2) :
    ∃ W : Nat → Nat → L2.St → Hp → Prop, (∃ m, W 0 m σ H) ∧ ∀ i m σ H, W i m σ H →
      ((Itl K a).stop i H ∧ D.nx σ H) ∨ ((Itl K a).go i H ∧ ∃ N : L2.St → Hp → Prop, (∀ σ' H', N σ' H' → ∃ m', m' < m ∧ W (i + 1) m' σ' H') ∧ ∀ x H', (Itl K a).yld i H x H' → g x σ H' fun σ2 H2 => tb { D with nx := N, ct := N, bk := D.nx } σ2 H2) := by
  refine ⟨fun i m σ H => W i σ H ∧ m = xs.length - i ∧ i ≤ xs.length, ⟨_, h0, rfl, Nat.zero_le _⟩, ?_⟩
  rintro i m σ H ⟨hw, rfl, hi⟩
  have hl := hst i σ H hw
  by_cases hlt : i < xs.length
  · refine .inr ⟨⟨xs, xs[i], SqL.of hl, List.getElem?_eq_getElem hlt⟩, fun σ' H' => Hd (W (i + 1) σ' H'), fun σ' H' z => ⟨xs.length - (i + 1), by omega, z.out, rfl, by omega⟩, ?_⟩
    rintro x H' ⟨rfl, hx⟩
    exact hs D.nx i σ H' x hw (hx xs (SqL.of hl)) _ rfl
  · have e : i = xs.length := by omega
    subst e
    exact .inl ⟨⟨xs, SqL.of hl, Nat.le_refl _⟩, hend σ H hw⟩
theorem PcsV.get {C : Addr} {H : Hp} {vs : List V} {ps : List Pc} (h : PcsV C H vs ps) : ∀ {i : Nat} {v : V}, vs[i]? = some v → ∃ pc, ps[i]? = some pc ∧ PcV C H v pc := by
  induction h with
  | nil => intro i v e; simp at e
  | cons h _ ih =>
    intro i v e
    cases i with
    | zero => exact ⟨_, rfl, by rw [← Option.some.inj e]; exact h⟩
    | succ i => exact ih (i := i) e
theorem PcsV.len {C : Addr} {H : Hp} {vs : List V} {ps : List Pc} (h : PcsV C H vs ps) : vs.length = ps.length := by
  induction h with
  | nil => rfl
  | cons _ _ ih => exact congrArg Nat.succ ih
theorem PcsV.unsnoc {C : Addr} {H : Hp} : ∀ {us : List V} {v : V} {qs : List Pc}, PcsV C H (us ++ [v]) qs → ∃ qs' pc, qs = qs' ++ [pc] ∧ PcsV C H us qs' ∧ PcV C H v pc
  | [], v, _, h => by
    cases h with
    | cons h1 h2 =>
      cases h2
      exact ⟨[], _, rfl, .nil, h1⟩
  | u :: us, v, _, h => by
    cases h with
    | cons h1 h2 =>
      obtain ⟨qs', pc, e, h3, h4⟩ := PcsV.unsnoc (us := us) (v := v) h2
      exact ⟨_ :: qs', pc, by rw [e]; rfl, .cons h1 h3, h4⟩
/-- the signs of all texts -/
def tlen : List Pc → Nat
  | [] => 0
  | .txt l :: r => l.length + tlen r
  | .fld _ :: r => tlen r
theorem tlen_app : ∀ (a b : List Pc), tlen (a ++ b) = tlen a + tlen b
  | [], b => by show tlen b = 0 + tlen b; omega
  | .txt l :: r, b => by show l.length + tlen (r ++ b) = l.length + tlen r + tlen b; rw [tlen_app r b]; omega
  | .fld n :: r, b => tlen_app r b
theorem tlen_take (ps : List Pc) (i : Nat) : tlen (ps.take i) ≤ tlen ps := by
  have := tlen_app (ps.take i) (ps.drop i)
  rw [List.take_append_drop] at this; omega
theorem Bp.tlen_le {l : List Nat} {o : Option (List Pc)} (h : Bp l o) : ∀ ps, o = some ps → tlen ps ≤ l.length := by
  induction h with
  | nil => intro ps e; cases e; exact Nat.le_refl _
  | @two c r o _ _ ih =>
    intro ps e
    cases o with
    | none => cases e
    | some x =>
      have := ih x rfl
      obtain rfl : Pc.txt [c] :: x = ps := Option.some.inj e
      show 1 + tlen x ≤ r.length + 2; omega
  | opn _ _ => intro ps e; cases e
  | @fld r n o _ _ _ _ ih =>
    intro ps e
    cases o with
    | none => cases e
    | some x =>
      have := ih x rfl
      obtain rfl : Pc.fld _ :: x = ps := Option.some.inj e
      have := aft_len r
      show tlen x ≤ r.length + 1; omega
  | cls _ => intro ps e; cases e
  | @chr c r o _ _ _ ih =>
    intro ps e
    cases o with
    | none => cases e
    | some x =>
      have := ih x rfl
      obtain rfl : Pc.txt [c] :: x = ps := Option.some.inj e
      show 1 + tlen x ≤ r.length + 1; omega
section
variable {P : Program} {w : World} {K : PySem.W.Frag} {mg : Str → Option Value} {base : Heap}
def isT : Pc → Bool
  | .txt _ => true
  | .fld _ => false
theorem isi_pc (T : Txt K mg) {H : Hp} {v : V} {pc : Pc} (h : PcV T.C_Field H v pc) : ∃ t, TyX K H v t ∧ PySem.W.kitOne K t (.type "str") = some (isT pc) ∧
    PySem.W.kitOne K t (.ref T.C_Field) = some (!isT pc) := by
  cases pc with
  | txt l =>
    obtain rfl : v = .str (SX.S l) := h
    exact ⟨_, .base (.str _), kit_ty (r := true) (by decide +kernel), T.kSF⟩
  | fld n =>
    obtain ⟨x, rfl, dx, wv, fv, av, dv, hx⟩ := h
    exact ⟨_, .base (.ins hx T.I_Field.cl T.I_Field.ha T.I_Field.hn T.I_Field.htk T.I_Field.hm), T.kFS, T.I_Field.me⟩
def spJoin (C : Addr) : Sp := fun vs H Q _ => Hd (∃ (a : Addr) (xs : List V) (ps : List Pc), vs = [.ref a] ∧ H a = some (.lst xs) ∧ PcsV C H xs ps ∧ tlen ps ≤ 99000 ∧ xs.length ≤ 99000 ∧
  ∀ (q : Addr) (H' : Hp) (us : List V) (qs : List Pc), H q = none → H' q = some (.lst us) → PcsV C H' us qs → nms qs = nms ps → us.length ≤ xs.length → Same H H' → Q (.ref q) H')
theorem ok_joined (T : Txt K mg) : FnOk P w K mg base CX0 1 T.f_joined T.fd_joined ["pieces"] (spJoin T.C_Field) := by
  refine T.D_joined.F.ok sc_joined (fun vs H Q E h => ?_) (fun cdv A outer s H vs Q E hr h => ?_)
  · obtain ⟨a, xs, ps, rfl, _⟩ := h.out
    rfl
  · obtain ⟨a, xs, ps, rfl, ha, hps, ht, hl, k⟩ := h.out
    refine ⟨_, (pss_cons (ps_set (i := 1) sc_joined.nd rfl (by first | exact Or.inl rfl | exact Or.inr rfl) (pe_lst pa_nil))
  (pss_cons (ps_for PassesOwn.never rfl (pi_list (pv 0)) (pg_name (i := 2) sc_joined.nd rfl (by first | exact Or.inl rfl | exact Or.inr rfl))
    (pss_one (ps_if (PW.pt (pw_and (pt_val (pe_callB call_isi (by rfl) T.B.n_isinstance (by decide +kernel) (pa_cons (pv 2) (pa_cons (pe_bltn (v := .ty "str") (u := .type "str") (by rfl) T.B.n_str (by decide +kernel) rfl) pa_nil)))) (pw_and (pt_truth (pv 1) (fun _ => rfl)) (pw_and1 (pt_val (pe_callB call_isi (by rfl) T.B.n_isinstance (by decide +kernel) (pa_cons (pe_ix ix_list (pv 1) (pe_un un_neg pe_int) (fun _ _ => rfl)) (pa_cons (pe_bltn (v := .ty "str") (u := .type "str") (by rfl) T.B.n_str (by decide +kernel) rfl) pa_nil))))))))
    (pss_one (ps_asg (pe_op SL.op_addL (pe_ix ix_list (pv 1) (pe_un un_neg pe_int) (fun _ _ => rfl)) (pv 2)) (pg_sub (pv 1) (pe_un un_neg pe_int) set_list (fun _ => rfl))))
    (pss_one (ps_expr (pe_bm PySem.F.plainAttrs_list PySem.F.slot_list_append PySem.F.type_list_append mt_append (pv 1) (pa_cons (pv 2) pa_nil)))))))
  (pss_one (ps_ret (pv 1))))), ?_⟩
    walk_at "st"
    intro q hq
    walk_at "st"
    have qa : a ≠ q := fun z => by rw [z, hq] at ha; cases ha
    refine ⟨⟨_, SqL.of (by rw [upd_ne qa]; exact ha)⟩, ?_⟩
    refine for_list (xs := xs) (fun i σ H1 => ∃ (us : List V) (qs : List Pc) (y : Option V), σ = [some (.ref a), some (.ref q), y] ∧ H1 q = some (.lst us) ∧ PcsV T.C_Field H1 us qs ∧ nms qs = nms (ps.take i) ∧ tlen qs = tlen (ps.take i) ∧ us.length ≤ i ∧ us.length ≤ xs.length ∧ Same H H1) ?_ ⟨[], [], none, rfl, upd_same, .nil, rfl, rfl, Nat.zero_le _, Nat.zero_le _, same_new hq⟩ ?_ ?_
    · rintro i σ H1 ⟨us, qs, y, rfl, h1, h2, h3, h4, h5, h6, h7⟩
      exact h7 _ _ ha
    · rintro σ H1 ⟨us, qs, y, rfl, h1, h2, h3, h4, h5, h6, h7⟩
      walk_at "st"
      rw [hps.len, List.take_length] at h3
      exact k q H1 us qs hq h1 h2 h3 h6 h7
    · rintro R i σ H1 x ⟨us, qs, y, rfl, h1, h2, h3, h4, h5, h6, h7⟩ hx N hN
      obtain ⟨pc, hpc, hv⟩ := hps.get hx
      have hv1 : PcV T.C_Field H1 x pc := hv.mono (Same.t h7)
      obtain ⟨t, t1, t2, _⟩ := isi_pc T hv1
      have hil : i < xs.length := (List.getElem?_eq_some_iff.mp hx).1
      have htk : ps.take (i + 1) = ps.take i ++ [pc] := take_snoc hpc
      have hlim := tlen_take ps i
      have hlim2 := tlen_take ps (i + 1)
      walk_at "st"
      refine ⟨x, _, t, _, _, rfl, .ty "str", t1, t2, ?_⟩
      walk_at "st"
      have happ : ∀ D : Ends, D.nx = N → tDrop (tBM K "list" rAppend (tVar 1) (tCons (tVar 2) tNil)) D [some (.ref a), some (.ref q), some x] H1 := fun D hD => by
        walk_at "st"
        refine ⟨.inl ⟨rfl, _, SqL.of h1⟩, ?_⟩
        walk_at "st"
        refine ⟨_, _, _, rfl, rfl, h1, szl (by omega), ?_⟩
        rw [hD, hN]
        refine .a ⟨us ++ [x], qs ++ [pc], _, rfl, upd_same, (h2.keep h1 keep_put).snoc (hv1.keep h1 keep_put), ?_, ?_, ?_, ?_, same_put h7 hq⟩
        · rw [htk, nms_app, nms_app, h3]
        · rw [htk, tlen_app, tlen_app, h4]
        · rw [List.length_append, List.length_singleton]; omega
        · rw [List.length_append, List.length_singleton]; omega
      cases pc with
      | fld n =>
        refine if_false_of rfl ?_
        refine if_false_of rfl ?_
        exact happ _ rfl
      | txt l =>
        refine if_true_of rfl ?_
        obtain rfl : x = .str (SX.S l) := hv1
        refine ⟨_, rfl, !us.isEmpty, .inl ⟨us, SqL.of h1, rfl⟩, ?_⟩
        rcases List.eq_nil_or_concat us with rfl | ⟨us', v, e⟩
        · refine if_false_of rfl ?_
          refine if_false_of rfl ?_
          exact happ _ rfl
        · have e2 : us = us' ++ [v] := by rw [e, List.concat_eq_append]
          subst e2
          obtain ⟨qs', pc, rfl, h8, h9⟩ := h2.unsnoc
          obtain ⟨t', t1', t2', _⟩ := isi_pc T h9
          refine if_true_of (by simp) ?_
          walk_at "st"
          refine ⟨_, _, _, v, rfl, rfl, SqL.of h1, atI_last us' v, ?_⟩
          walk_at "st"
          refine ⟨v, _, t', _, _, rfl, .ty "str", t1', t2', ?_⟩
          walk_at "st"
          cases pc with
          | fld n =>
            refine if_false_of rfl ?_
            exact happ _ rfl
          | txt l' =>
            obtain rfl : v = .str (SX.S l') := h9
            refine if_true_of rfl ?_
            walk_at "st"
            refine ⟨_, _, _, _, rfl, rfl, SqL.of h1, atI_last us' _, ?_⟩
            walk_at "st"
            have b1 : tlen qs' + l'.length = tlen (ps.take i) := by rw [← h4, tlen_app]; show _ = tlen qs' + (l'.length + 0); omega
            have b2 : tlen (ps.take i) + l.length = tlen (ps.take (i + 1)) := by rw [htk, tlen_app]; show _ = tlen (ps.take i) + (l.length + 0); omega
            refine ⟨by omega, ?_⟩
            walk_at "st"
            refine ⟨_, _, _, us'.length, rfl, rfl, h1, ?_, ?_⟩
            · unfold ixN
              rw [List.length_append, List.length_singleton]
              rw [if_neg (by decide), if_pos (by omega)]
              simp
              omega
            · rw [hN]
              have es : (us' ++ [V.str (SX.S l')]).set us'.length (V.str (SX.S (l' ++ l))) = us' ++ [V.str (SX.S (l' ++ l))] := by simp
              rw [es]
              refine .a ⟨us' ++ [.str (SX.S (l' ++ l))], qs' ++ [.txt (l' ++ l)], _, rfl, upd_same, (h8.keep h1 keep_put).snoc (show PcV _ _ _ (.txt _) from rfl), ?_, ?_, ?_, ?_, same_put h7 hq⟩
              · rw [htk, nms_app, nms_app, ← h3, nms_app]; simp [nms]
              · rw [← b2, ← b1, tlen_app]; show tlen qs' + ((l' ++ l).length + 0) = _; rw [List.length_append]; omega
              · rw [List.length_append, List.length_singleton] at h5 ⊢; omega
              · rw [List.length_append, List.length_singleton] at h6 ⊢; omega
end
end My

namespace My
open PySem PySem.Spec PyProof.Rows L2
local macro_rules | `(tactic| walk_at "hp") => `(tactic| first | assumption | exact upd_same | (refine Eq.trans (upd_ne (by first | assumption | (apply Ne.symm; assumption))) ?_; walk_at "hp"))
local macro_rules | `(tactic| walk_at "ixl") => `(tactic| (refine' ⟨_, ?xs, _, ?vv, rfl, rfl, SqL.of ?hh, ?aa, ?qq⟩; (case hh => walk_at "hp"); (case aa => rfl)))
local macro_rules | `(tactic| walk_at "setl") => `(tactic| (refine' ⟨_, ?xs, _, ?jj, rfl, rfl, ?hh, ?aa, ?qq⟩; (case hh => walk_at "hp"); (case aa => rfl)))
local macro_rules | `(tactic| walk_at "cond") => `(tactic| first | exact ⟨_, rfl⟩ | exact Nat.le_of_lt (small1000 (Nat.le_of_ble_eq_true rfl)) | decide | omega | (dsimp only; omega) | exact ⟨by decide, by decide⟩ | exact Or.inr ⟨by decide, by decide⟩ | exact Or.inl ⟨by decide, by decide⟩ | exact ⟨by decide, by decide, by decide⟩ | exact ⟨by omega, by omega⟩ | exact ⟨by omega, by omega, by omega⟩ | (simp only [List.length_cons, List.length_nil, List.length_append, List.length_take, List.length_drop]; omega) | (refine ⟨?_, ?_, ?_⟩ <;> first | decide | omega | (simp only [List.length_cons, List.length_nil, List.length_append, List.length_take, List.length_drop, Option.getD_some, Option.getD_none]; omega)))
local macro_rules | `(tactic| walk_at "st") => `(tactic| repeat (first | refine ⟨_, rfl, ?_⟩ | refine ⟨_, _, rfl, rfl, ?_⟩ | walk_at "ixl" | walk_at "setl" | refine ⟨rfl, ?_⟩ | refine Or.inl ⟨_, rfl, ?_⟩ | refine And.intro (by walk_at "cond") ?_))
section
variable {P : Program} {w : World} {K : PySem.W.Frag} {mg : Str → Option Value} {base : Heap}
/-- what is never called -/
def spNo : Sp := fun _ _ _ _ => False
theorem ok_no {x qual : Str} {st : Stmt} {f : Addr} {fd : FuncData} {N ps : List Str} (F : Fun K x qual st f fd) (S : FnScope N ps (defScope st)) : FnOk P w K mg base CX0 1 f fd ps spNo :=
  F.ok (k := 0) S (fun _ _ _ _ h => h.elim) fun _ _ _ _ _ _ _ _ _ h => h.elim
theorem ok_noX {x qual : Str} {st : Stmt} {f : Addr} {fd : FuncData} {N ps : List Str} (F : Fun K x qual st f fd) (S : FnScope N ps (defScope st)) : FnOk P w K mg base (L2.CX P w) 1 f fd ps spNo :=
  F.okX (k := 0) S (fun _ _ _ _ h => h.elim) fun _ _ _ _ _ _ _ _ _ h => h.elim
def spPO (C CB PW : Addr) : Sp := fun vs H Q E => Hd (∃ (l : List Nat) (o : Option (List Pc)), vs = [.str (SX.S l), .str (SX.S [123])] ∧ l.length ≤ 99000 ∧ Bp l o ∧ GxR.TabG H PW ∧
  (o = none → ∀ (d : Addr) (H' : Hp), H' d = some (.xd [("fmt", .str (SX.S l))]) → SmT H H' → E (.ref CB) (some d) H') ∧
  (∀ ps, o = some ps → ∀ (p : Addr) (H' : Hp) (vs : List V) (qs : List Pc), H p = none → H' p = some (.lst vs) → PcsV C H' vs qs → nms qs = nms ps → vs.length ≤ l.length → SmT H H' → Q (.ref p) H'))
theorem ok_piecesof (T : Txt K mg) (TB : GxR.TabB base mg T.cW T.PW) : FnOk P w K mg base (L2.CX P w) 6 T.f_pieces_of T.fd_pieces_of ["fmt", "style"] (spPO T.C_Field T.c_BadFormat T.PW) := by
  have G_brace_pieces : FnOk P w K mg base (L2.CX P w) 5 _ _ _ (spBP T.C_Field T.c_BadFormat T.PW) := ok_bpieces T TB
  have G_joined : FnOk P w K mg base CX0 1 _ _ _ (spJoin T.C_Field) := ok_joined T
  have G_dollar_pieces : FnOk P w K mg base (L2.CX P w) 1 _ _ ["fmt"] spNo := ok_noX T.D_dollar_pieces.F sc_dollar_pieces
  have G_Field : FnOk P w K mg base CX0 1 _ _ _ (spFld T.C_Field) := ok_Field T
  obtain ⟨dsF, hdF, hbF⟩ := bi_Field T
  refine T.D_pieces_of.F.okX sc_pieces_of (fun vs H Q E h => ?_) (fun cdv A outer s H vs Q E hr h => ?_)
  · obtain ⟨l, o, rfl, _⟩ := h.out
    rfl
  · obtain ⟨l, o, rfl, hz, hD, hT, kE, kQ⟩ := h.out
    refine ⟨_, (pss_cons (ps_if (pt_cmpR op_isN (pv 0) pe_non (nomark _))
    (pss_one (ps_ret (pe_lst (pa_cons (pe_make T.M_Field G_Field (hr.mono (by first | decide | omega)) rfl T.g_Field hbF hdF pass0 (pa_cons (SL.pe_strL [109, 101, 115, 115, 97, 103, 101] (by decide +kernel)) pa_nil)) pa_nil))))
    pss_nil)
  (pss_cons (ps_if (pt_not (pt_val (pe_callB call_isi (by rfl) T.B.n_isinstance (by decide +kernel) (pa_cons (pv 0) (pa_cons (pe_bltn (v := .ty "str") (u := .type "str") (by rfl) T.B.n_str (by decide +kernel) rfl) pa_nil)))))
    (pss_one (ps_raise rfl (takes_of rfl rfl rfl rfl) (pmk_err T.E_BadFormat hr (pa_cons (pv 0) pa_nil) rfl)))
    pss_nil)
  (pss_cons (ps_if (pt_cmpR SL.op_eqL (pv 1) (SL.pe_strL [123] (by decide +kernel)) (nomark _))
    (pss_one (ps_ret (pe_call G_joined (hr.mono (by first | decide | omega)) rfl T.D_joined.g T.D_joined.F.kp T.D_joined.b .nil pass0 (pa_cons (pe_call G_brace_pieces (hr.mono (by first | decide | omega)) rfl T.D_brace_pieces.g T.D_brace_pieces.F.kp T.D_brace_pieces.b .nil (passes_call (takes_of rfl rfl rfl rfl) (fun _ _ _ _ h => h)) (pa_cons (pv 0) pa_nil)) pa_nil))))
    pss_nil)
  (pss_one (ps_ret (pe_call G_joined (hr.mono (by first | decide | omega)) rfl T.D_joined.g T.D_joined.F.kp T.D_joined.b .nil pass0 (pa_cons (pe_call G_dollar_pieces (hr.mono (by first | decide | omega)) rfl T.D_dollar_pieces.g T.D_dollar_pieces.F.kp T.D_dollar_pieces.b .nil (passes_call (takes_of rfl rfl rfl rfl) (fun _ _ _ _ h => h)) (pa_cons (pv 0) pa_nil)) pa_nil))))))), ?_⟩
    walk_at "st"
    refine ⟨_, _, _, _, true, rfl, .ty "str", .base (.str _), kit_ty (by decide +kernel), ?_⟩
    walk_at "st"
    refine .a ⟨l, o, rfl, hz, hD, hT, fun e d H' hd hS => kE e d H' hd hS, fun ps e p H1 vs hp h1 h2 h3 h4 => ?_⟩
    walk_at "st"
    have ht := hD.tlen_le ps e
    refine .a ⟨p, vs, ps, rfl, h1, h2, by omega, by omega, fun q H2 us qs hq g1 g2 g3 g4 g5 => ?_⟩
    walk_at "st"
    exact kQ ps e q H2 us qs (h4.free hq) g1 g2 g3 (by omega) (h4.trans (Same.t g5))
end
end My

namespace My
open PySem PySem.Spec PyProof.Rows L2
local macro_rules | `(tactic| walk_at "hp") => `(tactic| first | assumption | exact upd_same | (refine Eq.trans (upd_ne (by first | assumption | (apply Ne.symm; assumption))) ?_; walk_at "hp"))
local macro_rules | `(tactic| walk_at "ixl") => `(tactic| (refine' ⟨_, ?xs, _, ?vv, rfl, rfl, SqL.of ?hh, ?aa, ?qq⟩; (case hh => walk_at "hp"); (case aa => rfl)))
local macro_rules | `(tactic| walk_at "setl") => `(tactic| (refine' ⟨_, ?xs, _, ?jj, rfl, rfl, ?hh, ?aa, ?qq⟩; (case hh => walk_at "hp"); (case aa => rfl)))
local macro_rules | `(tactic| walk_at "cond") => `(tactic| first | exact ⟨_, rfl⟩ | exact Nat.le_of_lt (small1000 (Nat.le_of_ble_eq_true rfl)) | decide | omega | (dsimp only; omega) | exact ⟨by decide, by decide⟩ | exact Or.inr ⟨by decide, by decide⟩ | exact Or.inl ⟨by decide, by decide⟩ | exact ⟨by decide, by decide, by decide⟩ | exact ⟨by omega, by omega⟩ | exact ⟨by omega, by omega, by omega⟩ | (simp only [List.length_cons, List.length_nil, List.length_append, List.length_take, List.length_drop]; omega) | (refine ⟨?_, ?_, ?_⟩ <;> first | decide | omega | (simp only [List.length_cons, List.length_nil, List.length_append, List.length_take, List.length_drop, Option.getD_some, Option.getD_none]; omega)))
local macro_rules | `(tactic| walk_at "st") => `(tactic| repeat (first | refine ⟨_, rfl, ?_⟩ | refine ⟨_, _, rfl, rfl, ?_⟩ | walk_at "ixl" | walk_at "setl" | refine ⟨rfl, ?_⟩ | refine Or.inl ⟨_, rfl, ?_⟩ | refine And.intro (by walk_at "cond") ?_))
theorem isiK {X : Cx} {K : PySem.W.Frag} (h : X.K = K) : CallR X (.builtin "isinstance") (rIsi K) := by
  subst h
  exact call_isi
theorem fldK {X : Cx} {K : PySem.W.Frag} {e : Expr} {f : Str} {pos : Pos} {ta : TE} (h : X.K = K) (he : PE X e ta) (hb : attributeBase e f X.env (eval e X.env) = eval e X.env) : PE X (.Attribute e f pos) (tFld K ta f) := by
  subst h
  exact pe_fld he hb
/-- a comprehension over a list that stands -/
theorem comp_list {K : PySem.W.Frag} {a D : Addr} {xs : List V} {g : TG} {tt : TT} {te : TE} {σ : L2.St} {vs : List Nat} {H1 : Hp} {Q : Hp → Prop} (W : Nat → Hp → Prop) (hst : ∀ i H, W i H → H a = some (.lst xs)) (h0 : W 0 (upd H1 D (.lst []))) (hend : ∀ H, W xs.length H → Q H)
    (hs : ∀ (i : Nat) H x, W i H → xs[i]? = some x → ∀ N : Hp → Prop, N = (fun H' => Hd (W (i + 1) H')) → g x (wipe σ vs) H fun σ2 H2 => wipe σ2 vs = wipe σ vs ∧ tt σ2 H2 fun b H3 => if b = true then te σ2 H3 fun y H4 => ∃ acc, H4 D = some (.lst acc) ∧ acc.length < sizeLine ∧ N (upd H4 D (.lst (acc ++ [y]))) else N H3) :
    ∃ W : Nat → Nat → Hp → Prop, (∃ m, W 0 m (upd H1 D (.lst []))) ∧ ∀ i m H, W i m H → ((Itl K a).stop i H ∧ Q H) ∨ ((Itl K a).go i H ∧ ∃ Nx : Hp → Prop, (∀ H', Nx H' → ∃ m', m' < m ∧ W (i + 1) m' H') ∧
      ∀ x H', (Itl K a).yld i H x H' → g x (wipe σ vs) H' fun σ2 H2 => wipe σ2 vs = wipe σ vs ∧ tt σ2 H2 fun b H3 => if b = true then te σ2 H3 fun y H4 => ∃ acc, H4 D = some (.lst acc) ∧ acc.length < sizeLine ∧ Nx (upd H4 D (.lst (acc ++ [y]))) else Nx H3) := by
  refine ⟨fun i m H => W i H ∧ m = xs.length - i ∧ i ≤ xs.length, ⟨_, h0, rfl, Nat.zero_le _⟩, ?_⟩
  rintro i m H ⟨hw, rfl, hi⟩
  have hl := hst i H hw
  by_cases hlt : i < xs.length
  · refine .inr ⟨⟨xs, xs[i], SqL.of hl, List.getElem?_eq_getElem hlt⟩, fun H' => Hd (W (i + 1) H'), fun H' z => ⟨xs.length - (i + 1), by omega, z.out, rfl, by omega⟩, ?_⟩
    rintro x H' ⟨rfl, hx⟩
    exact hs i H' x hw (hx xs (SqL.of hl)) _ rfl
  · have e : i = xs.length := by omega
    subst e
    exact .inl ⟨⟨xs, SqL.of hl, Nat.le_refl _⟩, hend H hw⟩
section
variable {P : Program} {w : World} {K : PySem.W.Frag} {mg : Str → Option Value} {base : Heap}
theorem nms_len : ∀ ps : List Pc, (nms ps).length ≤ ps.length
  | [] => Nat.le_refl _
  | .txt _ :: r => Nat.le_succ_of_le (nms_len r)
  | .fld _ :: r => Nat.succ_le_succ (nms_len r)
def txV (ns : List (List Nat)) : List V := ns.map fun n => .str (SX.S n)
def spFields (C CF : Addr) : Sp := fun vs H Q _ => Hd (∃ (x dx a : Addr) (fs : List (Str × V)) (us : List V) (qs : List Pc), vs = [.ref x] ∧ H x = some (.ins CF dx fs) ∧ fs.lookup ("pieces" : Str) = some (V.ref a) ∧ H a = some (.lst us) ∧ PcsV C H us qs ∧ us.length ≤ 99000 ∧
  ∀ (t : Addr) (H' : Hp), H t = none → H' t = some (.tup (txV (nms qs))) → Same H H' → Q (.ref t) H')
theorem ok_fields (T : Txt K mg) : FnOk P w K mg base CX0 1 T.m_fields T.fdm_fields ["self"] (spFields T.C_Field T.C_Formatter) := by
  refine T.F_fields.ok sc_Formatter_fields (fun vs H Q E h => ?_) (fun cdv A outer s H vs Q E hr h => ?_)
  · obtain ⟨x, dx, a, fs, us, qs, rfl, _⟩ := h.out
    rfl
  · obtain ⟨x, dx, a, fs, us, qs, rfl, hx, hf, ha, hq, hl, k⟩ := h.out
    refine ⟨_, (pss_one (ps_ret (pe_callTy call_tuple_of (by rfl) T.B.n_tuple (by decide +kernel) (pa_cons (pe_lc (own := [("piece", 1)]) (g := gName 1) rfl sc_Formatter_fields.nd (pi_list (pe_fld (pv 0) rfl)) (blkOk_by (N := ["self", "piece"]) (sc := defScope s_Formatter_fields) (by decide +kernel)) (fun _ _ _ _ _ => (pg_name (i := 1) sc_Formatter_fields.nd rfl (by first | exact Or.inl rfl | exact Or.inr rfl))) (fun _ _ _ _ _ => (pts_one (pt_val (pe_callB (isiK (K := K) rfl) (by rfl) T.B.n_isinstance (by decide +kernel) (pa_cons (pv 1) (pa_cons (pe_glob (v := .ref (T.C_Field)) (u := .ref (T.C_Field)) rfl T.g_Field rfl) pa_nil)))))) (fun _ _ _ _ _ => (fldK (K := K) rfl (pv 1) rfl))) pa_nil)))), ?_⟩
    walk_at "st"
    refine ⟨x, T.C_Formatter, dx, fs, .ref a, rfl, hx, T.cl_Formatter, T.na_pieces, hf, ?_⟩
    walk_at "st"
    refine ⟨⟨us, SqL.of ha⟩, ?_⟩
    intro D hD
    have Da : a ≠ D := fun z => by rw [z, hD] at ha; cases ha
    refine comp_list (xs := us) (fun i H1 => H1 D = some (.lst (txV (nms (qs.take i)))) ∧ Same H H1) ?_ ⟨upd_same, same_new hD⟩ ?_ ?_
    · rintro i H1 ⟨h1, h2⟩
      exact h2 _ _ ha
    · rintro H1 ⟨h1, h2⟩
      walk_at "st"
      refine ⟨D, _, rfl, .inl ⟨SqL.of h1, fun l hl => ?_⟩⟩
      refine k l _ (h2.free hl) ?_ (same_put h2 (h2.free hl))
      rw [hq.len, List.take_length]
      exact upd_same
    · rintro i H1 v ⟨h1, h2⟩ hv N hN
      obtain ⟨pc, hpc, hv0⟩ := hq.get hv
      have hv1 : PcV T.C_Field H1 v pc := hv0.mono (Same.t h2)
      obtain ⟨t, t1, _, t3⟩ := isi_pc T hv1
      have htk : qs.take (i + 1) = qs.take i ++ [pc] := take_snoc hpc
      have hil : i < us.length := (List.getElem?_eq_some_iff.mp hv).1
      walk_at "st"
      refine ⟨v, _, t, _, _, rfl, .own T.C_Field, t1, t3, ?_⟩
      walk_at "st"
      cases pc with
      | txt l =>
        refine if_false_of rfl ?_
        rw [hN]
        refine .a ⟨?_, h2⟩
        rw [htk, nms_app]
        show H1 D = some (.lst (txV (nms (qs.take i) ++ [])))
        rw [List.append_nil]
        exact h1
      | fld n =>
        obtain ⟨y, rfl, dy, wv, fv, av, dv, hy⟩ := hv1
        refine if_true_of rfl ?_
        walk_at "st"
        refine ⟨y, T.C_Field, dy, fldG n wv fv av dv, _, rfl, hy, T.I_Field.cl, T.na_name, rfl, ?_⟩
        refine ⟨_, h1, szl ?_, ?_⟩
        · have : (nms (qs.take i)).length ≤ (qs.take i).length := nms_len _
          have e : (txV (nms (qs.take i))).length = (nms (qs.take i)).length := List.length_map ..
          rw [e]
          rw [List.length_take] at this; omega
        · rw [hN]
          refine .a ⟨?_, same_put h2 hD⟩
          rw [htk, nms_app]
          show _ = some (HO.lst (txV (nms (qs.take i) ++ [n])))
          unfold txV
          rw [List.map_append]
          exact upd_same
end
end My

namespace My
open PySem PySem.Spec PyProof.Rows L2
local macro_rules | `(tactic| walk_at "hp") => `(tactic| first | assumption | exact upd_same | (refine Eq.trans (upd_ne (by first | assumption | (apply Ne.symm; assumption))) ?_; walk_at "hp"))
local macro_rules | `(tactic| walk_at "ixl") => `(tactic| (refine' ⟨_, ?xs, _, ?vv, rfl, rfl, SqL.of ?hh, ?aa, ?qq⟩; (case hh => walk_at "hp"); (case aa => rfl)))
local macro_rules | `(tactic| walk_at "setl") => `(tactic| (refine' ⟨_, ?xs, _, ?jj, rfl, rfl, ?hh, ?aa, ?qq⟩; (case hh => walk_at "hp"); (case aa => rfl)))
local macro_rules | `(tactic| walk_at "cond") => `(tactic| first | exact ⟨_, rfl⟩ | exact Nat.le_of_lt (small1000 (Nat.le_of_ble_eq_true rfl)) | decide | omega | (dsimp only; omega) | exact ⟨by decide, by decide⟩ | exact Or.inr ⟨by decide, by decide⟩ | exact Or.inl ⟨by decide, by decide⟩ | exact ⟨by decide, by decide, by decide⟩ | exact ⟨by omega, by omega⟩ | exact ⟨by omega, by omega, by omega⟩ | (simp only [List.length_cons, List.length_nil, List.length_append, List.length_take, List.length_drop]; omega) | (refine ⟨?_, ?_, ?_⟩ <;> first | decide | omega | (simp only [List.length_cons, List.length_nil, List.length_append, List.length_take, List.length_drop, Option.getD_some, Option.getD_none]; omega)))
local macro_rules | `(tactic| walk_at "st") => `(tactic| repeat (first | refine ⟨_, rfl, ?_⟩ | refine ⟨_, _, rfl, rfl, ?_⟩ | walk_at "ixl" | walk_at "setl" | refine ⟨rfl, ?_⟩ | refine Or.inl ⟨_, rfl, ?_⟩ | refine And.intro (by walk_at "cond") ?_))
/-- all but x stands; tables may grow -/
structure SmX (x : Addr) (H H' : Hp) : Prop where
  st : ∀ b o, b ≠ x → H b = some o → noT o = true → H' b = some o
  tb : ∀ b ps, b ≠ x → H b = some (.tbl ps) → ∃ ps', H' b = some (.tbl ps') ∧ (TriplesOk ps.toList → TriplesOk ps'.toList)
theorem SmX.of {x : Addr} {H H' : Hp} (h : SmT H H') : SmX x H H' := ⟨fun b o _ e z => h.st b o e z, fun b ps _ e => h.tb b ps e⟩
theorem SmX.at {x : Addr} {H H' : Hp} (h : ∀ c u, c ≠ x → H c = some u → H' c = some u) : SmX x H H' := ⟨fun b o hb e _ => h b o hb e, fun b ps hb e => ⟨ps, h b _ hb e, id⟩⟩
theorem SmX.trans {x : Addr} {H H1 H2 : Hp} (a : SmX x H H1) (b : SmX x H1 H2) : SmX x H H2 := ⟨fun c o hc e z => b.st c o hc (a.st c o hc e z) z, fun c ps hc e => by
  obtain ⟨p1, e1, k1⟩ := a.tb c ps hc e
  obtain ⟨p2, e2, k2⟩ := b.tb c p1 hc e1
  exact ⟨p2, e2, fun h => k2 (k1 h)⟩⟩
theorem SmX.made {x dx : Addr} {H H' : Hp} {o o' : HO} (hx : H x = none) (hdx : H dx = none) (h : SmX x (upd (upd H dx o) x o') H') : SmT H H' := ⟨fun b u e z => by
  have b1 : b ≠ x := fun z => by rw [z, hx] at e; cases e
  have b2 : b ≠ dx := fun z => by rw [z, hdx] at e; cases e
  exact h.st b u b1 (by rw [upd_ne b1, upd_ne b2]; exact e) z, fun b ps e => by
  have b1 : b ≠ x := fun z => by rw [z, hx] at e; cases e
  have b2 : b ≠ dx := fun z => by rw [z, hdx] at e; cases e
  exact h.tb b ps b1 (by rw [upd_ne b1, upd_ne b2]; exact e)⟩
theorem PcV.keepX {C CF x : Addr} {dx : Addr} {fs : List (Str × V)} {H H' : Hp} {v : V} (hx : H x = some (.ins CF dx fs)) (hf : ∀ n w f a d, fs ≠ fldG n w f a d) (s : SmX x H H') : ∀ {p : Pc}, PcV C H v p → PcV C H' v p
  | .txt _, h => h
  | .fld n, ⟨y, e, dy, w, f, a, d, h⟩ => ⟨y, e, dy, w, f, a, d, s.st _ _ (fun z => by
    rw [z, hx] at h
    injection h with h
    injection h with _ _ h
    exact hf n w f a d h) h rfl⟩
theorem PcsV.keepX {C CF x : Addr} {dx : Addr} {fs : List (Str × V)} {H H' : Hp} {vs : List V} {ps : List Pc} (hx : H x = some (.ins CF dx fs)) (hf : ∀ n w f a d, fs ≠ fldG n w f a d) (h : PcsV C H vs ps) (s : SmX x H H') : PcsV C H' vs ps := by
  induction h with
  | nil => exact .nil
  | cons h _ ih => exact .cons (h.keepX hx hf s) ih
section
variable {P : Program} {w : World} {K : PySem.W.Frag} {mg : Str → Option Value} {base : Heap}
def fmF (a dd : Addr) : List (Str × V) := [("pieces", .ref a), ("defaults", .ref dd)]
/-- a made formatter -/
structure FmAt (C CF : Addr) (H : Hp) (x : Addr) (ns : List (List Nat)) (N : Nat) : Prop where
  ex : ∃ (dx a dd : Addr) (us : List V) (qs : List Pc), H x = some (.ins CF dx (fmF a dd)) ∧ H a = some (.lst us) ∧ PcsV C H us qs ∧ nms qs = ns ∧ us.length ≤ N
def spFm (C CF CB PW : Addr) : Sp := fun vs H Q E => Hd (∃ (x dx : Addr) (l : List Nat) (b : Bool) (o : Option (List Pc)), vs = [.ref x, .str (SX.S l), .str (SX.S [123]), .bl b, .non] ∧ H x = some (.ins CF dx []) ∧ l.length ≤ 99000 ∧ Bp l o ∧ GxR.TabG H PW ∧
  ((o = none ∨ ∃ ps, o = some ps ∧ nms ps = [] ∧ b = true) → ∀ (d : Addr) (H' : Hp), H' d = some (.xd [("fmt", .str (SX.S l))]) → SmX x H H' → E (.ref CB) (some d) H') ∧
  (∀ ps, o = some ps → (nms ps ≠ [] ∨ b = false) → ∀ H', FmAt C CF H' x (nms ps) l.length → SmX x H H' → Q .non H'))
def spStyle : Sp := fun vs H Q _ => Hd (vs = [.str (SX.S [123])] ∧ Q (.bl true) H)
theorem ok_style (T : Txt K mg) : FnOk P w K mg base CX0 1 T.f_is_style T.fd_is_style ["thing"] spStyle := by
  refine T.D_is_style.F.ok sc_is_style (fun vs H Q E h => ?_) (fun cdv A outer s H vs Q E hr h => ?_)
  · obtain ⟨rfl, _⟩ := h.out
    rfl
  · obtain ⟨rfl, k⟩ := h.out
    refine ⟨_, (pss_one (ps_ret (pe_or (pe_cmpR SL.op_eqL (pv 0) (SL.pe_strL [123] (by decide +kernel)) (nomark _)) (pe_one (pe_cmpR SL.op_eqL (pv 0) (SL.pe_strL [36] (by decide +kernel)) (nomark _)))))), ?_⟩
    walk_at "st"
    exact k
theorem ok_init (T : Txt K mg) (TB : GxR.TabB base mg T.cW T.PW) : FnOk P w K mg base (L2.CX P w) 7 T.i_Formatter T.fdi_Formatter ["self", "fmt", "style", "validate", "defaults"] (spFm T.C_Field T.C_Formatter T.c_BadFormat T.PW) := by
  have G_pieces_of : FnOk P w K mg base (L2.CX P w) 6 _ _ _ (spPO T.C_Field T.c_BadFormat T.PW) := ok_piecesof T TB
  have G_is_style : FnOk P w K mg base CX0 1 _ _ _ spStyle := ok_style T
  have G_fields : FnOk P w K mg base CX0 1 _ _ _ (spFields T.C_Field T.C_Formatter) := ok_fields T
  have G_own_copy : FnOk P w K mg base CX0 1 _ _ ["thing"] spNo := ok_no T.D_own_copy.F sc_own_copy
  refine T.F_Formatter.ok (CX := L2.CX P w) sc_Formatter___init__ (fun vs H Q E h => ?_) (fun cdv A outer s H vs Q E hr h => ?_)
  · obtain ⟨x, dx, l, b, o, rfl, _⟩ := h.out
    rfl
  · obtain ⟨x, dx, l, b, o, rfl, hx, hz, hD, hT, kE, kQ⟩ := h.out
    refine ⟨_, (pss_cons (ps_if (pt_not (pt_val (pe_call G_is_style (hr.mono (by first | decide | omega)) rfl T.D_is_style.g T.D_is_style.F.kp T.D_is_style.b .nil pass0 (pa_cons (pv 2) pa_nil))))
    (pss_one (ps_raise rfl (takes_of rfl rfl rfl rfl) (pmk_err T.E_BadStyle hr (pa_cons (pv 2) pa_nil) rfl)))
    pss_nil)
  (pss_cons (ps_fld (pv 0) (pe_call G_pieces_of (hr.mono (by first | decide | omega)) rfl T.D_pieces_of.g T.D_pieces_of.F.kp T.D_pieces_of.b .nil (passes_call (takes_of rfl rfl rfl rfl) (fun _ _ _ _ h => h)) (pa_cons (pv 1) (pa_cons (pv 2) pa_nil))) rfl)
  (pss_cons (ps_fld (pv 0) (pe_ifExp (pt_cmpR op_isN (pv 4) pe_non (nomark _)) pe_dnewK (pe_call G_own_copy (hr.mono (by first | decide | omega)) rfl T.D_own_copy.g T.D_own_copy.F.kp T.D_own_copy.b .nil pass0 (pa_cons (pv 4) pa_nil))) rfl)
  (pss_one (ps_if (PW.pt (pw_and (pt_val (pv 3)) (pw_and1 (pt_not (pt_truth (pe_meth0 (pv 0) T.cl_Formatter T.Me_fields G_fields (hr.mono (by first | decide | omega)) T.b_fields .nil pass0) (fun _ => rfl))))))
    (pss_one (ps_raise rfl (takes_of rfl rfl rfl rfl) (pmk_err T.E_BadFormat hr (pa_cons (pv 1) pa_nil) rfl)))
    pss_nil))))), ?_⟩
    walk_at "st"
    refine .a ⟨rfl, ?_⟩
    refine ⟨true, rfl, ?_⟩
    show if (!true) = true then _ else _
    refine if_false_of rfl ?_
    walk_at "st"
    refine .a ⟨l, o, rfl, hz, hD, hT, fun e d H' hd hS => kE (.inl e) d H' hd (.of hS), fun ps e a H1 us qs ha h1 h2 h3 h4 h5 => ?_⟩
    have hx1 := h5.st _ _ hx rfl
    have ax : a ≠ x := fun z => by rw [z, hx1] at h1; cases h1
    walk_at "st"
    refine ⟨x, T.C_Formatter, dx, _, rfl, hx1, T.cl_Formatter, T.na_pieces, Nat.le_of_ble_eq_true rfl, ?_⟩
    walk_at "st"
    intro dd hdd
    have dx2 : dd ≠ x := fun z => by rw [z, upd_same] at hdd; cases hdd
    have da : dd ≠ a := fun z => by rw [z, upd_ne ax, h1] at hdd; cases hdd
    walk_at "st"
    refine ⟨x, T.C_Formatter, dx, _, rfl, by rw [upd_ne dx2.symm]; exact upd_same, T.cl_Formatter, T.na_defaults, Nat.le_of_ble_eq_true rfl, ?_⟩
    walk_at "st"
    have hd1 : H1 dd = none := by rw [upd_ne dx2] at hdd; exact hdd
    have g1 : (upd (upd (upd H1 x (.ins T.C_Formatter dx (putF "pieces" (.ref a) []))) dd (.dK [])) x (.ins T.C_Formatter dx (putF "defaults" (.ref dd) (putF "pieces" (.ref a) [])))) x = some (.ins T.C_Formatter dx (fmF a dd)) := upd_same
    have g2 : SmX x H1 (upd (upd (upd H1 x (.ins T.C_Formatter dx (putF "pieces" (.ref a) []))) dd (.dK [])) x (.ins T.C_Formatter dx (putF "defaults" (.ref dd) (putF "pieces" (.ref a) [])))) := .at fun c u hc hu => by
      rw [upd_ne hc, upd_ne (fun z => by rw [z, hd1] at hu; cases hu), upd_ne hc]; exact hu
    generalize upd (upd (upd H1 x (.ins T.C_Formatter dx (putF "pieces" (.ref a) []))) dd (.dK [])) x (.ins T.C_Formatter dx (putF "defaults" (.ref dd) (putF "pieces" (.ref a) []))) = H2 at g1 g2 ⊢
    have g3 : H2 a = some (.lst us) := g2.st _ _ ax h1 rfl
    have g4 : PcsV T.C_Field H2 us qs := PcsV.keepX hx1 (fun _ _ _ _ _ e => by cases e) h2 g2
    have g5 : SmX x H H2 := (SmX.of h5).trans g2
    cases b with
    | false =>
      refine if_false_of rfl ?_
      refine if_false_of rfl ?_
      walk_at "st"
      exact kQ ps e (.inr rfl) H2 ⟨dx, a, dd, us, qs, g1, g3, g4, h3, h4⟩ g5
    | true =>
      refine if_true_of rfl ?_
      walk_at "st"
      refine ⟨x, dx, _, rfl, g1, rfl, ?_⟩
      walk_at "st"
      refine .a ⟨x, dx, a, _, us, qs, rfl, g1, rfl, g3, g4, by omega, fun t H3 ht k1 k2 => ?_⟩
      refine ⟨_, .inr (.inl ⟨_, SqT.of k1, rfl⟩), ?_⟩
      have g6 : SmX x H H3 := g5.trans (.of (Same.t k2))
      cases hn : nms ps with
      | nil =>
        rw [h3, hn]
        refine if_true_of rfl ?_
        walk_at "st"
        intro d hd
        exact kE (.inr ⟨ps, e, hn, rfl⟩) d _ upd_same (g6.trans (.of (Same.t (same_new hd))))
      | cons n ns =>
        rw [h3, hn]
        refine if_false_of rfl ?_
        walk_at "st"
        exact kQ ps e (.inl (by rw [hn]; exact List.cons_ne_nil _ _)) H3 ⟨dx, a, dd, us, qs, k2 _ _ g1, k2 _ _ g3, g4.mono (Same.t k2), h3, h4⟩ g6
/-- a style that is none -/
inductive OddV (H : Hp) : V → Prop
  | txt {l : List Nat} : l ≠ [123] → l ≠ [36] → OddV H (.str (SX.S l))
  | non : OddV H .non
  | bl (b : Bool) : OddV H (.bl b)
  | int (i : Int) : OddV H (.int i)
  | lst {a : Addr} {xs : List V} : H a = some (.lst xs) → OddV H (.ref a)
  | tup {a : Addr} {xs : List V} : H a = some (.tup xs) → OddV H (.ref a)
  | dct {a : Addr} {kvs : List (Key × V)} : H a = some (.dK kvs) → OddV H (.ref a)
theorem OddV.ne {H : Hp} {v : V} (h : OddV H v) {m : List Nat} (hm : m = [123] ∨ m = [36]) {Q : VK} (q : Q (.bl true) H) : NX.rNeX v (.str (SX.S m)) H Q := by
  cases h with
  | @txt l h1 h2 =>
    refine .inl ⟨rfl, ?_⟩
    rw [SL.V_str_S, decide_eq_false (fun e => by rcases hm with z | z <;> · rw [z] at e; first | exact h1 e | exact h2 e)]
    exact q
  | non => exact .inl ⟨rfl, by rw [decide_eq_false (fun e => by cases e)]; exact q⟩
  | bl b => exact .inl ⟨rfl, by rw [decide_eq_false (fun e => by cases e)]; exact q⟩
  | int i => exact .inl ⟨rfl, by rw [decide_eq_false (fun e => by cases e)]; exact q⟩
  | lst h => exact .inr ⟨_, _, rfl, rfl, .inl ⟨_, h⟩, q⟩
  | tup h => exact .inr ⟨_, _, rfl, rfl, .inr (.inl ⟨_, h⟩), q⟩
  | dct h => exact .inr ⟨_, _, rfl, rfl, .inr (.inr ⟨_, h⟩), q⟩
theorem OddV.eq {H : Hp} {v : V} (h : OddV H v) {m : List Nat} (hm : m = [123] ∨ m = [36]) {Q : VK} (q : Q (.bl false) H) : NX.rEqX v (.str (SX.S m)) H Q := by
  cases h with
  | @txt l h1 h2 =>
    refine .inl ⟨rfl, ?_⟩
    rw [SL.V_str_S, decide_eq_false (fun e => by rcases hm with z | z <;> · rw [z] at e; first | exact h1 e | exact h2 e)]
    exact q
  | non => exact .inl ⟨rfl, by rw [decide_eq_false (fun e => by cases e)]; exact q⟩
  | bl b => exact .inl ⟨rfl, by rw [decide_eq_false (fun e => by cases e)]; exact q⟩
  | int i => exact .inl ⟨rfl, by rw [decide_eq_false (fun e => by cases e)]; exact q⟩
  | lst h => exact .inr ⟨_, _, rfl, rfl, .inl ⟨_, h⟩, q⟩
  | tup h => exact .inr ⟨_, _, rfl, rfl, .inr (.inl ⟨_, h⟩), q⟩
  | dct h => exact .inr ⟨_, _, rfl, rfl, .inr (.inr ⟨_, h⟩), q⟩
def spStyleO : Sp := fun vs H Q _ => Hd (∃ v, vs = [v] ∧ OddV H v ∧ Q (.bl false) H)
theorem ok_styleO (T : Txt K mg) : FnOk P w K mg base CX0 1 T.f_is_style T.fd_is_style ["thing"] spStyleO := by
  refine T.D_is_style.F.ok sc_is_style (fun vs H Q E h => ?_) (fun cdv A outer s H vs Q E hr h => ?_)
  · obtain ⟨v, rfl, _⟩ := h.out
    rfl
  · obtain ⟨v, rfl, hO, k⟩ := h.out
    have hu := hu_of hr
    refine ⟨_, (pss_one (ps_ret (pe_or (pe_cmpR (NX.op_eqX (Nat.lt_of_succ_lt hu)) (pv 0) (SL.pe_strL [123] (by decide +kernel)) (nomark _)) (pe_one (pe_cmpR (NX.op_eqX (Nat.lt_of_succ_lt hu)) (pv 0) (SL.pe_strL [36] (by decide +kernel)) (nomark _)))))), ?_⟩
    walk_at "st"
    refine hO.eq (.inl rfl) ?_
    walk_at "st"
    refine hO.eq (.inr rfl) ?_
    walk_at "st"
    exact k
def spFmO (CF CS : Addr) : Sp := fun vs H Q E => Hd (∃ (x dx : Addr) (v f b : V), vs = [.ref x, f, v, b, .non] ∧ OddV H v ∧
  ∀ (d : Addr) (H' : Hp), H' d = some (.xd [("style", v)]) → Same H H' → E (.ref CS) (some d) H')
theorem ok_initO (T : Txt K mg) : FnOk P w K mg base (L2.CX P w) 7 T.i_Formatter T.fdi_Formatter ["self", "fmt", "style", "validate", "defaults"] (spFmO T.C_Formatter T.c_BadStyle) := by
  have G_pieces_of : FnOk P w K mg base (L2.CX P w) 1 _ _ ["fmt", "style"] spNo := ok_noX T.D_pieces_of.F sc_pieces_of
  have G_is_style : FnOk P w K mg base CX0 1 _ _ _ spStyleO := ok_styleO T
  have G_fields : FnOk P w K mg base CX0 1 _ _ _ (spFields T.C_Field T.C_Formatter) := ok_fields T
  have G_own_copy : FnOk P w K mg base CX0 1 _ _ ["thing"] spNo := ok_no T.D_own_copy.F sc_own_copy
  refine T.F_Formatter.ok (CX := L2.CX P w) sc_Formatter___init__ (fun vs H Q E h => ?_) (fun cdv A outer s H vs Q E hr h => ?_)
  · obtain ⟨x, dx, v, f, b, rfl, _⟩ := h.out
    rfl
  · obtain ⟨x, dx, v, f, b, rfl, hO, kE⟩ := h.out
    have hu := hu_of hr
    refine ⟨_, (pss_cons (ps_if (pt_not (pt_val (pe_call G_is_style (hr.mono (by first | decide | omega)) rfl T.D_is_style.g T.D_is_style.F.kp T.D_is_style.b .nil pass0 (pa_cons (pv 2) pa_nil))))
    (pss_one (ps_raise rfl (takes_of rfl rfl rfl rfl) (pmk_err T.E_BadStyle hr (pa_cons (pv 2) pa_nil) rfl)))
    pss_nil)
  (pss_cons (ps_fld (pv 0) (pe_call G_pieces_of (hr.mono (by first | decide | omega)) rfl T.D_pieces_of.g T.D_pieces_of.F.kp T.D_pieces_of.b .nil (passes_call (takes_of rfl rfl rfl rfl) (fun _ _ _ _ h => h)) (pa_cons (pv 1) (pa_cons (pv 2) pa_nil))) rfl)
  (pss_cons (ps_fld (pv 0) (pe_ifExp (pt_cmpR op_isN (pv 4) pe_non (nomark _)) pe_dnewK (pe_call G_own_copy (hr.mono (by first | decide | omega)) rfl T.D_own_copy.g T.D_own_copy.F.kp T.D_own_copy.b .nil pass0 (pa_cons (pv 4) pa_nil))) rfl)
  (pss_one (ps_if (PW.pt (pw_and (pt_val (pv 3)) (pw_and1 (pt_not (pt_truth (pe_meth0 (pv 0) T.cl_Formatter T.Me_fields G_fields (hr.mono (by first | decide | omega)) T.b_fields .nil pass0) (fun _ => rfl))))))
    (pss_one (ps_raise rfl (takes_of rfl rfl rfl rfl) (pmk_err T.E_BadFormat hr (pa_cons (pv 1) pa_nil) rfl)))
    pss_nil))))), ?_⟩
    walk_at "st"
    refine .a ⟨v, rfl, hO, ?_⟩
    refine ⟨false, rfl, ?_⟩
    show if (!false) = true then _ else _
    refine if_true_of rfl ?_
    walk_at "st"
    intro d hd
    exact kE d _ upd_same (same_new hd)
end
end My

namespace My
open PySem PySem.Spec PyProof.Rows L2
local macro_rules | `(tactic| walk_at "hp") => `(tactic| first | assumption | exact upd_same | (refine Eq.trans (upd_ne (by first | assumption | (apply Ne.symm; assumption))) ?_; walk_at "hp"))
local macro_rules | `(tactic| walk_at "ixl") => `(tactic| (refine' ⟨_, ?xs, _, ?vv, rfl, rfl, SqL.of ?hh, ?aa, ?qq⟩; (case hh => walk_at "hp"); (case aa => rfl)))
local macro_rules | `(tactic| walk_at "setl") => `(tactic| (refine' ⟨_, ?xs, _, ?jj, rfl, rfl, ?hh, ?aa, ?qq⟩; (case hh => walk_at "hp"); (case aa => rfl)))
local macro_rules | `(tactic| walk_at "cond") => `(tactic| first | exact ⟨_, rfl⟩ | exact Nat.le_of_lt (small1000 (Nat.le_of_ble_eq_true rfl)) | decide | omega | (dsimp only; omega) | exact ⟨by decide, by decide⟩ | exact Or.inr ⟨by decide, by decide⟩ | exact Or.inl ⟨by decide, by decide⟩ | exact ⟨by decide, by decide, by decide⟩ | exact ⟨by omega, by omega⟩ | exact ⟨by omega, by omega, by omega⟩ | (simp only [List.length_cons, List.length_nil, List.length_append, List.length_take, List.length_drop]; omega) | (refine ⟨?_, ?_, ?_⟩ <;> first | decide | omega | (simp only [List.length_cons, List.length_nil, List.length_append, List.length_take, List.length_drop, Option.getD_some, Option.getD_none]; omega)))
local macro_rules | `(tactic| walk_at "st") => `(tactic| repeat (first | refine ⟨_, rfl, ?_⟩ | refine ⟨_, _, rfl, rfl, ?_⟩ | walk_at "ixl" | walk_at "setl" | refine ⟨rfl, ?_⟩ | refine Or.inl ⟨_, rfl, ?_⟩ | refine And.intro (by walk_at "cond") ?_))
def sFormat : List Nat := [102, 111, 114, 109, 97, 116]
def sStyle : List Nat := [115, 116, 121, 108, 101]
def sMade : List Nat := [109, 97, 100, 101]
section
variable {P : Program} {w : World} {K : PySem.W.Frag} {mg : Str → Option Value} {base : Heap}
theorem bi_Fm3 (T : Txt K mg) : ∃ ds, Vals [V.non] ds ∧ Binds K T.fdi_Formatter ["self", "fmt", "style", "validate", "defaults"] ds :=
  T.F_Formatter.binds1 4 3 (by decide) rfl fun T kV doc pm an cdv ct us its l1 l2 => by
    match us, its, l1, l2 with
    | [a, b, e, f], [c, d, g, i], _, _ => exact ⟨_, rfl, rfl⟩
theorem bi_Fm2 (T : Txt K mg) : ∃ ds, Vals [.bl true, V.non] ds ∧ Binds K T.fdi_Formatter ["self", "fmt", "style", "validate", "defaults"] ds :=
  T.F_Formatter.binds1 3 2 (by decide) rfl fun T kV doc pm an cdv ct us its l1 l2 => by
    match us, its, l1, l2 with
    | [a, b, e], [c, d, g, i], _, _ => exact ⟨_, rfl, rfl⟩
theorem bi_Fm1 (T : Txt K mg) : ∃ ds, Vals [.str (SX.S [123]), .bl true, V.non] ds ∧ Binds K T.fdi_Formatter ["self", "fmt", "style", "validate", "defaults"] ds :=
  T.F_Formatter.binds1 2 1 (by decide) rfl fun T kV doc pm an cdv ct us its l1 l2 => by
    match us, its, l1, l2 with
    | [a, b], [c, d, g, i], _, _ => exact ⟨_, rfl, rfl⟩
/-- what a try of a format tells: the refusal or that it is made -/
def told (l : List Nat) (o : Option (List Pc)) (b : Bool) : List V := match o with
  | none => [.str (SX.S sFormat), .str (SX.S l)]
  | some ps => if nms ps = [] ∧ b = true then [.str (SX.S sFormat), .str (SX.S l)] else [.str (SX.S sMade), .non]
theorem told_no {l : List Nat} {o : Option (List Pc)} {b : Bool} (h : o = none ∨ ∃ ps, o = some ps ∧ nms ps = [] ∧ b = true) : told l o b = [.str (SX.S sFormat), .str (SX.S l)] := by
  rcases h with rfl | ⟨ps, rfl, h1, rfl⟩
  · rfl
  · exact if_pos ⟨h1, rfl⟩
theorem told_yes {l : List Nat} {ps : List Pc} {b : Bool} (h : nms ps ≠ [] ∨ b = false) : told l (some ps) b = [.str (SX.S sMade), .non] := by
  refine if_neg fun z => ?_
  rcases h with h | h
  · exact h z.1
  · rw [z.2] at h; cases h
def spTold (PW : Addr) : Sp := fun vs H Q _ => Hd (∃ (l : List Nat) (o : Option (List Pc)) (b : Bool), vs = [.str (SX.S l), .str (SX.S [123]), .bl b] ∧ l.length ≤ 99000 ∧ Bp l o ∧ GxR.TabG H PW ∧
  ∀ (t : Addr) (H' : Hp), H t = none → H' t = some (.tup (told l o b)) → SmT H H' → Q (.ref t) H')
def spToldO : Sp := fun vs H Q _ => Hd (∃ (v f b : V), vs = [f, v, b] ∧ OddV H v ∧
  ∀ (t : Addr) (H' : Hp), H t = none → H' t = some (.tup [.str (SX.S sStyle), v]) → Same H H' → Q (.ref t) H')
theorem OddV.mono {H H' : Hp} {v : V} (h : OddV H v) (s : Same H H') : OddV H' v := by
  cases h with
  | txt h1 h2 => exact .txt h1 h2
  | non => exact .non
  | bl b => exact .bl b
  | int i => exact .int i
  | lst h => exact .lst (s _ _ h)
  | tup h => exact .tup (s _ _ h)
  | dct h => exact .dct (s _ _ h)
theorem ok_told (T : Txt K mg) (TB : GxR.TabB base mg T.cW T.PW) : FnOk P w K mg base CX0 9 T.f__law_formatter_told T.fd__law_formatter_told ["_law_form", "_law_sign", "_law_firm"] (spTold T.PW) := by
  have G : FnOk P w K mg base (L2.CX P w) 7 T.i_Formatter T.fdi_Formatter _ (spFm T.C_Field T.C_Formatter T.c_BadFormat T.PW) := ok_init T TB
  obtain ⟨ds, hd, hb⟩ := bi_Fm3 T
  refine T.D__law_formatter_told.F.ok sc__law_formatter_told (fun vs H Q E h => ?_) (fun cdv A outer s H vs Q E hr h => ?_)
  · obtain ⟨l, o, b, rfl, _⟩ := h.out
    rfl
  · obtain ⟨l, o, b, rfl, hz, hD, hT, k⟩ := h.out
    refine ⟨_, pss_cons (ps_try_two (i := 3) (tb := fun W => tDrop (tMkS T.C_Formatter (spFm T.C_Field T.C_Formatter T.c_BadFormat T.PW) [V.non] (WE W) (tCons (tVar 0) (tCons (tVar 1) (tCons (tVar 2) tNil)))))
        (ts := fun a cls d => tRet (tTup (tCons (tC (.str (SX.S sFormat))) (tCons (tErrS T.c_BadFormat "fmt" a cls d (tVar 3)) tNil))))
        (ts' := fun a cls d => tRet (tTup (tCons (tC (.str (SX.S sStyle))) (tCons (tErrS T.c_BadStyle "style" a cls d (tVar 3)) tNil)))) rfl rfl sc__law_formatter_told.nd rfl rfl ⟨rfl, by decide, Or.inl T.E_BadFormat.gC⟩ ⟨rfl, by decide, Or.inl T.E_BadStyle.gC⟩
        (fun W pn xe tk _ => pss_one (ps_expr (by exact (pe_mkS T.M_Formatter G hr rfl T.g_Formatter hb hd (fun σ => passAt tk σ) (by exact (pa_cons (pv 0) (pa_cons (pv 1) (pa_cons (pv 2) pa_nil))))))))
        (fun a oe cls d pn hz hf => pss_one (ps_ret (pe_tup (pa_cons (SL.pe_strL sFormat (by decide +kernel)) (pa_cons (pe_errS T.E_BadFormat hz hf (pv 3)) pa_nil)))))
        (fun a oe cls d pn hz hf => pss_one (ps_ret (pe_tup (pa_cons (SL.pe_strL sStyle (by decide +kernel)) (pa_cons (pe_errS T.E_BadStyle hz hf (pv 3)) pa_nil))))))
      (pss_one (ps_ret (pe_tup (pa_cons (SL.pe_strL sMade (by decide +kernel)) (pa_cons pe_non pa_nil))))), ?_⟩
    walk_at "st"
    intro x dx hx hdx hxd
    refine .a ⟨x, dx, l, b, o, rfl, upd_same, hz, hD, ((SmT.refl H).new hdx).new hx |>.tab hT, fun hno d H1 hd1 sx => .inl ⟨T.exm, fun a ha => ?_⟩, fun ps e hyes H1 _ sx => ⟨rfl, ?_⟩⟩
    · have hS := SmX.made hx hdx sx
      walk_at "st"
      refine ⟨d, _, rfl, hd1, ?_⟩
      walk_at "st"
      intro t ht
      refine k t _ (hS.free ht) ?_ (hS.new (hS.free ht))
      rw [told_no hno]
      exact upd_same
    · have hS := SmX.made hx hdx sx
      walk_at "st"
      intro t ht
      refine k t _ (hS.free ht) ?_ (hS.new (hS.free ht))
      rw [e, told_yes hyes]
      exact upd_same
theorem ok_toldO (T : Txt K mg) : FnOk P w K mg base CX0 9 T.f__law_formatter_told T.fd__law_formatter_told ["_law_form", "_law_sign", "_law_firm"] spToldO := by
  have G : FnOk P w K mg base (L2.CX P w) 7 T.i_Formatter T.fdi_Formatter _ (spFmO T.C_Formatter T.c_BadStyle) := ok_initO T
  obtain ⟨ds, hd, hb⟩ := bi_Fm3 T
  refine T.D__law_formatter_told.F.ok sc__law_formatter_told (fun vs H Q E h => ?_) (fun cdv A outer s H vs Q E hr h => ?_)
  · obtain ⟨v, f, b, rfl, _⟩ := h.out
    rfl
  · obtain ⟨v, f, b, rfl, hO, k⟩ := h.out
    refine ⟨_, pss_cons (ps_try_two (i := 3) (tb := fun W => tDrop (tMkS T.C_Formatter (spFmO T.C_Formatter T.c_BadStyle) [V.non] (WE W) (tCons (tVar 0) (tCons (tVar 1) (tCons (tVar 2) tNil)))))
        (ts := fun a cls d => tRet (tTup (tCons (tC (.str (SX.S sFormat))) (tCons (tErrS T.c_BadFormat "fmt" a cls d (tVar 3)) tNil))))
        (ts' := fun a cls d => tRet (tTup (tCons (tC (.str (SX.S sStyle))) (tCons (tErrS T.c_BadStyle "style" a cls d (tVar 3)) tNil)))) rfl rfl sc__law_formatter_told.nd rfl rfl ⟨rfl, by decide, Or.inl T.E_BadFormat.gC⟩ ⟨rfl, by decide, Or.inl T.E_BadStyle.gC⟩
        (fun W pn xe tk _ => pss_one (ps_expr (by exact (pe_mkS T.M_Formatter G hr rfl T.g_Formatter hb hd (fun σ => passAt tk σ) (by exact (pa_cons (pv 0) (pa_cons (pv 1) (pa_cons (pv 2) pa_nil))))))))
        (fun a oe cls d pn hz hf => pss_one (ps_ret (pe_tup (pa_cons (SL.pe_strL sFormat (by decide +kernel)) (pa_cons (pe_errS T.E_BadFormat hz hf (pv 3)) pa_nil)))))
        (fun a oe cls d pn hz hf => pss_one (ps_ret (pe_tup (pa_cons (SL.pe_strL sStyle (by decide +kernel)) (pa_cons (pe_errS T.E_BadStyle hz hf (pv 3)) pa_nil))))))
      (pss_one (ps_ret (pe_tup (pa_cons (SL.pe_strL sMade (by decide +kernel)) (pa_cons pe_non pa_nil))))), ?_⟩
    walk_at "st"
    intro x dx hx hdx hxd
    have s1 : Same H (upd (upd H dx (.own x)) x (.ins T.C_Formatter dx [])) := same_put (same_new hdx) hx
    refine .a ⟨x, dx, v, f, b, rfl, hO.mono s1, fun d H1 hd1 sx => .inr ⟨T.exmSF, T.exmS, fun a ha => ?_⟩⟩
    walk_at "st"
    refine ⟨d, _, rfl, hd1, ?_⟩
    walk_at "st"
    intro t ht
    have hS := s1.trans sx
    exact k t _ (hS.free ht) upd_same (same_put hS (hS.free ht))
theorem FnOk.or {CX : CXT} {k : Nat} {f : Addr} {fd : FuncData} {ps : List Str} {sp sp' : Sp} (a : FnOk P w K mg base CX k f fd ps sp) (b : FnOk P w K mg base CX k f fd ps sp') : FnOk P w K mg base CX k f fd ps (fun vs H Q E => sp vs H Q E ∨ sp' vs H Q E) :=
  ⟨fun vs H Q E h => h.elim (a.len vs H Q E) (b.len vs H Q E), fun A outer s H args us vs Q E hr e0 hb r h => h.elim (a.run A outer s H args us vs Q E hr e0 hb r) (b.run A outer s H args us vs Q E hr e0 hb r)⟩
def spAlone (PW : Addr) : Sp := fun vs H Q _ => Hd (∃ (l : List Nat) (o : Option (List Pc)), vs = [.str (SX.S l), .str (SX.S [123])] ∧ l.length ≤ 99000 ∧ Bp l o ∧ GxR.TabG H PW ∧
  ∀ (t : Addr) (H' : Hp), H t = none → H' t = some (.tup (told l o true)) → SmT H H' → Q (.ref t) H')
theorem ok_alone (T : Txt K mg) (TB : GxR.TabB base mg T.cW T.PW) : FnOk P w K mg base CX0 9 T.f__law_made_alone T.fd__law_made_alone ["_law_form", "_law_sign"] (spAlone T.PW) := by
  have G : FnOk P w K mg base (L2.CX P w) 7 T.i_Formatter T.fdi_Formatter _ (spFm T.C_Field T.C_Formatter T.c_BadFormat T.PW) := ok_init T TB
  obtain ⟨ds1, hd1, hb1⟩ := bi_Fm1 T
  obtain ⟨ds2, hd2, hb2⟩ := bi_Fm2 T
  refine T.D__law_made_alone.F.ok sc__law_made_alone (fun vs H Q E h => ?_) (fun cdv A outer s H vs Q E hr h => ?_)
  · obtain ⟨l, o, rfl, _⟩ := h.out
    rfl
  · obtain ⟨l, o, rfl, hz, hD, hT, k⟩ := h.out
    refine ⟨_, pss_cons (ps_try_fst (i := 2) (tb := fun W => tIfS (tTest (tOp SL.rEqL (tVar 1) (tC (.str (SX.S [123])))))
          (tDrop (tMkS T.C_Formatter (spFm T.C_Field T.C_Formatter T.c_BadFormat T.PW) [.str (SX.S [123]), .bl true, V.non] (WE W) (tCons (tVar 0) tNil)))
          (tDrop (tMkS T.C_Formatter (spFm T.C_Field T.C_Formatter T.c_BadFormat T.PW) [.bl true, V.non] (WE W) (tCons (tVar 0) (tCons (tVar 1) tNil)))))
        (ts := fun a cls d => tRet (tTup (tCons (tC (.str (SX.S sFormat))) (tCons (tErrS T.c_BadFormat "fmt" a cls d (tVar 2)) tNil)))) rfl rfl sc__law_made_alone.nd rfl rfl ⟨rfl, by decide, Or.inl T.E_BadFormat.gC⟩
        (fun W pn xe tk _ => pss_one (ps_if (pt_cmpR SL.op_eqL (pv 1) (SL.pe_strL [123] (by decide +kernel)) (nomark _))
          (pss_one (ps_expr (by exact (pe_mkS T.M_Formatter G hr rfl T.g_Formatter hb1 hd1 (fun σ => passAt tk σ) (by exact (pa_cons (pv 0) pa_nil))))))
          (pss_one (ps_expr (by exact (pe_mkS T.M_Formatter G hr rfl T.g_Formatter hb2 hd2 (fun σ => passAt tk σ) (by exact (pa_cons (pv 0) (pa_cons (pv 1) pa_nil)))))))))
        (fun a oe cls d pn hz hf => pss_one (ps_ret (pe_tup (pa_cons (SL.pe_strL sFormat (by decide +kernel)) (pa_cons (pe_errS T.E_BadFormat hz hf (pv 2)) pa_nil))))))
      (pss_one (ps_ret (pe_tup (pa_cons (SL.pe_strL sMade (by decide +kernel)) (pa_cons pe_non pa_nil))))), ?_⟩
    walk_at "st"
    intro x dx hx hdx hxd
    refine .a ⟨x, dx, l, true, o, rfl, upd_same, hz, hD, ((SmT.refl H).new hdx).new hx |>.tab hT, fun hno d H1 hd1 sx => ⟨T.exm, fun a ha => ?_⟩, fun ps e hyes H1 _ sx => ⟨rfl, ?_⟩⟩
    · have hS := SmX.made hx hdx sx
      walk_at "st"
      refine ⟨d, _, rfl, hd1, ?_⟩
      walk_at "st"
      intro t ht
      refine k t _ (hS.free ht) ?_ (hS.new (hS.free ht))
      rw [told_no hno]
      exact upd_same
    · have hS := SmX.made hx hdx sx
      walk_at "st"
      intro t ht
      refine k t _ (hS.free ht) ?_ (hS.new (hS.free ht))
      rw [e, told_yes hyes]
      exact upd_same
end
end My

namespace My
open PySem PySem.Spec PyProof.Rows L2
local macro_rules | `(tactic| walk_at "hp") => `(tactic| first | assumption | exact upd_same | (refine Eq.trans (upd_ne (by first | assumption | (apply Ne.symm; assumption))) ?_; walk_at "hp"))
local macro_rules | `(tactic| walk_at "ixl") => `(tactic| (refine' ⟨_, ?xs, _, ?vv, rfl, rfl, SqL.of ?hh, ?aa, ?qq⟩; (case hh => walk_at "hp"); (case aa => rfl)))
local macro_rules | `(tactic| walk_at "setl") => `(tactic| (refine' ⟨_, ?xs, _, ?jj, rfl, rfl, ?hh, ?aa, ?qq⟩; (case hh => walk_at "hp"); (case aa => rfl)))
local macro_rules | `(tactic| walk_at "cond") => `(tactic| first | exact ⟨_, rfl⟩ | exact Nat.le_of_lt (small1000 (Nat.le_of_ble_eq_true rfl)) | decide | omega | (dsimp only; omega) | exact ⟨by decide, by decide⟩ | exact Or.inr ⟨by decide, by decide⟩ | exact Or.inl ⟨by decide, by decide⟩ | exact ⟨by decide, by decide, by decide⟩ | exact ⟨by omega, by omega⟩ | exact ⟨by omega, by omega, by omega⟩ | (simp only [List.length_cons, List.length_nil, List.length_append, List.length_take, List.length_drop]; omega) | (refine ⟨?_, ?_, ?_⟩ <;> first | decide | omega | (simp only [List.length_cons, List.length_nil, List.length_append, List.length_take, List.length_drop, Option.getD_some, Option.getD_none]; omega)))
local macro_rules | `(tactic| walk_at "st") => `(tactic| repeat (first | refine ⟨_, rfl, ?_⟩ | refine ⟨_, _, rfl, rfl, ?_⟩ | walk_at "ixl" | walk_at "setl" | refine ⟨rfl, ?_⟩ | refine Or.inl ⟨_, rfl, ?_⟩ | refine And.intro (by walk_at "cond") ?_))
theorem if_txt {c : Bool} {ta tb : TE} {σ : L2.St} {H : Hp} {Q : VK} (a b : List Nat) (ha : ∀ Kq : VK, Kq (.str (SX.S a)) H → ta σ H Kq) (hb : ∀ Kq : VK, Kq (.str (SX.S b)) H → tb σ H Kq)
    (hq : Q (.str (SX.S (if c = true then a else b))) H) : if c = true then ta σ H Q else tb σ H Q := by
  cases c with
  | true => exact ha Q hq
  | false => exact hb Q hq
theorem repl2_esc : ∀ l : List Nat, PySem.StrLaws.replL [125] [125, 125] (PySem.StrLaws.replL [123] [123, 123] l) = esc l
  | [] => by rw [PySem.StrLaws.replL_nil, PySem.StrLaws.replL_nil]; rfl
  | c :: r => by
    have ih := repl2_esc r
    have e : esc (c :: r) = if c = 123 ∨ c = 125 then c :: c :: esc r else c :: esc r := rfl
    by_cases h1 : c = 123
    · subst h1
      rw [PySem.StrLaws.replL_hit (by simp) rfl, e, if_pos (.inl rfl)]
      show PySem.StrLaws.replL [125] [125, 125] (123 :: 123 :: PySem.StrLaws.replL [123] [123, 123] r) = _
      rw [PySem.StrLaws.replL_miss (by simp), PySem.StrLaws.replL_miss (by simp), ih]
    · rw [PySem.StrLaws.replL_miss (by simpa using h1)]
      by_cases h2 : c = 125
      · subst h2
        rw [PySem.StrLaws.replL_hit (by simp) rfl, e, if_pos (.inr rfl)]
        show 125 :: 125 :: PySem.StrLaws.replL [125] [125, 125] (PySem.StrLaws.replL [123] [123, 123] r) = _
        rw [ih]
      · rw [PySem.StrLaws.replL_miss (by simpa using h2), e, if_neg (fun z => z.elim h1 h2), ih]
theorem repl_len1 (a b : Nat) : ∀ l : List Nat, (PySem.StrLaws.replL [a] [a, b] l).length ≤ 2 * l.length
  | [] => by rw [PySem.StrLaws.replL_nil]; exact Nat.le_refl _
  | c :: r => by
    have ih := repl_len1 a b r
    by_cases h1 : c = a
    · subst h1
      rw [PySem.StrLaws.replL_hit (by simp) rfl]
      show (c :: b :: PySem.StrLaws.replL [c] [c, b] r).length ≤ _
      simp only [List.length_cons]; omega
    · rw [PySem.StrLaws.replL_miss (by simpa using h1)]
      simp only [List.length_cons]; omega
theorem call_strL {X : Cx} : CallR X (.type "str") (fun xs H Q => ∃ w : Nat, xs = [.int (w : Int)] ∧ w < 1000 ∧ Q (.str (SX.S (TL.numL w))) H) := by
  intro pins s σ H xs us Q I r h
  obtain ⟨w, rfl, hw, q⟩ := h
  refine call_str_int pins s σ H _ us Q I r ⟨w, rfl, ?_, ?_⟩
  · have e : (w : Int).natAbs = w := Int.natAbs_natCast w
    rw [e]
    by_cases h0 : w = 0
    · rw [h0]; decide
    · have := (Nat.log2_lt h0 (k := 1920)).mpr (Nat.lt_of_lt_of_le hw (Nat.le_trans (by decide : 1000 ≤ 2 ^ 10) (Nat.pow_le_pow_right (by decide) (by decide))))
      exact this
  · have e := SX.num_S w
    first
      | (rw [← e] at q; exact q)
      | (show Q (.str (Str.ofString (toString (w : Int)))) H; rw [e]; exact q)
theorem FlOk.lens {f : Fl} (h : FlOk f) : f.k.length ≤ 7 ∧ f.sg.length ≤ 1 ∧ f.fi.length ≤ 1 ∧ f.al.length ≤ 1 ∧ (TL.numL f.w).length ≤ 2 ∧ f.w < 1000 := by
  have hk : ∀ k ∈ KEYS, k.length ≤ 7 := by decide
  have hs : ∀ k ∈ SGS, k.length ≤ 1 := by decide
  have ha : ∀ k ∈ ALS, k.length ≤ 1 := by decide
  have hf : ∀ k ∈ FILLS, k.length ≤ 1 := by decide
  have hw : ∀ k ∈ WS, (TL.numL k).length ≤ 2 ∧ k < 1000 := by decide +kernel
  refine ⟨hk _ h.k, hs _ h.sg, ?_, ha _ h.al, (hw _ h.w).1, (hw _ h.w).2⟩
  rcases h.fi with e | ⟨_, e⟩
  · rw [e]; decide
  · exact hf _ e
theorem ite_len {c : Bool} {a b : List Nat} {n : Nat} (ha : a.length ≤ n) (hb : b.length ≤ n) : (if c = true then a else b).length ≤ n := by
  cases c with
  | true => exact ha
  | false => exact hb
section
variable {P : Program} {w : World} {K : PySem.W.Frag} {mg : Str → Option Value} {base : Heap}
def spEsc : Sp := fun vs H Q _ => Hd (∃ l : List Nat, vs = [.str (SX.S l)] ∧ l.length ≤ 1000 ∧ Q (.str (SX.S (esc l))) H)
theorem ok_esc (T : Txt K mg) : FnOk P w K mg base CX0 1 T.f__law_braced_text T.fd__law_braced_text ["_law_shown"] spEsc := by
  obtain ⟨oc, od, kV, doc, pm, an, cdv, ct, osl, efd, lk, hcd⟩ := T.D__law_braced_text.F.ex
  rw [efd] at lk
  refine FnOk.cong efd (fn_ofT lk hcd sc__law_braced_text (by decide +kernel) (by decide) (fun vs H Q E h => ?_) fun A outer s H vs Q E hr h => ?_)
  · obtain ⟨d, rfl, _⟩ := h.out
    rfl
  · obtain ⟨l, rfl, hz, k⟩ := h.out
    refine ⟨_, CwR.psst_one (CwR.pst_ret (CwR.pet_replT (CwR.pet_replC (pv 0)))), ?_⟩
    walk_at "st"
    have e1 : Txt.replace (SX.S l) (Str.ofString "{") (Str.ofString "{{") = SX.S (PySem.StrLaws.replL [123] [123, 123] l) := TL.ext_tl (PySem.StrLaws.replace_list (x := SX.S l) (y := Str.ofString "{") (z := Str.ofString "{{") (by decide +kernel))
    have eln : (SX.S l).length = l.length := SX.S_len l
    have el2 : (Str.ofString "{{").length = 2 := by decide +kernel
    refine ⟨by rw [eln, el2]; omega, ?_⟩
    rw [e1]
    have hl1 := repl_len1 123 123 l
    have e2 := repl2_esc l
    generalize PySem.StrLaws.replL [123] [123, 123] l = m at hl1 e2 ⊢
    have e3 : Txt.replace (SX.S m) (Str.ofString "}") (Str.ofString "}}") = SX.S (PySem.StrLaws.replL [125] [125, 125] m) := TL.ext_tl (PySem.StrLaws.replace_list (x := SX.S m) (y := Str.ofString "}") (z := Str.ofString "}}") (by decide +kernel))
    have elm : (SX.S m).length = m.length := SX.S_len m
    have el3 : (Str.ofString "}}").length = 2 := by decide +kernel
    refine ⟨_, rfl, by rw [elm, el3]; omega, ?_⟩
    rw [e3, e2]
    exact k
def flT (f : Fl) : List V := [.str (SX.S f.k), .str (SX.S f.sg), .str (SX.S f.fi), .str (SX.S f.al), .int (f.w : Int)]
def spBr : Sp := fun vs H Q _ => Hd (∃ (x : Addr) (f : Fl), vs = [.ref x] ∧ H x = some (.tup (flT f)) ∧ FlOk f ∧ Q (.str (SX.S (bt (.fld f)))) H)
theorem ok_braced (T : Txt K mg) : FnOk P w K mg base CX0 1 T.f__law_braced T.fd__law_braced ["_law_field_here"] spBr := by
  refine T.D__law_braced.F.ok sc__law_braced (fun vs H Q E h => ?_) (fun cdv A outer s H vs Q E hr h => ?_)
  · obtain ⟨x, f, rfl, _⟩ := h.out
    rfl
  · obtain ⟨x, f, rfl, hx, hf, k⟩ := h.out
    refine ⟨_, (pss_cons (ps_asg (pv 0) (pg_tup rfl (pgs_cons (pg_name (i := 1) sc__law_braced.nd rfl (by first | exact Or.inl rfl | exact Or.inr rfl)) (pgs_cons (pg_name (i := 2) sc__law_braced.nd rfl (by first | exact Or.inl rfl | exact Or.inr rfl)) (pgs_cons (pg_name (i := 3) sc__law_braced.nd rfl (by first | exact Or.inl rfl | exact Or.inr rfl)) (pgs_cons (pg_name (i := 4) sc__law_braced.nd rfl (by first | exact Or.inl rfl | exact Or.inr rfl)) (pgs_cons (pg_name (i := 5) sc__law_braced.nd rfl (by first | exact Or.inl rfl | exact Or.inr rfl)) pgs_nil)))))))
  (pss_cons (ps_set (i := 6) sc__law_braced.nd rfl (by first | exact Or.inl rfl | exact Or.inr rfl) (pe_op SL.op_addL (pe_op SL.op_addL (pe_ifExp (pt_cmpR SL.op_neL (pv 3) (SL.pe_strL [32] (by decide +kernel)) (nomark _)) (pv 3) (SL.pe_strL [] (by decide +kernel))) (pv 4)) (pe_ifExp (pt_cmpR op_gt (pv 5) pe_int (nomark _)) (pe_callTy call_strL (by rfl) T.B.n_str (by decide +kernel) (pa_cons (pv 5) pa_nil)) (SL.pe_strL [] (by decide +kernel)))))
  (pss_one (ps_ret (pe_op SL.op_addL (pe_op SL.op_addL (pe_op SL.op_addL (pe_op SL.op_addL (SL.pe_strL [123] (by decide +kernel)) (pv 1)) (pe_ifExp (pt_cmpR SL.op_neL (pv 2) (SL.pe_strL [] (by decide +kernel)) (nomark _)) (pe_op SL.op_addL (SL.pe_strL [33] (by decide +kernel)) (pv 2)) (SL.pe_strL [] (by decide +kernel)))) (pe_ifExp (pt_cmpR SL.op_neL (pv 6) (SL.pe_strL [] (by decide +kernel)) (nomark _)) (pe_op SL.op_addL (SL.pe_strL [58] (by decide +kernel)) (pv 6)) (SL.pe_strL [] (by decide +kernel)))) (SL.pe_strL [125] (by decide +kernel))))))), ?_⟩
    walk_at "st"
    refine ⟨x, _, rfl, SqT.of hx, rfl, _, _, rfl, _, _, rfl, _, _, rfl, _, _, rfl, _, _, rfl, rfl, ?_⟩
    walk_at "st"
    refine if_txt f.fi [] (fun Kq hk => ?_) (fun Kq hk => ?_) ?_
    · walk_at "st"
      exact hk
    · exact hk
    obtain ⟨l1, l2, l3, l4, l5, l6⟩ := hf.lens
    have b1 : (if (!decide (f.fi = [32])) = true then f.fi else []).length ≤ 1 := ite_len l3 (Nat.zero_le _)
    have es : (if (!decide (f.fi = [32])) = true then f.fi else []) ++ f.al ++ (if decide ((0 : Int) < f.w) = true then TL.numL f.w else []) = spc f := by
      unfold spc
      congr 1
      · congr 1
        by_cases z : f.fi = [32]
        · rw [if_pos z, decide_eq_true z]; rfl
        · rw [if_neg z, decide_eq_false z]; rfl
      · by_cases z : f.w > 0
        · rw [if_pos z, decide_eq_true (show (0 : Int) < f.w by omega)]; rfl
        · rw [if_neg z, decide_eq_false (show ¬ (0 : Int) < f.w by omega)]; rfl
    generalize (if (!decide (f.fi = [32])) = true then f.fi else []) = sf at b1 es ⊢
    walk_at "st"
    refine if_txt (TL.numL f.w) [] (fun Kq hk => ?_) (fun Kq hk => ?_) ?_
    · walk_at "st"
      exact hk
    · exact hk
    have b2 : (if decide ((0 : Int) < f.w) = true then TL.numL f.w else []).length ≤ 2 := ite_len l5 (Nat.zero_le _)
    have b3 : (sf ++ f.al).length ≤ 2 := by rw [List.length_append]; omega
    walk_at "st"
    rw [es]
    have b4 : (spc f).length ≤ 4 := by rw [← es, List.length_append]; omega
    refine if_txt ([33] ++ f.sg) [] (fun Kq hk => ?_) (fun Kq hk => ?_) ?_
    · walk_at "st"
      exact hk
    · exact hk
    have b5 : (if (!decide (f.sg = [])) = true then [33] ++ f.sg else []).length ≤ 2 := ite_len (by simp only [List.length_append, List.length_singleton]; omega) (Nat.zero_le _)
    have es2 : (if (!decide (f.sg = [])) = true then [33] ++ f.sg else []) = (if f.sg = [] then [] else 33 :: f.sg) := by
      by_cases z : f.sg = []
      · rw [if_pos z, decide_eq_true z]; rfl
      · rw [if_neg z, decide_eq_false z]; rfl
    rw [es2] at b5 ⊢
    walk_at "st"
    refine if_txt ([58] ++ spc f) [] (fun Kq hk => ?_) (fun Kq hk => ?_) ?_
    · walk_at "st"
      exact hk
    · exact hk
    have b6 : (if (!decide (spc f = [])) = true then [58] ++ spc f else []).length ≤ 5 := ite_len (by simp only [List.length_append, List.length_singleton]; omega) (Nat.zero_le _)
    have es3 : (if (!decide (spc f = [])) = true then [58] ++ spc f else []) = (if spc f = [] then [] else 58 :: spc f) := by
      by_cases z : spc f = []
      · rw [if_pos z, decide_eq_true z]; rfl
      · rw [if_neg z, decide_eq_false z]; rfl
    rw [es3] at b6 ⊢
    walk_at "st"
    exact k
end
end My

namespace My
open PySem PySem.Spec PyProof.Rows L2
local macro_rules | `(tactic| walk_at "hp") => `(tactic| first | assumption | exact upd_same | (refine Eq.trans (upd_ne (by first | assumption | (apply Ne.symm; assumption))) ?_; walk_at "hp"))
local macro_rules | `(tactic| walk_at "ixl") => `(tactic| (refine' ⟨_, ?xs, _, ?vv, rfl, rfl, SqL.of ?hh, ?aa, ?qq⟩; (case hh => walk_at "hp"); (case aa => rfl)))
local macro_rules | `(tactic| walk_at "setl") => `(tactic| (refine' ⟨_, ?xs, _, ?jj, rfl, rfl, ?hh, ?aa, ?qq⟩; (case hh => walk_at "hp"); (case aa => rfl)))
local macro_rules | `(tactic| walk_at "cond") => `(tactic| first | exact ⟨_, rfl⟩ | exact Nat.le_of_lt (small1000 (Nat.le_of_ble_eq_true rfl)) | decide | omega | (dsimp only; omega) | exact ⟨by decide, by decide⟩ | exact Or.inr ⟨by decide, by decide⟩ | exact Or.inl ⟨by decide, by decide⟩ | exact ⟨by decide, by decide, by decide⟩ | exact ⟨by omega, by omega⟩ | exact ⟨by omega, by omega, by omega⟩ | (simp only [List.length_cons, List.length_nil, List.length_append, List.length_take, List.length_drop]; omega) | (refine ⟨?_, ?_, ?_⟩ <;> first | decide | omega | (simp only [List.length_cons, List.length_nil, List.length_append, List.length_take, List.length_drop, Option.getD_some, Option.getD_none]; omega)))
local macro_rules | `(tactic| walk_at "st") => `(tactic| repeat (first | refine ⟨_, rfl, ?_⟩ | refine ⟨_, _, rfl, rfl, ?_⟩ | walk_at "ixl" | walk_at "setl" | refine ⟨rfl, ?_⟩ | refine Or.inl ⟨_, rfl, ?_⟩ | refine And.intro (by walk_at "cond") ?_))
theorem off_of {H : Hp} {p q x : Addr} {o : HO} (h : H x = some o) (hp : x ≠ p) (hq : x ≠ q) : off H p q x = some o := by
  unfold off
  rw [if_neg (fun z => z.elim hp hq)]
  exact h
theorem mem_tx {v : V} {xs : List (List Nat)} (h : v ∈ txV xs) : ∃ l ∈ xs, v = .str (SX.S l) := by
  obtain ⟨l, hl, e⟩ := List.mem_map.mp h
  exact ⟨l, hl, e.symm⟩
section
variable {P : Program} {w : World} {K : PySem.W.Frag} {mg : Str → Option Value} {base : Heap}
def spField : Sp := fun vs H Q _ => Hd (∃ (p q ka : Addr) (n : Int), vs = [.ref p, .ref ka] ∧ Stm H p q n ∧ n + 10 ≤ 90000 ∧ off H p q ka = some (.lst (txV KEYS)) ∧
  ∀ (x : Addr) (f : Fl) (n' : Int) (H' : Hp), H x = none → off H' p q x = some (.tup (flT f)) → FlOk f → n' ≤ n + 6 → Stm H' p q n' → Xt H H' p q → Q (.ref x) H')
theorem ok_field (T : Txt K mg) : FnOk P w K mg base CX0 3 T.f__law_field T.fd__law_field ["_law_stream", "_law_keys"] spField := by
  have G__law_draw : FnOk P w K mg base CX0 1 T.f__law_draw T.fd__law_draw _ spDraw := ok_draw T
  have G__law_pick : FnOk P w K mg base CX0 2 T.f__law_pick T.fd__law_pick _ spPick := ok_pick T
  refine T.D__law_field.F.ok sc__law_field (fun vs H Q E h => ?_) (fun cdv A outer s H vs Q E hr h => ?_)
  · obtain ⟨p, q, ka, n, rfl, _⟩ := h.out
    rfl
  · obtain ⟨p, q, ka, n, rfl, S, hn, hka, k⟩ := h.out
    refine ⟨_, (pss_cons (ps_par (i := 2) (j := 3) rfl sc__law_field.nd rfl rfl (by decide) rfl rfl (pa_cons (pe_call G__law_pick (hr.mono (by first | decide | omega)) rfl T.D__law_pick.g T.D__law_pick.F.kp T.D__law_pick.b .nil pass0 (pa_cons (pv 0) (pa_cons (pv 1) pa_nil))) (pa_cons (pe_call G__law_pick (hr.mono (by first | decide | omega)) rfl T.D__law_pick.g T.D__law_pick.F.kp T.D__law_pick.b .nil pass0 (pa_cons (pv 0) (pa_cons (pe_lstG (pa_cons (SL.pe_strL [] (by decide +kernel)) (pa_cons (SL.pe_strL [] (by decide +kernel)) (pa_cons (SL.pe_strL [114] (by decide +kernel)) (pa_cons (SL.pe_strL [115] (by decide +kernel)) pa_nil))))) pa_nil))) pa_nil)) rfl)
  (pss_cons (ps_par (i := 4) (j := 5) rfl sc__law_field.nd rfl rfl (by decide) rfl rfl (pa_cons (pe_call G__law_pick (hr.mono (by first | decide | omega)) rfl T.D__law_pick.g T.D__law_pick.F.kp T.D__law_pick.b .nil pass0 (pa_cons (pv 0) (pa_cons (pe_lstG (pa_cons (SL.pe_strL [] (by decide +kernel)) (pa_cons (SL.pe_strL [] (by decide +kernel)) (pa_cons (SL.pe_strL [60] (by decide +kernel)) (pa_cons (SL.pe_strL [62] (by decide +kernel)) (pa_cons (SL.pe_strL [94] (by decide +kernel)) pa_nil)))))) pa_nil))) (pa_cons (SL.pe_strL [32] (by decide +kernel)) pa_nil)) rfl)
  (pss_cons (ps_if (PW.pt (pw_and (pt_cmpR SL.op_neL (pv 4) (SL.pe_strL [] (by decide +kernel)) (nomark _)) (pw_and1 (pt_cmpR op_eq (pe_call G__law_draw (hr.mono (by first | decide | omega)) rfl T.D__law_draw.g T.D__law_draw.F.kp T.D__law_draw.b .nil pass0 (pa_cons (pv 0) (pa_cons pe_int pa_nil))) pe_int (nomark _)))))
    (pss_one (ps_set (i := 5) sc__law_field.nd rfl (by first | exact Or.inl rfl | exact Or.inr rfl) (pe_call G__law_pick (hr.mono (by first | decide | omega)) rfl T.D__law_pick.g T.D__law_pick.F.kp T.D__law_pick.b .nil pass0 (pa_cons (pv 0) (pa_cons (pe_lstG (pa_cons (SL.pe_strL [42] (by decide +kernel)) (pa_cons (SL.pe_strL [60] (by decide +kernel)) (pa_cons (SL.pe_strL [62] (by decide +kernel)) (pa_cons (SL.pe_strL [94] (by decide +kernel)) (pa_cons (SL.pe_strL [58] (by decide +kernel)) (pa_cons (SL.pe_strL [33] (by decide +kernel)) (pa_cons (SL.pe_strL [48] (by decide +kernel)) (pa_cons (SL.pe_strL [53] (by decide +kernel)) (pa_cons (SL.pe_strL [36] (by decide +kernel)) (pa_cons (SL.pe_strL [120] (by decide +kernel)) (pa_cons (SL.pe_strL [10] (by decide +kernel)) (pa_cons (SL.pe_strL [39] (by decide +kernel)) pa_nil))))))))))))) pa_nil)))))
    pss_nil)
  (pss_one (ps_ret (pe_tup (pa_cons (pv 2) (pa_cons (pv 3) (pa_cons (pv 5) (pa_cons (pv 4) (pa_cons (pe_call G__law_pick (hr.mono (by first | decide | omega)) rfl T.D__law_pick.g T.D__law_pick.F.kp T.D__law_pick.b .nil pass0 (pa_cons (pv 0) (pa_cons (pe_lstG (pa_cons pe_int (pa_cons pe_int (pa_cons pe_int (pa_cons pe_int (pa_cons pe_int (pa_cons pe_int (pa_cons pe_int (pa_cons pe_int (pa_cons pe_int pa_nil)))))))))) pa_nil))) pa_nil))))))))))), ?_⟩
    walk_at "st"
    refine .a ⟨p, q, ka, n, _, rfl, S, by omega, hka, by decide, by decide, fun v1 n1 H1 hv1 hn1 S1 fr1 => ?_⟩
    have X1 : Xt H H1 p q := .of (n := n) S1 fr1
    obtain ⟨kk, hkk, rfl⟩ := mem_tx hv1
    walk_at "st"
    intro l2 H2 hl2 e2 s2
    obtain ⟨hpn1, hqn1⟩ := S1.there
    walk_at "st"
    refine .a ⟨p, q, l2, n1, txV SGS, rfl, S1.same s2, by omega, off_of e2 (fun z => hpn1 (z ▸ hl2)) (fun z => hqn1 (z ▸ hl2)), by decide, by decide, fun v2 n2 H3 hv2 hn2 S3 fr3 => ?_⟩
    have X3 : Xt H H3 p q := (X1.trans (.same s2)).trans (.of (n := n1) S3 fr3)
    obtain ⟨sg, hsg, rfl⟩ := mem_tx hv2
    refine ⟨_, _, rfl, ?_⟩
    walk_at "st"
    intro l4 H4 hl4 e4 s4
    obtain ⟨hpn3, hqn3⟩ := S3.there
    walk_at "st"
    refine .a ⟨p, q, l4, n2, txV ALS, rfl, S3.same s4, by omega, off_of e4 (fun z => hpn3 (z ▸ hl4)) (fun z => hqn3 (z ▸ hl4)), by decide, by decide, fun v3 n3 H5 hv3 hn3 S5 fr5 => ?_⟩
    have X5 : Xt H H5 p q := (X3.trans (.same s4)).trans (.of (n := n2) S5 fr5)
    obtain ⟨al, hal, rfl⟩ := mem_tx hv3
    refine ⟨_, _, rfl, ?_⟩
    walk_at "st"
    have fin : ∀ (fi : List Nat) (n4 : Int) (H6 : Hp) (R : VK), (fi = [32] ∨ (al ≠ [] ∧ fi ∈ FILLS)) → n4 ≤ n + 5 → Stm H6 p q n4 → Xt H H6 p q → R = Q → tTup (tCons (tVar 2) (tCons (tVar 3) (tCons (tVar 5) (tCons (tVar 4) (tCons (tCall spPick [] E0 (tCons (tVar 0) (tCons (tLstG (tCons (tC (.int 0)) (tCons (tC (.int 0)) (tCons (tC (.int 1)) (tCons (tC (.int 5)) (tCons (tC (.int 9)) (tCons (tC (.int 10)) (tCons (tC (.int 12)) (tCons (tC (.int 30)) (tCons (tC (.int 99)) tNil)))))))))) tNil))) tNil)))))
        [some (.ref p), some (.ref ka), some (.str (SX.S kk)), some (.str (SX.S sg)), some (.str (SX.S al)), some (.str (SX.S fi))] H6 R := by
      intro fi n4 H6 R hfi hn4 S6 X6 hR
      subst hR
      walk_at "st"
      intro l7 H7 hl7 e7 s7
      obtain ⟨hpn6, hqn6⟩ := S6.there
      refine .a ⟨p, q, l7, n4, WS.map fun z : Nat => V.int (z : Int), rfl, S6.same s7, by omega, off_of e7 (fun z => hpn6 (z ▸ hl7)) (fun z => hqn6 (z ▸ hl7)), by decide, by decide, fun v5 n5 H8 hv5 hn5 S8 fr8 => ?_⟩
      obtain ⟨wd, hwd, rfl⟩ := List.mem_map.mp hv5
      have X8 : Xt H H8 p q := (X6.trans (.same s7)).trans (.of (n := n4) S8 fr8)
      walk_at "st"
      intro x hx
      obtain ⟨hpn8, hqn8⟩ := S8.there
      have xp : x ≠ p := fun z => hpn8 (z ▸ hx)
      have xq : x ≠ q := fun z => hqn8 (z ▸ hx)
      exact k x ⟨kk, sg, fi, al, wd⟩ n5 _ (X8.dm x hx) (off_of upd_same xp xq) ⟨hkk, hsg, hal, hfi, hwd⟩ (by omega) (S8.put xp xq) (X8.trans (.new hx))
    by_cases ha : al = []
    · refine if_false_of (by rw [decide_eq_true ha]; rfl) ?_
      refine if_false_of rfl ?_
      exact fin [32] n3 H5 _ (.inl rfl) (by omega) S5 X5 rfl
    · refine if_true_of (by rw [decide_eq_false ha]; rfl) ?_
      walk_at "st"
      refine .a ⟨p, q, n3, 2, rfl, S5, by omega, by omega, by omega, fun v n4 H6 v0 v1 hn4 S6 fr6 => ?_⟩
      have X6 : Xt H H6 p q := X5.trans (.of (n := n3) S6 fr6)
      walk_at "st"
      by_cases hv : v = 0
      · refine if_true_of (decide_eq_true (congrArg V.int hv)) ?_
        walk_at "st"
        intro l7 H7 hl7 e7 s7
        obtain ⟨hpn6, hqn6⟩ := S6.there
        walk_at "st"
        refine .a ⟨p, q, l7, n4, txV FILLS, rfl, S6.same s7, by omega, off_of e7 (fun z => hpn6 (z ▸ hl7)) (fun z => hqn6 (z ▸ hl7)), by decide, by decide, fun v5 n5 H8 hv5 hn5 S8 fr8 => ?_⟩
        obtain ⟨fi, hfi, rfl⟩ := mem_tx hv5
        have X8 : Xt H H8 p q := (X6.trans (.same s7)).trans (.of (n := n4) S8 fr8)
        exact fin fi n5 H8 _ (.inr ⟨ha, hfi⟩) (by omega) S8 X8 rfl
      · refine if_false_of (decide_eq_false fun e => hv (V.int.inj e)) ?_
        exact fin [32] n4 H6 _ (.inl rfl) (by omega) S6 X6 rfl
def PbV (H : Hp) (v : V) : Pb → Prop
  | .txt l => v = .str (SX.S l)
  | .fld f => ∃ x, v = .ref x ∧ H x = some (.tup (flT f))
inductive PbsV (H : Hp) : List V → List Pb → Prop
  | nil : PbsV H [] []
  | cons {v : V} {p : Pb} {vs : List V} {ps : List Pb} : PbV H v p → PbsV H vs ps → PbsV H (v :: vs) (p :: ps)
theorem PbV.mono {H H' : Hp} {v : V} : ∀ {p : Pb}, PbV H v p → Same H H' → PbV H' v p
  | .txt _, h, _ => h
  | .fld _, ⟨x, e, h⟩, s => ⟨x, e, s _ _ h⟩
theorem PbsV.mono {H H' : Hp} {vs : List V} {ps : List Pb} (h : PbsV H vs ps) (s : Same H H') : PbsV H' vs ps := by
  induction h with
  | nil => exact .nil
  | cons h _ ih => exact .cons (h.mono s) ih
theorem PbsV.len {H : Hp} {vs : List V} {ps : List Pb} (h : PbsV H vs ps) : vs.length = ps.length := by
  induction h with
  | nil => rfl
  | cons _ _ ih => exact congrArg Nat.succ ih
theorem PbsV.app {H : Hp} {vs ws : List V} {ps qs : List Pb} (h : PbsV H vs ps) (h2 : PbsV H ws qs) : PbsV H (vs ++ ws) (ps ++ qs) := by
  induction h with
  | nil => exact h2
  | cons h _ ih => exact .cons h ih
theorem PbsV.get {H : Hp} {vs : List V} {ps : List Pb} (h : PbsV H vs ps) : ∀ {i : Nat} {v : V}, vs[i]? = some v → ∃ pc, ps[i]? = some pc ∧ PbV H v pc := by
  induction h with
  | nil => intro i v e; simp at e
  | cons h _ ih =>
    intro i v e
    cases i with
    | zero => exact ⟨_, rfl, by rw [← Option.some.inj e]; exact h⟩
    | succ i => exact ih (i := i) e
theorem PbsV.put {H : Hp} {p q b : Addr} {zs : List V} {o : HO} (hb : H b = some (.lst zs)) {vs : List V} {ps : List Pb} (h : PbsV (off H p q) vs ps) : PbsV (off (upd H b o) p q) vs ps := by
  induction h with
  | nil => exact .nil
  | @cons v pc vs ps h _ ih =>
    refine .cons ?_ ih
    cases pc with
    | txt l => exact h
    | fld n =>
      obtain ⟨x, e, hx⟩ := h
      refine ⟨x, e, ?_⟩
      have hxb : x ≠ b := fun z => by
        have := off_same _ _ hx
        rw [z, hb] at this; cases this
      unfold off at hx ⊢
      by_cases c : x = p ∨ x = q
      · rw [if_pos c] at hx; cases hx
      · rw [if_neg c] at hx ⊢
        rw [upd_ne hxb]; exact hx
def SG1 : List Nat := [97, 32, 123, 125, 36, 58, 33, 10, 62, 57]
theorem sg1_lo : ∀ c ∈ SG1, c < 128 := by decide
def spParts : Sp := fun vs H Q _ => Hd (∃ (p q ka : Addr) (n : Int), vs = [.ref p, .int 3, .ref ka] ∧ Stm H p q n ∧ n + 60 ≤ 90000 ∧ off H p q ka = some (.lst (txV KEYS)) ∧
  ∀ (b : Addr) (xs : List V) (ps : List Pb) (n' : Int) (H' : Hp), H b = none → off H' p q b = some (.lst xs) → PbsV (off H' p q) xs ps → (∀ c ∈ ps, PbOk c) → ps.length ≤ 3 → n' ≤ n + 40 → Stm H' p q n' → Xt H H' p q → Q (.ref b) H')
theorem ok_parts (T : Txt K mg) : FnOk P w K mg base CX0 5 T.f__law_format_parts T.fd__law_format_parts ["_law_stream", "_law_most", "_law_keys"] spParts := by
  have G__law_draw : FnOk P w K mg base CX0 1 T.f__law_draw T.fd__law_draw _ spDraw := ok_draw T
  have G__law_text : FnOk P w K mg base CX0 3 T.f__law_text T.fd__law_text _ spText := ok_text T
  have G__law_field : FnOk P w K mg base CX0 3 T.f__law_field T.fd__law_field _ spField := ok_field T
  refine T.D__law_format_parts.F.ok sc__law_format_parts (fun vs H Q E h => ?_) (fun cdv A outer s H vs Q E hr h => ?_)
  · obtain ⟨p, q, ka, n, rfl, _⟩ := h.out
    rfl
  · obtain ⟨p, q, ka, n, rfl, S, hn, hka, k⟩ := h.out
    refine ⟨_, (pss_cons (ps_set (i := 3) sc__law_format_parts.nd rfl (by first | exact Or.inl rfl | exact Or.inr rfl) (pe_lst pa_nil))
  (pss_cons (ps_for PassesOwn.never rfl (pi_range1 rfl T.B.n_range (pa_cons (pe_call G__law_draw (hr.mono (by first | decide | omega)) rfl T.D__law_draw.g T.D__law_draw.F.kp T.D__law_draw.b .nil pass0 (pa_cons (pv 0) (pa_cons (pe_op op_add (pv 1) pe_int) pa_nil))) pa_nil)) (pg_name (i := 4) sc__law_format_parts.nd rfl (by first | exact Or.inl rfl | exact Or.inr rfl))
    (pss_one (ps_if (pt_cmpR op_eq (pe_call G__law_draw (hr.mono (by first | decide | omega)) rfl T.D__law_draw.g T.D__law_draw.F.kp T.D__law_draw.b .nil pass0 (pa_cons (pv 0) (pa_cons pe_int pa_nil))) pe_int (nomark _))
    (pss_one (ps_expr (pe_bm PySem.F.plainAttrs_list PySem.F.slot_list_append PySem.F.type_list_append mt_append (pv 3) (pa_cons (pe_call G__law_text (hr.mono (by first | decide | omega)) rfl T.D__law_text.g T.D__law_text.F.kp T.D__law_text.b .nil pass0 (pa_cons (pv 0) (pa_cons (SL.pe_strL [97, 32, 123, 125, 36, 58, 33, 10, 62, 57] (by decide +kernel)) (pa_cons pe_int pa_nil)))) pa_nil))))
    (pss_one (ps_expr (pe_bm PySem.F.plainAttrs_list PySem.F.slot_list_append PySem.F.type_list_append mt_append (pv 3) (pa_cons (pe_call G__law_field (hr.mono (by first | decide | omega)) rfl T.D__law_field.g T.D__law_field.F.kp T.D__law_field.b .nil pass0 (pa_cons (pv 0) (pa_cons (pv 2) pa_nil))) pa_nil)))))))
  (pss_one (ps_ret (pv 3))))), ?_⟩
    walk_at "st"
    intro b hb
    walk_at "st"
    obtain ⟨hpn, hqn⟩ := S.there
    have bp : b ≠ p := fun z => hpn (z ▸ hb)
    have bq : b ≠ q := fun z => hqn (z ▸ hb)
    have X0 : Xt H (upd H b (.lst [])) p q := Xt.new hb
    have S0 : Stm (upd H b (.lst [])) p q n := S.put bp bq
    have hb0 : (upd H b (.lst [])) b = some (.lst []) := upd_same
    generalize upd H b (.lst []) = H0 at X0 S0 hb0 ⊢
    refine .a ⟨p, q, n, 4, rfl, S0, by omega, by omega, by omega, fun d n1 H1 d0 d1 hn1 S1 fr1 => ?_⟩
    have X1 : Xt H0 H1 p q := .of (n := n) S1 fr1
    walk_at "st"
    refine for_rng (fun i σ Hi => ∃ (xs : List V) (ps : List Pb) (n' : Int) (y : Option V), σ = [some (.ref p), some (.int 3), some (.ref ka), some (.ref b), y] ∧ Hi b = some (.lst xs) ∧ PbsV (off Hi p q) xs ps ∧ (∀ c ∈ ps, PbOk c) ∧ ps.length ≤ i ∧ n' ≤ n + 1 + 8 * i ∧ Stm Hi p q n' ∧ Xt H Hi p q) ⟨[], [], n1, none, rfl, X1.at hb0 bp bq, .nil, (fun _ z => nomatch z), Nat.le_refl _, by omega, S1, X0.trans X1⟩ ?_ ?_
    · rintro σ Hi ⟨xs, ps, n', y, rfl, h1, h2, h3, h4, h5, h6, h7⟩
      walk_at "st"
      exact k b xs ps n' Hi hb (off_of h1 bp bq) h2 h3 (by omega) (by omega) h6 h7
    · rintro R i σ Hi hi ⟨xs, ps, n', y, rfl, h1, h2, h3, h4, h5, h6, h7⟩ N hN
      walk_at "st"
      refine .a ⟨p, q, n', 2, rfl, h6, by omega, by omega, by omega, fun v n2 H2 v0 v1 hn2 S2 fr2 => ?_⟩
      have X2 : Xt Hi H2 p q := .of (n := n') S2 fr2
      walk_at "st"
      have hl : xs.length = ps.length := h2.len
      by_cases hv : v = 0
      · refine if_true_of (decide_eq_true (congrArg V.int hv)) ?_
        walk_at "st"
        refine ⟨.inl ⟨rfl, _, SqL.of (X2.at h1 bp bq)⟩, ?_⟩
        walk_at "st"
        refine .a ⟨p, q, n2, SG1, 4, rfl, S2, by omega, by decide, by decide, by omega, fun t n3 H3 ht hl3 hn3 S3 X3 => ?_⟩
        have hb3 : H3 b = some (.lst xs) := (X2.trans X3).at h1 bp bq
        walk_at "st"
        refine ⟨_, _, _, rfl, rfl, hb3, szl (by omega), ?_⟩
        rw [hN]
        refine .a ⟨xs ++ [.str (SX.S t)], ps ++ [.txt t], n3, _, rfl, upd_same, ((h2.mono (X2.trans X3).fr).put hb3).app (.cons (show PbV _ _ (.txt t) from rfl) .nil), ?_, ?_, by omega, S3.put bp bq, (h7.trans (X2.trans X3)).put hb⟩
        · intro c hc
          rcases List.mem_append.mp hc with hc | hc
          · exact h3 c hc
          · rw [List.mem_singleton.mp hc]; exact ⟨hl3, fun c hc => sg1_lo c (ht c hc)⟩
        · rw [List.length_append, List.length_singleton]; omega
      · refine if_false_of (decide_eq_false fun e => hv (V.int.inj e)) ?_
        walk_at "st"
        refine ⟨.inl ⟨rfl, _, SqL.of (X2.at h1 bp bq)⟩, ?_⟩
        walk_at "st"
        have hka2 : off H2 p q ka = some (.lst (txV KEYS)) := (h7.trans X2).fr _ _ hka
        refine .a ⟨p, q, ka, n2, rfl, S2, by omega, hka2, fun x f n3 H3 hx hx3 hf hn3 S3 X3 => ?_⟩
        have hb3 : H3 b = some (.lst xs) := (X2.trans X3).at h1 bp bq
        walk_at "st"
        refine ⟨_, _, _, rfl, rfl, hb3, szl (by omega), ?_⟩
        rw [hN]
        have xb : x ≠ b := fun z => by
          have e := off_same _ _ hx3
          rw [z, hb3] at e; cases e
        have hx4 : PbV (off (upd H3 b (.lst (xs ++ [.ref x]))) p q) (.ref x) (.fld f) := by
          refine ⟨x, rfl, ?_⟩
          unfold off at hx3 ⊢
          by_cases c : x = p ∨ x = q
          · rw [if_pos c] at hx3; cases hx3
          · rw [if_neg c] at hx3 ⊢
            rw [upd_ne xb]; exact hx3
        refine .a ⟨xs ++ [.ref x], ps ++ [.fld f], n3, _, rfl, upd_same, ((h2.mono (X2.trans X3).fr).put hb3).app (.cons hx4 .nil), ?_, ?_, by omega, S3.put bp bq, (h7.trans (X2.trans X3)).put hb⟩
        · intro c hc
          rcases List.mem_append.mp hc with hc | hc
          · exact h3 c hc
          · rw [List.mem_singleton.mp hc]; exact hf
        · rw [List.length_append, List.length_singleton]; omega
end
end My

namespace My
open PySem PySem.Spec PyProof.Rows L2
inductive D where
  | non | bl (b : Bool) | int (i : Int) | str (z : Str)
  | lst (ds : List D) | tup (ds : List D) | dct (ds : List D)
def keys3 : List Str := [SX.S [123], SX.S [124], SX.S [125]]
def kz (xs : List V) : List (Key × V) := (keys3.zip xs).map fun kv => (Sum.inr kv.1, kv.2)
theorem mergeK_nd : ∀ (l acc : List (Key × V)), ((acc ++ l).map (·.1)).Nodup → mergeK acc l = acc ++ l
  | [], acc, _ => (List.append_nil acc).symm
  | kv :: l, acc, h => by
    have hn : valV acc kv.1 = none := by
      cases e : valV acc kv.1 with
      | none => rfl
      | some v =>
        have m := valV_in e
        rw [List.map_append, List.map_cons] at h
        exact absurd m (fun z => (List.nodup_append.mp h).2.2 _ z _ List.mem_cons_self rfl)
    show mergeK (putK acc kv.1 kv.2) l = _
    rw [putK_new _ hn, mergeK_nd l (acc ++ [kv]) (by simpa using h)]
    simp
theorem kz_keys (xs : List V) : (kz xs).map (·.1) = (keys3.take xs.length).map Sum.inr := by
  unfold kz
  rw [List.map_map]
  have e : ((fun x : Key × V => x.1) ∘ fun kv : Str × V => ((Sum.inr kv.1 : Key), kv.2)) = (fun kv : Str × V => (Sum.inr kv.1 : Key)) := rfl
  rw [e]
  have q : ∀ (ks : List Str) (ys : List V), (ks.zip ys).map (fun kv : Str × V => (Sum.inr kv.1 : Key)) = (ks.take ys.length).map Sum.inr := by
    intro ks
    induction ks with
    | nil => intro ys; simp
    | cons k ks ih =>
      intro ys
      cases ys with
      | nil => simp
      | cons y ys => simp [ih ys]
  exact q _ _
theorem keys3_nd : (keys3.map (Sum.inr : Str → Key)).Nodup := by decide +kernel
theorem kz_nd (xs : List V) : ((kz xs).map (·.1)).Nodup := by
  rw [kz_keys, List.map_take]
  exact keys3_nd.sublist (List.take_sublist _ _)
theorem mergeK_kz (xs : List V) : mergeK [] (kz xs) = kz xs := by
  rw [mergeK_nd _ _ (by simpa using kz_nd xs)]
  rfl
theorem kz_len {xs : List V} (h : xs.length ≤ 3) : (kz xs).length = xs.length := by
  unfold kz
  rw [List.length_map, List.length_zip]
  exact Nat.min_eq_right h
theorem kz_at {xs : List V} {i : Nat} {k : Key} {v : V} (h : (kz xs)[i]? = some (k, v)) : ∃ z, keys3[i]? = some z ∧ k = Sum.inr z ∧ xs[i]? = some v := by
  unfold kz at h
  rw [List.getElem?_map] at h
  cases e : (keys3.zip xs)[i]? with
  | none => rw [e] at h; cases h
  | some p =>
    rw [e] at h
    obtain ⟨h1, h2⟩ := List.getElem?_zip_eq_some.mp e
    injection h with h
    injection h with h3 h4
    exact ⟨p.1, h1, h3.symm, by rw [h2, h4]⟩
theorem kz_get {xs : List V} {i : Nat} {z : Str} {v : V} (h1 : keys3[i]? = some z) (h2 : xs[i]? = some v) : (kz xs)[i]? = some (Sum.inr z, v) := by
  unfold kz
  have e : (keys3.zip xs)[i]? = some (z, v) := List.getElem?_zip_eq_some.mpr ⟨h1, h2⟩
  rw [List.getElem?_map, e]
  rfl
theorem valV_at : ∀ {l : List (Key × V)} {i : Nat} {k : Key} {v : V}, (l.map (·.1)).Nodup → l[i]? = some (k, v) → valV l k = some v
  | [], i, _, _, _, h => by simp at h
  | p :: l, 0, k, v, _, h => by
    simp at h
    subst h
    exact valV_pos rfl
  | p :: l, i + 1, k, v, hn, h => by
    have h' : l[i]? = some (k, v) := by simpa using h
    rw [List.map_cons, List.nodup_cons] at hn
    rw [valV_neg (fun e => hn.1 (by rw [e]; exact List.mem_map.mpr ⟨(k, v), List.mem_of_getElem? h', rfl⟩))]
    exact valV_at hn.2 h'
mutual
inductive Rep (H : Hp) : V → D → Prop
  | non : Rep H .non .non
  | bl (b : Bool) : Rep H (.bl b) (.bl b)
  | int (i : Int) : Rep H (.int i) (.int i)
  | str (z : Str) : Rep H (.str z) (.str z)
  | lst {a : Addr} {xs : List V} {ds : List D} : Rd H a (.lst xs) → xs.length ≤ 3 → RepA H xs ds → Rep H (.ref a) (.lst ds)
  | tup {a : Addr} {xs : List V} {ds : List D} : Rd H a (.tup xs) → xs.length ≤ 3 → RepA H xs ds → Rep H (.ref a) (.tup ds)
  | dct {a : Addr} {xs : List V} {ds : List D} : Rd H a (.dK (kz xs)) → xs.length ≤ 3 → RepA H xs ds → Rep H (.ref a) (.dct ds)
inductive RepA (H : Hp) : List V → List D → Prop
  | nil : RepA H [] []
  | cons {x : V} {d : D} {xs : List V} {ds : List D} : Rep H x d → RepA H xs ds → RepA H (x :: xs) (d :: ds)
end
mutual
def D.depth : D → Nat
  | .lst ds => D.depthA ds + 1
  | .tup ds => D.depthA ds + 1
  | .dct ds => D.depthA ds + 1
  | .non => 0
  | .bl _ => 0
  | .int _ => 0
  | .str _ => 0
def D.depthA : List D → Nat
  | [] => 0
  | d :: ds => max d.depth (D.depthA ds)
end
/-- what is read stays to be read -/
def RdS (H H' : Hp) : Prop := ∀ a o, Rd H a o → Rd H' a o
theorem same_rd {H H' : Hp} (h : Same H H') : RdS H H' := fun a o r => by
  rcases r with r | ⟨u, r⟩
  · exact .inl (h _ _ r)
  · exact .inr ⟨u, h _ _ r⟩
mutual
theorem Rep.mono {H H' : Hp} (h : RdS H H') : ∀ {v : V} {d : D}, Rep H v d → Rep H' v d
  | _, _, .non => .non
  | _, _, .bl b => .bl b
  | _, _, .int i => .int i
  | _, _, .str z => .str z
  | _, _, .lst r l a => .lst (h _ _ r) l (RepA.mono h a)
  | _, _, .tup r l a => .tup (h _ _ r) l (RepA.mono h a)
  | _, _, .dct r l a => .dct (h _ _ r) l (RepA.mono h a)
theorem RepA.mono {H H' : Hp} (h : RdS H H') : ∀ {xs : List V} {ds : List D}, RepA H xs ds → RepA H' xs ds
  | _, _, .nil => .nil
  | _, _, .cons r t => .cons (Rep.mono h r) (RepA.mono h t)
end
theorem RepA.length {H : Hp} : ∀ {xs : List V} {ds : List D}, RepA H xs ds → xs.length = ds.length
  | _, _, .nil => rfl
  | _, _, .cons _ t => congrArg Nat.succ (RepA.length t)
theorem RepA.at {H : Hp} : ∀ {xs : List V} {ds : List D} {i : Nat} {x : V}, RepA H xs ds → xs[i]? = some x → ∃ d, ds[i]? = some d ∧ Rep H x d ∧ d.depth ≤ D.depthA ds
  | _, _, _, _, .nil, h => by simp at h
  | _, _, 0, _, .cons r t, h => by
    simp at h
    subst h
    exact ⟨_, rfl, r, by simp only [D.depthA]; omega⟩
  | _, _, i + 1, _, .cons r t, h => by
    obtain ⟨d, e, q, l⟩ := RepA.at t (by simpa using h)
    exact ⟨d, by simpa using e, q, by simp only [D.depthA]; omega⟩
theorem RepA.snoc {H : Hp} {x : V} {d : D} (r : Rep H x d) : ∀ {xs : List V} {ds : List D}, RepA H xs ds → RepA H (xs ++ [x]) (ds ++ [d])
  | _, _, .nil => .cons r .nil
  | _, _, .cons q t => .cons q (RepA.snoc r t)
theorem depthA_snoc : ∀ (ds : List D) (d : D), D.depthA (ds ++ [d]) = max (D.depthA ds) d.depth
  | [], d => by simp [D.depthA]
  | e :: ds, d => by
    simp only [List.cons_append, D.depthA, depthA_snoc ds d]
    omega
/-- a comprehension, a for over a dict: under a lock of its own, or of one that stands -/
def tLockO (t : TE) : TE := fun σ H Q => tLockE t σ H Q ∨ t σ H Q
theorem pe_lockO {X : Cx} {e : Expr} {t : TE} (h : PE X e t) : PE X e (tLockO t) := ⟨fun pins s σ H Q I hw => by
  rcases hw with hw | hw
  · exact (pe_lock h).run pins s σ H Q I hw
  · exact h.run pins s σ H Q I hw⟩
theorem ty_lst {K : PySem.W.Frag} {H : Hp} {a : Addr} {xs : List V} (r : Rd H a (.lst xs)) : TyX K H (.ref a) (.type "list") := by
  rcases r with r | ⟨u, r⟩
  · exact .base (.lst r)
  · exact .base (.frz r)
theorem ty_tup {K : PySem.W.Frag} {H : Hp} {a : Addr} {xs : List V} (r : Rd H a (.tup xs)) : TyX K H (.ref a) (.type "tuple") := by
  rcases r with r | ⟨u, r⟩
  · exact .base (.tup r)
  · exact .fTuple r
theorem ty_dct {K : PySem.W.Frag} {H : Hp} {a : Addr} {kvs : List (Key × V)} (r : Rd H a (.dK kvs)) : TyX K H (.ref a) (.type "dict") := by
  rcases r with r | ⟨u, r⟩
  · exact .base (.dK r)
  · exact .fDict r
/-- the name of a datum's type -/
def D.ty : D → String
  | .lst _ => "list"
  | .tup _ => "tuple"
  | .dct _ => "dict"
  | .non => "NoneType"
  | .bl _ => "bool"
  | .int _ => "int"
  | .str _ => "str"
theorem Rep.ty {K : PySem.W.Frag} {H : Hp} {v : V} {d : D} (r : Rep H v d) : TyX K H v (.type d.ty) := by
  cases r with
  | non => exact .base .non
  | bl b => exact .base (.bl b)
  | int i => exact .base (.int i)
  | str z => exact .base (.str z)
  | lst r => exact ty_lst r
  | tup r => exact ty_tup r
  | dct r => exact ty_dct r
theorem rIsi_rep {K : PySem.W.Frag} {H : Hp} {v : V} {d : D} {T : String} {b : Bool} {Q : VK} (r : Rep H v d) (h : kitB d.ty T = some b) (q : Q (.bl b) H) : rIsi K [v, .ty T] H Q :=
  ⟨v, .ty T, _, _, b, rfl, .ty T, r.ty, kit_ty h, q⟩
local macro_rules | `(tactic| walk_at "hp") => `(tactic| first | assumption | exact upd_same | (refine Eq.trans (upd_ne (by first | assumption | (apply Ne.symm; assumption))) ?_; walk_at "hp"))
local macro_rules | `(tactic| walk_at "ixl") => `(tactic| (refine' ⟨_, ?xs, _, ?vv, rfl, rfl, SqL.of ?hh, ?aa, ?qq⟩; (case hh => walk_at "hp"); (case aa => rfl)))
local macro_rules | `(tactic| walk_at "setl") => `(tactic| (refine' ⟨_, ?xs, _, ?jj, rfl, rfl, ?hh, ?aa, ?qq⟩; (case hh => walk_at "hp"); (case aa => rfl)))
local macro_rules | `(tactic| walk_at "cond") => `(tactic| first | exact ⟨_, rfl⟩ | exact Nat.le_of_lt (small1000 (Nat.le_of_ble_eq_true rfl)) | decide | omega | (dsimp only; omega) | exact ⟨by decide, by decide⟩ | exact Or.inr ⟨by decide, by decide⟩ | exact Or.inl ⟨by decide, by decide⟩ | exact ⟨by decide, by decide, by decide⟩ | exact ⟨by omega, by omega⟩ | exact ⟨by omega, by omega, by omega⟩ | (simp only [List.length_cons, List.length_nil, List.length_append, List.length_take, List.length_drop]; omega) | (refine ⟨?_, ?_, ?_⟩ <;> first | decide | omega | (simp only [List.length_cons, List.length_nil, List.length_append, List.length_take, List.length_drop, Option.getD_some, Option.getD_none]; omega)))
local macro_rules | `(tactic| walk_at "st") => `(tactic| repeat (first | refine ⟨_, rfl, ?_⟩ | refine ⟨_, _, rfl, rfl, ?_⟩ | walk_at "ixl" | walk_at "setl" | refine ⟨rfl, ?_⟩ | refine Or.inl ⟨_, rfl, ?_⟩ | refine And.intro (by walk_at "cond") ?_))
/-- two equal data -/
def spSame (k : Nat) : Sp := fun vs H Q _ => Hd (∃ (v v2 : V) (d : D), vs = [v, v2] ∧ Rep H v d ∧ Rep H v2 d ∧ d.depth < k ∧ ∀ (H' : Hp), Same H H' → Q (.bl true) H')
theorem sorted_one {m : Nat} (hm : m ≤ 3) {ys : List Str} (hp : ys.Perm (keys3.take m)) (hs : sortedS ys = true) : ys = keys3.take m := by
  have hl := hp.length_eq
  have hmem : ∀ y ∈ ys, y ∈ keys3.take m := fun y hy => hp.mem_iff.mp hy
  match m, hm with
  | 0, _ => exact List.eq_nil_of_length_eq_zero hl
  | 1, _ =>
    match ys, hl with
    | [x], _ =>
      have h := hmem x List.mem_cons_self
      simp only [keys3, List.take, List.mem_cons, List.not_mem_nil, or_false] at h
      rw [h]; rfl
  | 2, _ =>
    match ys, hl with
    | [x, y], _ =>
      have hn : ([SX.S [123], SX.S [124]] : List Str).Nodup := by decide +kernel
      have hn2 : [x, y].Nodup := hp.nodup_iff.mpr hn
      have h := hmem x List.mem_cons_self
      have h2 := hmem y (List.mem_cons_of_mem _ List.mem_cons_self)
      simp only [keys3, List.take, List.mem_cons, List.not_mem_nil, or_false] at h h2
      rcases h with rfl | rfl <;> rcases h2 with rfl | rfl <;> first | rfl | exact absurd hs (by decide +kernel) | exact absurd hn2 (by decide +kernel)
  | 3, _ =>
    match ys, hl with
    | [x, y, z], _ =>
      have hn2 : [x, y, z].Nodup := hp.nodup_iff.mpr (by decide +kernel)
      have h := hmem x List.mem_cons_self
      have h2 := hmem y (List.mem_cons_of_mem _ List.mem_cons_self)
      have h3 := hmem z (List.mem_cons_of_mem _ (List.mem_cons_of_mem _ List.mem_cons_self))
      simp only [keys3, List.take, List.mem_cons, List.not_mem_nil, or_false] at h h2 h3
      rcases h with rfl | rfl | rfl <;> rcases h2 with rfl | rfl | rfl <;> rcases h3 with rfl | rfl | rfl <;> first | rfl | exact absurd hs (by decide +kernel) | exact absurd hn2 (by decide +kernel)
theorem keys_eqv : ∀ {m : Nat}, m ≤ 3 → PyData.eqv (.list ((keys3.take m).map PyData.str)) (.list ((keys3.take m).map PyData.str)) = true ∧ SeqAt.shaped (.list ((keys3.take m).map PyData.str)) = true
  | 0, _ => by decide +kernel
  | 1, _ => by decide +kernel
  | 2, _ => by decide +kernel
  | 3, _ => by decide +kernel
theorem dpAll_strs {K : PySem.W.Frag} {H : Hp} : ∀ (cs : List Str), DpAll K H (cs.map V.str) (cs.map PyData.str)
  | [] => .nil
  | x :: r => .cons (.str x) (dpAll_strs r)
theorem kz_kV {xs : List V} : (kz xs).map (fun kv => kV kv.1) = (keys3.take xs.length).map V.str := by
  have e : (kz xs).map (fun kv => kV kv.1) = ((kz xs).map (·.1)).map kV := by rw [List.map_map]; rfl
  rw [e, kz_keys, List.map_map]
  rfl
theorem keys_len {m : Nat} : (keys3.take m).length < 64 := by rw [List.length_take]; exact Nat.lt_of_le_of_lt (Nat.min_le_right _ _) (by decide)
theorem walk_zipT {K : PySem.W.Frag} {a b : Addr} {xs ys : List V} {n : Nat} (hn : n = min xs.length ys.length) : Walk (RZ.ItzT K a b) n (fun H => SqT K H a xs ∧ SqT K H b ys) (YPair (fun i => xs[i]?) (fun i => ys[i]?)) := by
  subst hn
  refine ⟨fun i _ hi q => ?_, fun _ q => ⟨xs, ys, q.1, q.2, by omega⟩, ?_⟩
  · have h1 : i < xs.length := by omega
    have h2 : i < ys.length := by omega
    exact ⟨xs, ys, xs[i], ys[i], q.1, q.2, by simp [h1], by simp [h2]⟩
  · rintro i H v H' _ q ⟨T, x, z, h1, h2, h3, h4, h5⟩
    exact ⟨T, x, z, h1, h2, h3, h4 xs q.1, h5 ys q.2⟩
/-- the comprehensions of truths: all of them true -/
structure TruP (H : Hp) (D0 : Addr) (i : Nat) (H3 : Hp) : Prop where
  at_ : H3 D0 = some (.lst ((List.replicate i true).map V.bl))
  sm : Same H H3
theorem TruP.zero {H : Hp} {D0 : Addr} (hD : H D0 = none) : TruP H D0 0 (upd H D0 (.lst [])) := ⟨upd_same, same_put (Same.refl _) hD⟩
theorem TruP.next {H H3 H4 : Hp} {D0 : Addr} {i : Nat} (c : TruP H D0 i H3) (hD : H D0 = none) (hi : i < 1000) (sm : Same H3 H4) :
    ∃ acc, H4 D0 = some (.lst acc) ∧ acc.length < sizeLine ∧ TruP H D0 (i + 1) (upd H4 D0 (.lst (acc ++ [V.bl true]))) := by
  refine ⟨_, sm _ _ c.at_, by rw [List.length_map, List.length_replicate]; exact small1000 (by omega), ⟨?_, same_put (c.sm.trans sm) hD⟩⟩
  rw [upd_same, List.replicate_succ', List.map_append]
  rfl
theorem all_true (i : Nat) : (List.replicate i true).all id = true := by simp
theorem same_dict {n : Nat} {a b : Addr} {od : Obj} {xs ys : List V} {ds : List D} {H0 : Hp} {R : VK} (hf : H0 b = some (.frz od (.dK (kz ys)))) (ha : Rd H0 a (.dK (kz xs))) (lx : xs.length ≤ 3) (ly : ys.length ≤ 3)
    (r1 : RepA H0 xs ds) (r2 : RepA H0 ys ds) (dp : D.depthA ds < n) (k : ∀ (D0 : Addr) (H3 : Hp), TruP H0 D0 ys.length H3 → H0 D0 = none → R (.ref D0) H3) :
    tLc (iKeys (tVar 1)) (gName 2) tYes (tCall (spSame n) [] E0 (tCons (tDGet (tVar 0) (tVar 2)) (tCons (tDGet (tVar 1) (tVar 2)) tNil))) [2] [some (.ref a), some (.ref b), none, none, none] H0 R := by
  have hl1 := r1.length
  have hl2 := r2.length
  refine ⟨_, rfl, b, od, rfl, .inl ⟨kz ys, hf, fun D0 hD => ?_⟩⟩
  refine lc_it (n := (kz ys).length) walk_keys (TruP H0 D0) (.zero hD) (fun i H _ c => c.sm _ _ hf) ?_ ?_
  · rintro i x H3 _ hi c ⟨rfl, key, v, e1, rfl⟩
    rw [kz_len ly] at hi
    obtain ⟨z, e2, rfl, e3⟩ := kz_at e1
    obtain ⟨d', e4, e5, e6⟩ := r2.at e3
    have hi2 : i < xs.length := by omega
    have e7 : xs[i]? = some xs[i] := by simp [hi2]
    obtain ⟨d2, f4, f5, f6⟩ := r1.at e7
    rw [e4] at f4
    cases f4
    have e8 := kz_get e2 e7
    refine ⟨rfl, ?_⟩
    walk_at "st"
    refine ⟨a, xs[i], rfl, .inl ⟨_, Sum.inr z, same_rd c.sm _ _ ha, rfl, (valV_at (kz_nd xs) e8).symm⟩, ?_⟩
    walk_at "st"
    refine ⟨b, v, rfl, .inl ⟨_, Sum.inr z, .inr ⟨od, c.sm _ _ hf⟩, rfl, (valV_at (kz_nd ys) e1).symm⟩, ?_⟩
    walk_at "st"
    exact .a ⟨_, v, d', rfl, f5.mono (same_rd c.sm), e5.mono (same_rd c.sm), by omega, fun H4 s4 => c.next hD (by omega) s4⟩
  · intro H3 c
    rw [kz_len ly] at c
    exact k D0 H3 c hD
section
variable {P : Program} {w : World} {K : PySem.W.Frag} {mg : Str → Option Value} {base : Heap}
theorem ok_same0 (T : Txt K mg) : FnOk P w K mg base CX0 1 T.f__law_same T.fd__law_same ["_law_found", "_law_due"] (spSame 0) :=
  ⟨fun _ _ _ _ h => by obtain ⟨v, v2, d, _, _, _, hd, _⟩ := h.out; exact absurd hd (Nat.not_lt_zero _), fun _ _ _ _ _ _ _ _ _ _ _ _ _ h => by obtain ⟨v, v2, d, _, _, _, hd, _⟩ := h.out; exact absurd hd (Nat.not_lt_zero _)⟩
theorem ok_sameS (T : Txt K mg) (n : Nat) (G__law_same : FnOk P w K mg base CX0 (n + 1) T.f__law_same T.fd__law_same ["_law_found", "_law_due"] (spSame n)) :
    FnOk P w K mg base CX0 (n + 1 + 1) T.f__law_same T.fd__law_same ["_law_found", "_law_due"] (spSame (n + 1)) := by
  refine T.D__law_same.F.ok sc__law_same (fun vs H Q E h => ?_) (fun cdv A outer s H vs Q E hr h => ?_)
  · obtain ⟨v, v2, d, rfl, _⟩ := h.out
    rfl
  · obtain ⟨v, v2, d, rfl, r, r2, hd, k⟩ := h.out
    have hu := hu_of hr
    have hu64 := hr.units
    refine ⟨_, (pss_cons (ps_if (pt_val (pe_callB call_isi (by rfl) T.B.n_isinstance (by decide +kernel) (pa_cons (pv 1) (pa_cons (pe_bltn (v := .ty "dict") (u := .type "dict") (by rfl) T.B.n_dict (by decide +kernel) rfl) pa_nil))))
    (pss_cons (ps_if (PW.pt (pw_or (pt_not (pt_val (pe_callB call_isi (by rfl) T.B.n_isinstance (by decide +kernel) (pa_cons (pv 0) (pa_cons (pe_bltn (v := .ty "dict") (u := .type "dict") (by rfl) T.B.n_dict (by decide +kernel) rfl) pa_nil))))) (pw_or1 (pt_cmpR (op_neD hu64) (pe_callB cr_sortedS (by rfl) T.B.n_sorted (by decide +kernel) (pa_cons (pe_callTy (call_listD rfl) (by rfl) T.B.n_list (by decide +kernel) (pa_cons (pv 0) pa_nil)) pa_nil)) (pe_callB cr_sortedS (by rfl) T.B.n_sorted (by decide +kernel) (pa_cons (pe_callTy (call_listD rfl) (by rfl) T.B.n_list (by decide +kernel) (pa_cons (pv 1) pa_nil)) pa_nil)) (nomark _)))))
    (pss_one (ps_ret pe_bl))
    pss_nil)
  (pss_one (ps_ret (pe_callB (cr_all rfl) (by rfl) T.B.n_all (by decide +kernel) (pa_cons (pe_lockO (pe_lc (own := [("_law_key", 2)]) (g := gName 2) rfl sc__law_same.nd (pi_keys (pv 1)) (blkOk_by (N := ["_law_found", "_law_due", "_law_key", "_law_one", "_law_other"]) (sc := defScope s__law_same) (by decide +kernel)) (fun _ _ _ _ _ => (pg_name (i := 2) sc__law_same.nd rfl (by first | exact Or.inl rfl | exact Or.inr rfl))) (fun _ _ _ _ _ => pts_nil) (fun _ _ _ _ _ => (pe_call G__law_same (hr.mono (by first | decide | omega)) rfl T.D__law_same.g T.D__law_same.F.kp T.D__law_same.b .nil pass0 (pa_cons (pe_dget hu (pv 0) (pv 2) (fun _ _ => rfl)) (pa_cons (pe_dget hu (pv 1) (pv 2) (fun _ _ => rfl)) pa_nil)))))) pa_nil)))))
    pss_nil)
  (pss_cons (ps_if (pt_val (pe_callB call_isiT (by rfl) T.B.n_isinstance (by decide +kernel) (pa_cons (pv 1) (pa_cons (pe_tup (pa_cons (pe_bltn (v := .ty "list") (u := .type "list") (by rfl) T.B.n_list (by decide +kernel) rfl) (pa_cons (pe_bltn (v := .ty "tuple") (u := .type "tuple") (by rfl) T.B.n_tuple (by decide +kernel) rfl) pa_nil))) pa_nil))))
    (pss_cons (ps_if (PW.pt (pw_or (pt_cmpR op_ne (pe_callB call_isi (by rfl) T.B.n_isinstance (by decide +kernel) (pa_cons (pv 0) (pa_cons (pe_bltn (v := .ty "list") (u := .type "list") (by rfl) T.B.n_list (by decide +kernel) rfl) pa_nil))) (pe_callB call_isi (by rfl) T.B.n_isinstance (by decide +kernel) (pa_cons (pv 1) (pa_cons (pe_bltn (v := .ty "list") (u := .type "list") (by rfl) T.B.n_list (by decide +kernel) rfl) pa_nil))) (nomark _)) (pw_or1 (pt_cmpR op_ne (pe_callB call_isi (by rfl) T.B.n_isinstance (by decide +kernel) (pa_cons (pv 0) (pa_cons (pe_bltn (v := .ty "tuple") (u := .type "tuple") (by rfl) T.B.n_tuple (by decide +kernel) rfl) pa_nil))) (pe_callB call_isi (by rfl) T.B.n_isinstance (by decide +kernel) (pa_cons (pv 1) (pa_cons (pe_bltn (v := .ty "tuple") (u := .type "tuple") (by rfl) T.B.n_tuple (by decide +kernel) rfl) pa_nil))) (nomark _)))))
    (pss_one (ps_ret pe_bl))
    pss_nil)
  (pss_one (ps_ret (pe_and (pe_cmpR op_eq (pe_callB call_len_seq (by rfl) T.B.n_len (by decide +kernel) (pa_cons (pv 0) pa_nil)) (pe_callB call_len_seq (by rfl) T.B.n_len (by decide +kernel) (pa_cons (pv 1) pa_nil)) (nomark _)) (pe_one (pe_callB (cr_all rfl) (by rfl) T.B.n_all (by decide +kernel) (pa_cons (pe_lc (own := [("_law_one", 3), ("_law_other", 4)]) (g := gTup K 2 (gCons (gName 3) (gCons (gName 4) gNil))) rfl sc__law_same.nd (RZ.pi_zipA (by rfl) T.B.n_zip (pa_cons (pv 0) (pa_cons (pv 1) pa_nil))) (blkOk_by (N := ["_law_found", "_law_due", "_law_key", "_law_one", "_law_other"]) (sc := defScope s__law_same) (by decide +kernel)) (fun _ _ _ _ _ => (pg_tup rfl (pgs_cons (pg_name (i := 3) sc__law_same.nd rfl (by first | exact Or.inl rfl | exact Or.inr rfl)) (pgs_cons (pg_name (i := 4) sc__law_same.nd rfl (by first | exact Or.inl rfl | exact Or.inr rfl)) pgs_nil)))) (fun _ _ _ _ _ => pts_nil) (fun _ _ _ _ _ => (pe_call G__law_same (hr.mono (by first | decide | omega)) rfl T.D__law_same.g T.D__law_same.F.kp T.D__law_same.b .nil pass0 (pa_cons (pv 3) (pa_cons (pv 4) pa_nil))))) pa_nil)))))))
    pss_nil)
  (pss_cons (ps_if (pt_val (pe_callB call_isi (by rfl) T.B.n_isinstance (by decide +kernel) (pa_cons (pv 1) (pa_cons (pe_bltn (v := .ty "int") (u := .type "int") (by rfl) T.B.n_int (by decide +kernel) rfl) pa_nil))))
    (pss_one (ps_ret (pe_and (pe_callB call_isi (by rfl) T.B.n_isinstance (by decide +kernel) (pa_cons (pv 0) (pa_cons (pe_bltn (v := .ty "int") (u := .type "int") (by rfl) T.B.n_int (by decide +kernel) rfl) pa_nil))) (pe_and (pe_cmpR op_eq (pe_callB call_isi (by rfl) T.B.n_isinstance (by decide +kernel) (pa_cons (pv 0) (pa_cons (pe_bltn (v := .ty "bool") (u := .type "bool") (by rfl) T.B.n_bool (by decide +kernel) rfl) pa_nil))) (pe_callB call_isi (by rfl) T.B.n_isinstance (by decide +kernel) (pa_cons (pv 1) (pa_cons (pe_bltn (v := .ty "bool") (u := .type "bool") (by rfl) T.B.n_bool (by decide +kernel) rfl) pa_nil))) (nomark _)) (pe_one (pe_cmpR op_eq (pv 0) (pv 1) (nomark _)))))))
    pss_nil)
  (pss_one (ps_ret (pe_and (pe_cmpR op_eq (pv 0) (pv 1) (nomark _)) (pe_one (pe_not (pe_callB call_isiT (by rfl) T.B.n_isinstance (by decide +kernel) (pa_cons (pv 0) (pa_cons (pe_tup (pa_cons (pe_bltn (v := .ty "int") (u := .type "int") (by rfl) T.B.n_int (by decide +kernel) rfl) (pa_cons (pe_bltn (v := .ty "list") (u := .type "list") (by rfl) T.B.n_list (by decide +kernel) rfl) (pa_cons (pe_bltn (v := .ty "tuple") (u := .type "tuple") (by rfl) T.B.n_tuple (by decide +kernel) rfl) (pa_cons (pe_bltn (v := .ty "dict") (u := .type "dict") (by rfl) T.B.n_dict (by decide +kernel) rfl) pa_nil))))) pa_nil))))))))))), ?_⟩
    walk_at "st"
    have r0 := r
    have r02 := r2
    cases r with
    | bl b =>
      cases r2
      refine ⟨_, .ty "dict", _, _, false, rfl, .ty "dict", r02.ty, kit_ty (by simp only [D.ty]; decide +kernel), ?_⟩
      walk_at "st"
      intro t ht
      have st := same_new (o := .tup [.ty "list", .ty "tuple"]) ht
      refine ⟨_, t, _, _, _, false, rfl, upd_same, (.cons (.ty "list") (.cons (.ty "tuple") .nil)), (r02.mono (same_rd st)).ty, (kitAny_cons (b := false) (kit_ty (by simp only [D.ty]; decide +kernel)) (fun _ => (kitAny_cons (b := false) (kit_ty (by simp only [D.ty]; decide +kernel)) (fun _ => kitAny_nil) (fun h => nomatch h))) (fun h => nomatch h)), ?_⟩
      walk_at "st"
      have r1 := r0.mono (same_rd st)
      have r12 := r02.mono (same_rd st)
      refine ⟨_, .ty "int", _, _, true, rfl, .ty "int", r12.ty, kit_ty (by simp only [D.ty]; decide +kernel), ?_⟩
      walk_at "st"
      refine ⟨_, .ty "int", _, _, true, rfl, .ty "int", r1.ty, kit_ty (by simp only [D.ty]; decide +kernel), ?_⟩
      walk_at "st"
      refine ⟨_, .ty "bool", _, _, true, rfl, .ty "bool", r1.ty, kit_ty (by simp only [D.ty]; decide +kernel), ?_⟩
      walk_at "st"
      refine ⟨_, .ty "bool", _, _, true, rfl, .ty "bool", r12.ty, kit_ty (by simp only [D.ty]; decide +kernel), ?_⟩
      walk_at "st"
      have e : decide (V.bl b = V.bl b) = true := decide_eq_true rfl
      show Q (V.bl (decide (V.bl b = V.bl b))) _
      rw [e]
      exact k _ st
    | int i =>
      cases r2
      refine ⟨_, .ty "dict", _, _, false, rfl, .ty "dict", r02.ty, kit_ty (by simp only [D.ty]; decide +kernel), ?_⟩
      walk_at "st"
      intro t ht
      have st := same_new (o := .tup [.ty "list", .ty "tuple"]) ht
      refine ⟨_, t, _, _, _, false, rfl, upd_same, (.cons (.ty "list") (.cons (.ty "tuple") .nil)), (r02.mono (same_rd st)).ty, (kitAny_cons (b := false) (kit_ty (by simp only [D.ty]; decide +kernel)) (fun _ => (kitAny_cons (b := false) (kit_ty (by simp only [D.ty]; decide +kernel)) (fun _ => kitAny_nil) (fun h => nomatch h))) (fun h => nomatch h)), ?_⟩
      walk_at "st"
      have r1 := r0.mono (same_rd st)
      have r12 := r02.mono (same_rd st)
      refine ⟨_, .ty "int", _, _, true, rfl, .ty "int", r12.ty, kit_ty (by simp only [D.ty]; decide +kernel), ?_⟩
      walk_at "st"
      refine ⟨_, .ty "int", _, _, true, rfl, .ty "int", r1.ty, kit_ty (by simp only [D.ty]; decide +kernel), ?_⟩
      walk_at "st"
      refine ⟨_, .ty "bool", _, _, false, rfl, .ty "bool", r1.ty, kit_ty (by simp only [D.ty]; decide +kernel), ?_⟩
      walk_at "st"
      refine ⟨_, .ty "bool", _, _, false, rfl, .ty "bool", r12.ty, kit_ty (by simp only [D.ty]; decide +kernel), ?_⟩
      walk_at "st"
      have e : decide (V.int i = V.int i) = true := decide_eq_true rfl
      show Q (V.bl (decide (V.int i = V.int i))) _
      rw [e]
      exact k _ st
    | non  =>
      cases r2
      refine ⟨_, .ty "dict", _, _, false, rfl, .ty "dict", r02.ty, kit_ty (by simp only [D.ty]; decide +kernel), ?_⟩
      walk_at "st"
      intro t ht
      have st := same_new (o := .tup [.ty "list", .ty "tuple"]) ht
      refine ⟨_, t, _, _, _, false, rfl, upd_same, (.cons (.ty "list") (.cons (.ty "tuple") .nil)), (r02.mono (same_rd st)).ty, (kitAny_cons (b := false) (kit_ty (by simp only [D.ty]; decide +kernel)) (fun _ => (kitAny_cons (b := false) (kit_ty (by simp only [D.ty]; decide +kernel)) (fun _ => kitAny_nil) (fun h => nomatch h))) (fun h => nomatch h)), ?_⟩
      walk_at "st"
      have r1 := r0.mono (same_rd st)
      have r12 := r02.mono (same_rd st)
      refine ⟨_, .ty "int", _, _, false, rfl, .ty "int", r12.ty, kit_ty (by simp only [D.ty]; decide +kernel), ?_⟩
      walk_at "st"
      intro u hu
      have su := same_new (o := .tup [.ty "int", .ty "list", .ty "tuple", .ty "dict"]) hu
      refine ⟨_, u, _, _, _, false, rfl, upd_same, (.cons (.ty "int") (.cons (.ty "list") (.cons (.ty "tuple") (.cons (.ty "dict") .nil)))), (r1.mono (same_rd su)).ty, (kitAny_cons (b := false) (kit_ty (by simp only [D.ty]; decide +kernel)) (fun _ => (kitAny_cons (b := false) (kit_ty (by simp only [D.ty]; decide +kernel)) (fun _ => (kitAny_cons (b := false) (kit_ty (by simp only [D.ty]; decide +kernel)) (fun _ => (kitAny_cons (b := false) (kit_ty (by simp only [D.ty]; decide +kernel)) (fun _ => kitAny_nil) (fun h => nomatch h))) (fun h => nomatch h))) (fun h => nomatch h))) (fun h => nomatch h)), ?_⟩
      walk_at "st"
      exact k _ (st.trans su)
    | str z =>
      cases r2
      refine ⟨_, .ty "dict", _, _, false, rfl, .ty "dict", r02.ty, kit_ty (by simp only [D.ty]; decide +kernel), ?_⟩
      walk_at "st"
      intro t ht
      have st := same_new (o := .tup [.ty "list", .ty "tuple"]) ht
      refine ⟨_, t, _, _, _, false, rfl, upd_same, (.cons (.ty "list") (.cons (.ty "tuple") .nil)), (r02.mono (same_rd st)).ty, (kitAny_cons (b := false) (kit_ty (by simp only [D.ty]; decide +kernel)) (fun _ => (kitAny_cons (b := false) (kit_ty (by simp only [D.ty]; decide +kernel)) (fun _ => kitAny_nil) (fun h => nomatch h))) (fun h => nomatch h)), ?_⟩
      walk_at "st"
      have r1 := r0.mono (same_rd st)
      have r12 := r02.mono (same_rd st)
      refine ⟨_, .ty "int", _, _, false, rfl, .ty "int", r12.ty, kit_ty (by simp only [D.ty]; decide +kernel), ?_⟩
      walk_at "st"
      refine if_true_of (decide_eq_true rfl) ?_
      walk_at "st"
      intro u hu
      have su := same_new (o := .tup [.ty "int", .ty "list", .ty "tuple", .ty "dict"]) hu
      refine ⟨_, u, _, _, _, false, rfl, upd_same, (.cons (.ty "int") (.cons (.ty "list") (.cons (.ty "tuple") (.cons (.ty "dict") .nil)))), (r1.mono (same_rd su)).ty, (kitAny_cons (b := false) (kit_ty (by simp only [D.ty]; decide +kernel)) (fun _ => (kitAny_cons (b := false) (kit_ty (by simp only [D.ty]; decide +kernel)) (fun _ => (kitAny_cons (b := false) (kit_ty (by simp only [D.ty]; decide +kernel)) (fun _ => (kitAny_cons (b := false) (kit_ty (by simp only [D.ty]; decide +kernel)) (fun _ => kitAny_nil) (fun h => nomatch h))) (fun h => nomatch h))) (fun h => nomatch h))) (fun h => nomatch h)), ?_⟩
      walk_at "st"
      exact k _ (st.trans su)
    | @lst a xs ds h1 h2 h3 =>
      cases r2 with
      | @lst b ys _ g1 g2 g3 =>
      have hl1 := h3.length
      have hl2 := g3.length
      have hdd : D.depthA ds < n := by simp only [D.depth] at hd; omega
      refine ⟨_, .ty "dict", _, _, false, rfl, .ty "dict", r02.ty, kit_ty (by simp only [D.ty]; decide +kernel), ?_⟩
      walk_at "st"
      intro t ht
      have st := same_new (o := .tup [.ty "list", .ty "tuple"]) ht
      refine ⟨_, t, _, _, _, true, rfl, upd_same, (.cons (.ty "list") (.cons (.ty "tuple") .nil)), (r02.mono (same_rd st)).ty, (kitAny_cons (b := true) (kit_ty (by simp only [D.ty]; decide +kernel)) (fun h => nomatch h) (fun _ => rfl)), ?_⟩
      walk_at "st"
      have r1 := r0.mono (same_rd st)
      have r12 := r02.mono (same_rd st)
      refine ⟨_, .ty "list", _, _, true, rfl, .ty "list", r1.ty, kit_ty (by simp only [D.ty]; decide +kernel), ?_⟩
      walk_at "st"
      refine ⟨_, .ty "list", _, _, true, rfl, .ty "list", r12.ty, kit_ty (by simp only [D.ty]; decide +kernel), ?_⟩
      walk_at "st"
      refine ⟨_, .ty "tuple", _, _, false, rfl, .ty "tuple", r1.ty, kit_ty (by simp only [D.ty]; decide +kernel), ?_⟩
      walk_at "st"
      refine ⟨_, .ty "tuple", _, _, false, rfl, .ty "tuple", r12.ty, kit_ty (by simp only [D.ty]; decide +kernel), ?_⟩
      walk_at "st"
      have q1 : Rd (upd H t (.tup [.ty "list", .ty "tuple"])) a (.lst xs) := same_rd st _ _ h1
      have q2 : Rd (upd H t (.tup [.ty "list", .ty "tuple"])) b (.lst ys) := same_rd st _ _ g1
      refine ⟨a, xs, rfl, .inl (.inl q1), ?_⟩
      walk_at "st"
      refine ⟨b, ys, rfl, .inl (.inl q2), ?_⟩
      walk_at "st"
      refine if_true_of (decide_eq_true (by rw [hl1, hl2])) ?_
      walk_at "st"
      have h3' := h3.mono (same_rd st)
      have g3' := g3.mono (same_rd st)
      generalize upd H t (.tup [.ty "list", .ty "tuple"]) = H1 at st q1 q2 h3' g3' ⊢
      refine ⟨a, b, xs, ys, rfl, .inl ⟨.inl q1, .inl q2, fun D0 hD => ?_⟩⟩
      refine lc_it (n := xs.length) (walk_zip (xs := xs) (ys := ys) (by omega)) (TruP H1 D0) (.zero hD) (fun i H _ c => ⟨.inl (same_rd c.sm _ _ q1), .inl (same_rd c.sm _ _ q2)⟩) ?_ ?_
      · rintro i x H3 H4 hi c ⟨T0, x1, y1, rfl, hT, rfl, e1, e2⟩
        obtain ⟨d1, f1, f2, f3⟩ := h3'.at e1
        obtain ⟨d2, f4, f5, f6⟩ := g3'.at e2
        rw [f1] at f4
        cases f4
        have s3 := c.sm.trans (same_new (o := .tup [x1, y1]) hT)
        refine ⟨T0, [x1, y1], rfl, SqT.of upd_same, rfl, _, _, rfl, _, _, rfl, rfl, rfl, ?_⟩
        walk_at "st"
        exact .a ⟨x1, y1, d1, rfl, f2.mono (same_rd s3), f5.mono (same_rd s3), by omega, fun H5 s5 => c.next hD (by omega) ((same_new hT).trans s5)⟩
      · intro H3 c
        walk_at "st"
        refine ⟨D0, _, rfl, SqL.of c.at_, ?_⟩
        rw [all_true]
        exact k _ (st.trans c.sm)
    | @tup a xs ds h1 h2 h3 =>
      cases r2 with
      | @tup b ys _ g1 g2 g3 =>
      have hl1 := h3.length
      have hl2 := g3.length
      have hdd : D.depthA ds < n := by simp only [D.depth] at hd; omega
      refine ⟨_, .ty "dict", _, _, false, rfl, .ty "dict", r02.ty, kit_ty (by simp only [D.ty]; decide +kernel), ?_⟩
      walk_at "st"
      intro t ht
      have st := same_new (o := .tup [.ty "list", .ty "tuple"]) ht
      refine ⟨_, t, _, _, _, true, rfl, upd_same, (.cons (.ty "list") (.cons (.ty "tuple") .nil)), (r02.mono (same_rd st)).ty, (kitAny_cons (b := false) (kit_ty (by simp only [D.ty]; decide +kernel)) (fun _ => (kitAny_cons (b := true) (kit_ty (by simp only [D.ty]; decide +kernel)) (fun h => nomatch h) (fun _ => rfl))) (fun h => nomatch h)), ?_⟩
      walk_at "st"
      have r1 := r0.mono (same_rd st)
      have r12 := r02.mono (same_rd st)
      refine ⟨_, .ty "list", _, _, false, rfl, .ty "list", r1.ty, kit_ty (by simp only [D.ty]; decide +kernel), ?_⟩
      walk_at "st"
      refine ⟨_, .ty "list", _, _, false, rfl, .ty "list", r12.ty, kit_ty (by simp only [D.ty]; decide +kernel), ?_⟩
      walk_at "st"
      refine ⟨_, .ty "tuple", _, _, true, rfl, .ty "tuple", r1.ty, kit_ty (by simp only [D.ty]; decide +kernel), ?_⟩
      walk_at "st"
      refine ⟨_, .ty "tuple", _, _, true, rfl, .ty "tuple", r12.ty, kit_ty (by simp only [D.ty]; decide +kernel), ?_⟩
      walk_at "st"
      have q1 : Rd (upd H t (.tup [.ty "list", .ty "tuple"])) a (.tup xs) := same_rd st _ _ h1
      have q2 : Rd (upd H t (.tup [.ty "list", .ty "tuple"])) b (.tup ys) := same_rd st _ _ g1
      refine ⟨a, xs, rfl, .inr (.inl q1), ?_⟩
      walk_at "st"
      refine ⟨b, ys, rfl, .inr (.inl q2), ?_⟩
      walk_at "st"
      refine if_true_of (decide_eq_true (by rw [hl1, hl2])) ?_
      walk_at "st"
      have h3' := h3.mono (same_rd st)
      have g3' := g3.mono (same_rd st)
      generalize upd H t (.tup [.ty "list", .ty "tuple"]) = H1 at st q1 q2 h3' g3' ⊢
      refine ⟨a, b, xs, ys, rfl, .inr ⟨.inl q1, .inl q2, fun D0 hD => ?_⟩⟩
      refine lc_it (n := xs.length) (walk_zipT (xs := xs) (ys := ys) (by omega)) (TruP H1 D0) (.zero hD) (fun i H _ c => ⟨.inl (same_rd c.sm _ _ q1), .inl (same_rd c.sm _ _ q2)⟩) ?_ ?_
      · rintro i x H3 H4 hi c ⟨T0, x1, y1, rfl, hT, rfl, e1, e2⟩
        obtain ⟨d1, f1, f2, f3⟩ := h3'.at e1
        obtain ⟨d2, f4, f5, f6⟩ := g3'.at e2
        rw [f1] at f4
        cases f4
        have s3 := c.sm.trans (same_new (o := .tup [x1, y1]) hT)
        refine ⟨T0, [x1, y1], rfl, SqT.of upd_same, rfl, _, _, rfl, _, _, rfl, rfl, rfl, ?_⟩
        walk_at "st"
        exact .a ⟨x1, y1, d1, rfl, f2.mono (same_rd s3), f5.mono (same_rd s3), by omega, fun H5 s5 => c.next hD (by omega) ((same_new hT).trans s5)⟩
      · intro H3 c
        walk_at "st"
        refine ⟨D0, _, rfl, SqL.of c.at_, ?_⟩
        rw [all_true]
        exact k _ (st.trans c.sm)
    | @dct a xs ds h1 h2 h3 =>
      cases r2 with
      | @dct b ys _ g1 g2 g3 =>
      have hl1 := h3.length
      have hl2 := g3.length
      have hdd : D.depthA ds < n := by simp only [D.depth] at hd; omega
      refine ⟨_, .ty "dict", _, _, true, rfl, .ty "dict", r02.ty, kit_ty (by simp only [D.ty]; decide +kernel), ?_⟩
      walk_at "st"
      refine ⟨_, .ty "dict", _, _, true, rfl, .ty "dict", r0.ty, kit_ty (by simp only [D.ty]; decide +kernel), ?_⟩
      walk_at "st"
      refine ⟨a, kz xs, rfl, h1, fun l1 n1 => ?_⟩
      walk_at "st"
      refine ⟨l1, keys3.take xs.length, rfl, SqL.of (by rw [upd_same, kz_kV]), keys_len, fun zs p1 hz1 hs1 m1 => ?_⟩
      obtain rfl := sorted_one h2 hz1 hs1
      have s1 : Same H (upd (upd H l1 (.lst ((kz xs).map fun kv => kV kv.1))) p1 (.lst ((keys3.take xs.length).map V.str))) := (same_new n1).trans (same_new m1)
      have a1 : (upd (upd H l1 (.lst ((kz xs).map fun kv => kV kv.1))) p1 (.lst ((keys3.take xs.length).map V.str))) p1 = some (.lst ((keys3.take xs.length).map V.str)) := upd_same
      generalize upd (upd H l1 (.lst ((kz xs).map fun kv => kV kv.1))) p1 (.lst ((keys3.take xs.length).map V.str)) = H1 at s1 a1 ⊢
      walk_at "st"
      refine ⟨b, kz ys, rfl, same_rd s1 _ _ g1, fun l2 n2 => ?_⟩
      walk_at "st"
      refine ⟨l2, keys3.take ys.length, rfl, SqL.of (by rw [upd_same, kz_kV]), keys_len, fun zs p2 hz2 hs2 m2 => ?_⟩
      obtain rfl := sorted_one g2 hz2 hs2
      have s2 : Same H1 (upd (upd H1 l2 (.lst ((kz ys).map fun kv => kV kv.1))) p2 (.lst ((keys3.take ys.length).map V.str))) := (same_new n2).trans (same_new m2)
      have a2 : (upd (upd H1 l2 (.lst ((kz ys).map fun kv => kV kv.1))) p2 (.lst ((keys3.take ys.length).map V.str))) p2 = some (.lst ((keys3.take ys.length).map V.str)) := upd_same
      generalize upd (upd H1 l2 (.lst ((kz ys).map fun kv => kV kv.1))) p2 (.lst ((keys3.take ys.length).map V.str)) = H2 at s2 a2 ⊢
      have el : ys.length = xs.length := by omega
      rw [el] at a2
      have s12 := s1.trans s2
      obtain ⟨ev, sh⟩ := keys_eqv h2
      refine ⟨.list ((keys3.take xs.length).map PyData.str), .list ((keys3.take xs.length).map PyData.str), .lst (SqL.of (s2 _ _ a1)) (dpAll_strs _), .lst (SqL.of a2) (dpAll_strs _), sh, sh, ?_⟩
      rw [ev]
      walk_at "st"
      have fin : ∀ (D0 : Addr) (H5 : Hp) (m : Nat), H5 D0 = some (.lst ((List.replicate m true).map V.bl)) → Same H H5 →
          ∃ (a : Addr) (bs : List Bool), [V.ref D0] = [.ref a] ∧ SqL K H5 a (bs.map V.bl) ∧ Q (.bl (bs.all id)) H5 := fun D0 H5 m e s5 => ⟨D0, _, rfl, SqL.of e, by rw [all_true]; exact k H5 s5⟩
      have h1' := same_rd s12 _ _ h1
      have g1' := same_rd s12 _ _ g1
      have h3' := h3.mono (same_rd s12)
      have g3' := g3.mono (same_rd s12)
      rcases g1' with e1 | ⟨u, e1⟩
      · refine .inl ⟨b, _, e1, trivial, fun od => ?_⟩
        have r0' : RdS H2 (upd H2 b (.frz od (.dK (kz ys)))) := fun c o e => by
          by_cases q : c = b
          · rcases e with e | ⟨w, e⟩
            · rw [q, e1] at e; cases e; exact .inr ⟨od, by rw [q, upd_same]⟩
            · rw [q, e1] at e; cases e
          · rcases e with e | ⟨w, e⟩
            · exact .inl (by rw [upd_ne q]; exact e)
            · exact .inr ⟨w, by rw [upd_ne q]; exact e⟩
        refine same_dict (n := n) upd_same (r0' _ _ h1') h2 g2 (h3'.mono r0') (g3'.mono r0') hdd fun D0 H3 c hD => ?_
        have ha := c.sm b _ upd_same
        have hDa : D0 ≠ b := fun e => by rw [e, upd_same] at hD; cases hD
        refine ⟨ha, ?_⟩
        walk_at "st"
        refine fin D0 _ ys.length (by rw [upd_ne hDa]; exact c.at_) (s12.trans fun c' o e => ?_)
        by_cases q : c' = b
        · rw [q, e1] at e; rw [q, upd_same]; exact e
        · rw [upd_ne q]; exact c.sm c' o (by rw [upd_ne q]; exact e)
      · refine .inr (same_dict (n := n) e1 h1' h2 g2 h3' g3' hdd fun D0 H3 c hD => ?_)
        walk_at "st"
        exact fin D0 H3 ys.length c.at_ (s12.trans c.sm)
theorem ok_same (T : Txt K mg) : ∀ n, FnOk P w K mg base CX0 (n + 1) T.f__law_same T.fd__law_same ["_law_found", "_law_due"] (spSame n)
  | 0 => ok_same0 T
  | n + 1 => ok_sameS T n (ok_same T n)
end
end My

namespace My
open PySem PySem.Spec PyProof.Rows L2
local macro_rules | `(tactic| walk_at "hp") => `(tactic| first | assumption | exact upd_same | (refine Eq.trans (upd_ne (by first | assumption | (apply Ne.symm; assumption))) ?_; walk_at "hp"))
local macro_rules | `(tactic| walk_at "ixl") => `(tactic| (refine' ⟨_, ?xs, _, ?vv, rfl, rfl, SqL.of ?hh, ?aa, ?qq⟩; (case hh => walk_at "hp"); (case aa => rfl)))
local macro_rules | `(tactic| walk_at "setl") => `(tactic| (refine' ⟨_, ?xs, _, ?jj, rfl, rfl, ?hh, ?aa, ?qq⟩; (case hh => walk_at "hp"); (case aa => rfl)))
local macro_rules | `(tactic| walk_at "cond") => `(tactic| first | exact ⟨_, rfl⟩ | exact Nat.le_of_lt (small1000 (Nat.le_of_ble_eq_true rfl)) | decide | omega | (dsimp only; omega) | exact ⟨by decide, by decide⟩ | exact Or.inr ⟨by decide, by decide⟩ | exact Or.inl ⟨by decide, by decide⟩ | exact ⟨by decide, by decide, by decide⟩ | exact ⟨by omega, by omega⟩ | exact ⟨by omega, by omega, by omega⟩ | (simp only [List.length_cons, List.length_nil, List.length_append, List.length_take, List.length_drop]; omega) | (refine ⟨?_, ?_, ?_⟩ <;> first | decide | omega | (simp only [List.length_cons, List.length_nil, List.length_append, List.length_take, List.length_drop, Option.getD_some, Option.getD_none]; omega)))
local macro_rules | `(tactic| walk_at "st") => `(tactic| repeat (first | refine ⟨_, rfl, ?_⟩ | refine ⟨_, _, rfl, rfl, ?_⟩ | walk_at "ixl" | walk_at "setl" | refine ⟨rfl, ?_⟩ | refine Or.inl ⟨_, rfl, ?_⟩ | refine And.intro (by walk_at "cond") ?_))
section
variable {P : Program} {w : World} {K : PySem.W.Frag} {mg : Str → Option Value} {base : Heap}
def spWrong : Sp := fun vs H Q _ => Hd (∃ (p q : Addr) (n : Int), vs = [.ref p] ∧ Stm H p q n ∧ n + 1 ≤ 100000 ∧
  ∀ (t : List Nat) (n' : Int) (H' : Hp), t ∈ WRG → n' ≤ n + 1 → Stm H' p q n' → Xt H H' p q → Q (.str (SX.S t)) H')
theorem ok_wrong (T : Txt K mg) : FnOk P w K mg base CX0 3 T.f__law_wrong_part T.fd__law_wrong_part ["_law_stream"] spWrong := by
  have G__law_pick : FnOk P w K mg base CX0 2 T.f__law_pick T.fd__law_pick _ spPick := ok_pick T
  refine T.D__law_wrong_part.F.ok sc__law_wrong_part (fun vs H Q E h => ?_) (fun cdv A outer s H vs Q E hr h => ?_)
  · obtain ⟨p, q, n, rfl, _⟩ := h.out
    rfl
  · obtain ⟨p, q, n, rfl, S, hn, k⟩ := h.out
    refine ⟨_, (pss_cons (ps_set (i := 1) sc__law_wrong_part.nd rfl (by first | exact Or.inl rfl | exact Or.inr rfl) (pe_lstG (pa_cons (SL.pe_strL [123, 125] (by decide +kernel)) (pa_cons (SL.pe_strL [123, 49, 97, 125] (by decide +kernel)) (pa_cons (SL.pe_strL [123, 97, 32, 98, 125] (by decide +kernel)) (pa_cons (SL.pe_strL [123, 32, 97, 125] (by decide +kernel)) (pa_cons (SL.pe_strL [123, 97, 32, 125] (by decide +kernel)) (pa_cons (SL.pe_strL [123, 97, 46, 98, 125] (by decide +kernel)) (pa_cons (SL.pe_strL [123, 97, 91, 48, 93, 125] (by decide +kernel)) (pa_cons (SL.pe_strL [123, 48, 125] (by decide +kernel)) (pa_cons (SL.pe_strL [123, 45, 97, 125] (by decide +kernel)) (pa_cons (SL.pe_strL [123, 97, 45, 125] (by decide +kernel)) (pa_cons (SL.pe_strL [123, 97, 43, 49, 125] (by decide +kernel)) (pa_cons (SL.pe_strL [123, 97, 44, 98, 125] (by decide +kernel)) (pa_cons (SL.pe_strL [123, 97, 61, 125] (by decide +kernel)) pa_nil)))))))))))))))
  (pss_cons (ps_set (i := 1) sc__law_wrong_part.nd rfl (by first | exact Or.inl rfl | exact Or.inr rfl) (pe_op op_catG (pv 1) (pe_lstG (pa_cons (SL.pe_strL [123, 97, 33, 125] (by decide +kernel)) (pa_cons (SL.pe_strL [123, 97, 33, 120, 125] (by decide +kernel)) (pa_cons (SL.pe_strL [123, 97, 33, 97, 125] (by decide +kernel)) (pa_cons (SL.pe_strL [123, 97, 33, 82, 125] (by decide +kernel)) (pa_cons (SL.pe_strL [123, 97, 33, 114, 114, 125] (by decide +kernel)) (pa_cons (SL.pe_strL [123, 97, 33, 114, 32, 125] (by decide +kernel)) (pa_cons (SL.pe_strL [123, 97, 33, 32, 114, 125] (by decide +kernel)) (pa_cons (SL.pe_strL [123, 97, 33, 114, 62, 53, 125] (by decide +kernel)) (pa_cons (SL.pe_strL [123, 33, 114, 125] (by decide +kernel)) (pa_cons (SL.pe_strL [123, 97, 33, 114, 33, 115, 125] (by decide +kernel)) pa_nil)))))))))))))
  (pss_cons (ps_set (i := 1) sc__law_wrong_part.nd rfl (by first | exact Or.inl rfl | exact Or.inr rfl) (pe_op op_catG (pv 1) (pe_lstG (pa_cons (SL.pe_strL [123, 97, 58, 125] (by decide +kernel)) (pa_cons (SL.pe_strL [123, 97, 33, 114, 58, 125] (by decide +kernel)) (pa_cons (SL.pe_strL [123, 97, 58, 48, 125] (by decide +kernel)) (pa_cons (SL.pe_strL [123, 97, 58, 48, 53, 125] (by decide +kernel)) (pa_cons (SL.pe_strL [123, 97, 58, 60, 48, 53, 125] (by decide +kernel)) (pa_cons (SL.pe_strL [123, 97, 58, 49, 48, 48, 125] (by decide +kernel)) (pa_cons (SL.pe_strL [123, 97, 58, 60, 49, 48, 48, 125] (by decide +kernel)) (pa_cons (SL.pe_strL [123, 97, 58, 120, 125] (by decide +kernel)) (pa_cons (SL.pe_strL [123, 97, 58, 53, 120, 125] (by decide +kernel)) (pa_cons (SL.pe_strL [123, 97, 58, 53, 115, 125] (by decide +kernel)) pa_nil)))))))))))))
  (pss_cons (ps_set (i := 1) sc__law_wrong_part.nd rfl (by first | exact Or.inl rfl | exact Or.inr rfl) (pe_op op_catG (pv 1) (pe_lstG (pa_cons (SL.pe_strL [123, 97, 58, 60, 53, 115, 125] (by decide +kernel)) (pa_cons (SL.pe_strL [123, 97, 58, 61, 53, 125] (by decide +kernel)) (pa_cons (SL.pe_strL [123, 97, 58, 43, 53, 125] (by decide +kernel)) (pa_cons (SL.pe_strL [123, 97, 58, 46, 53, 125] (by decide +kernel)) (pa_cons (SL.pe_strL [123, 97, 58, 53, 46, 50, 125] (by decide +kernel)) (pa_cons (SL.pe_strL [123, 97, 58, 44, 125] (by decide +kernel)) (pa_cons (SL.pe_strL [123, 97, 58, 120, 120, 60, 53, 125] (by decide +kernel)) (pa_cons (SL.pe_strL [123, 97, 58, 60, 60, 60, 53, 125] (by decide +kernel)) (pa_cons (SL.pe_strL [123, 97, 58, 32, 53, 125] (by decide +kernel)) pa_nil))))))))))))
  (pss_cons (ps_set (i := 1) sc__law_wrong_part.nd rfl (by first | exact Or.inl rfl | exact Or.inr rfl) (pe_op op_catG (pv 1) (pe_lstG (pa_cons (SL.pe_strL [123, 97, 58, 53, 32, 125] (by decide +kernel)) (pa_cons (SL.pe_strL [123, 58, 53, 125] (by decide +kernel)) (pa_cons (SL.pe_strL [123, 97, 58, 45, 53, 125] (by decide +kernel)) (pa_cons (SL.pe_strL [123, 97, 58, 60, 45, 53, 125] (by decide +kernel)) (pa_cons (SL.pe_strL [123, 97, 58, 60, 94, 62, 53, 125] (by decide +kernel)) (pa_cons (SL.pe_strL [123, 97, 58, 123, 60, 53, 125] (by decide +kernel)) (pa_cons (SL.pe_strL [123, 97, 58, 125, 60, 53, 125] (by decide +kernel)) (pa_cons (SL.pe_strL [123, 97, 58, 123, 119, 125, 125] (by decide +kernel)) (pa_cons (SL.pe_strL [123, 97, 58, 58, 125] (by decide +kernel)) pa_nil))))))))))))
  (pss_one (ps_ret (pe_call G__law_pick (hr.mono (by first | decide | omega)) rfl T.D__law_pick.g T.D__law_pick.F.kp T.D__law_pick.b .nil pass0 (pa_cons (pv 0) (pa_cons (pe_op op_catG (pv 1) (pe_lstG (pa_cons (SL.pe_strL [123] (by decide +kernel)) (pa_cons (SL.pe_strL [125] (by decide +kernel)) (pa_cons (SL.pe_strL [123, 97, 33, 114, 58, 58, 53, 125] (by decide +kernel)) pa_nil))))) pa_nil)))))))))), ?_⟩
    walk_at "st"
    intro l1 H1 hl1 e1 s1
    walk_at "st"
    intro l2 H2 hl2 e2 s2
    walk_at "st"
    refine ⟨l1, l2, _, _, rfl, rfl, s2 _ _ e1, e2, by decide, ?_⟩
    intro l3 H3 hl3 e3 s3
    walk_at "st"
    intro l4 H4 hl4 e4 s4
    walk_at "st"
    refine ⟨l3, l4, _, _, rfl, rfl, s4 _ _ e3, e4, by decide, ?_⟩
    intro l5 H5 hl5 e5 s5
    walk_at "st"
    intro l6 H6 hl6 e6 s6
    walk_at "st"
    refine ⟨l5, l6, _, _, rfl, rfl, s6 _ _ e5, e6, by decide, ?_⟩
    intro l7 H7 hl7 e7 s7
    walk_at "st"
    intro l8 H8 hl8 e8 s8
    walk_at "st"
    refine ⟨l7, l8, _, _, rfl, rfl, s8 _ _ e7, e8, by decide, ?_⟩
    intro l9 H9 hl9 e9 s9
    walk_at "st"
    intro la Ha hla ea sa
    walk_at "st"
    refine ⟨l9, la, _, _, rfl, rfl, sa _ _ e9, ea, by decide, ?_⟩
    intro lb Hb hlb eb sb
    have sAll := (((((((((s1.trans s2).trans s3).trans s4).trans s5).trans s6).trans s7).trans s8).trans s9).trans sa)
    have Sb : Stm Hb p q n := S.same (sAll.trans sb)
    obtain ⟨hpn, hqn⟩ := (S.same sAll).there
    walk_at "st"
    refine .a ⟨p, q, lb, n, _, rfl, Sb, hn, off_of eb (fun z => hpn (z ▸ hlb)) (fun z => hqn (z ▸ hlb)), Nat.le_of_ble_eq_true rfl, Nat.le_of_ble_eq_true rfl, fun v n' H' hv hn' S' fr => ?_⟩
    have hv2 : v ∈ WRG.map (fun t => V.str (SX.S t)) := hv
    obtain ⟨t, ht, rfl⟩ := List.mem_map.mp hv2
    exact k t n' H' ht hn' S' ((Xt.same (sAll.trans sb)).trans (.of (n := n) S' fr))
def spBps : Sp := fun vs H Q _ => Hd (∃ (a : Addr) (xs : List V) (ps : List Pb), vs = [.ref a] ∧ H a = some (.lst xs) ∧ PbsV H xs ps ∧ (∀ c ∈ ps, PbOk c) ∧ ps.length ≤ 100 ∧
  ∀ (b : Addr) (H' : Hp), H b = none → H' b = some (.lst (txV (ps.map bt))) → Same H H' → Q (.ref b) H')
theorem ok_bps (T : Txt K mg) : FnOk P w K mg base CX0 2 T.f__law_braced_parts T.fd__law_braced_parts ["_law_parts"] spBps := by
  have G__law_braced_text : FnOk P w K mg base CX0 1 T.f__law_braced_text T.fd__law_braced_text _ spEsc := ok_esc T
  have G__law_braced : FnOk P w K mg base CX0 1 T.f__law_braced T.fd__law_braced _ spBr := ok_braced T
  refine T.D__law_braced_parts.F.ok sc__law_braced_parts (fun vs H Q E h => ?_) (fun cdv A outer s H vs Q E hr h => ?_)
  · obtain ⟨a, xs, ps, rfl, _⟩ := h.out
    rfl
  · obtain ⟨a, xs, ps, rfl, ha, hp, hok, hl, k⟩ := h.out
    refine ⟨_, (pss_one (ps_ret (pe_lc (own := [("_law_part", 1)]) (g := gName 1) rfl sc__law_braced_parts.nd (pi_list (pv 0)) (blkOk_by (N := ["_law_parts", "_law_part"]) (sc := defScope s__law_braced_parts) (by decide +kernel)) (fun _ _ _ _ _ => (pg_name (i := 1) sc__law_braced_parts.nd rfl (by first | exact Or.inl rfl | exact Or.inr rfl))) (fun _ _ _ _ _ => pts_nil) (fun _ _ _ _ _ => (pe_ifExp (pt_val (pe_callB (isiK (K := K) rfl) (by rfl) T.B.n_isinstance (by decide +kernel) (pa_cons (pv 1) (pa_cons (pe_bltn (v := .ty "str") (u := .type "str") (by rfl) T.B.n_str (by decide +kernel) rfl) pa_nil)))) (pe_call G__law_braced_text (hr.mono (by first | decide | omega)) rfl T.D__law_braced_text.g T.D__law_braced_text.F.kp T.D__law_braced_text.b .nil pass0 (pa_cons (pv 1) pa_nil)) (pe_call G__law_braced (hr.mono (by first | decide | omega)) rfl T.D__law_braced.g T.D__law_braced.F.kp T.D__law_braced.b .nil pass0 (pa_cons (pv 1) pa_nil))))))), ?_⟩
    walk_at "st"
    refine ⟨⟨xs, SqL.of ha⟩, ?_⟩
    intro D hD
    refine comp_list (xs := xs) (fun i H1 => H1 D = some (.lst (txV ((ps.take i).map bt))) ∧ Same H H1) (fun i H1 ⟨_, h⟩ => h _ _ ha) ⟨upd_same, same_new hD⟩ ?_ ?_
    · rintro H1 ⟨h1, h2⟩
      rw [hp.len, List.take_length] at h1
      exact k D H1 hD h1 h2
    · rintro i H1 v ⟨h1, h2⟩ hv N hN
      obtain ⟨pc, hpc, hv0⟩ := hp.get hv
      have hv1 : PbV H1 v pc := hv0.mono h2
      have htk : ps.take (i + 1) = ps.take i ++ [pc] := take_snoc hpc
      have hmem : pc ∈ ps := List.mem_of_getElem? hpc
      have hil : i < xs.length := (List.getElem?_eq_some_iff.mp hv).1
      have hll := hp.len
      have fin : ∃ acc, H1 D = some (.lst acc) ∧ acc.length < sizeLine ∧ N (upd H1 D (.lst (acc ++ [V.str (SX.S (bt pc))]))) := by
        refine ⟨_, h1, szl ?_, ?_⟩
        · unfold txV
          rw [List.length_map, List.length_map, List.length_take]; omega
        · rw [hN]
          refine .a ⟨?_, same_put h2 hD⟩
          rw [htk, List.map_append]
          show _ = some (HO.lst (txV ((ps.take i).map bt ++ [bt pc])))
          unfold txV
          rw [List.map_append]
          exact upd_same
      walk_at "st"
      cases pc with
      | txt l =>
        obtain rfl : v = .str (SX.S l) := hv1
        refine ⟨_, _, _, _, true, rfl, .ty "str", .base (.str _), kit_ty (by decide +kernel), ?_⟩
        walk_at "st"
        exact .a ⟨l, rfl, by have := (hok _ hmem).1; omega, fin⟩
      | fld f =>
        obtain ⟨x, rfl, hx⟩ := hv1
        refine ⟨_, _, _, _, false, rfl, .ty "str", .base (.tup hx), kit_ty (by decide +kernel), ?_⟩
        walk_at "st"
        exact .a ⟨x, f, rfl, hx, hok _ hmem, fin⟩
end
end My

namespace My
open PySem PySem.Spec PyProof.Rows L2
local macro_rules | `(tactic| walk_at "hp") => `(tactic| first | assumption | exact upd_same | (refine Eq.trans (upd_ne (by first | assumption | (apply Ne.symm; assumption))) ?_; walk_at "hp"))
local macro_rules | `(tactic| walk_at "ixl") => `(tactic| (refine' ⟨_, ?xs, _, ?vv, rfl, rfl, SqL.of ?hh, ?aa, ?qq⟩; (case hh => walk_at "hp"); (case aa => rfl)))
local macro_rules | `(tactic| walk_at "setl") => `(tactic| (refine' ⟨_, ?xs, _, ?jj, rfl, rfl, ?hh, ?aa, ?qq⟩; (case hh => walk_at "hp"); (case aa => rfl)))
local macro_rules | `(tactic| walk_at "cond") => `(tactic| first | exact ⟨_, rfl⟩ | exact Nat.le_of_lt (small1000 (Nat.le_of_ble_eq_true rfl)) | decide | omega | (dsimp only; omega) | exact ⟨by decide, by decide⟩ | exact Or.inr ⟨by decide, by decide⟩ | exact Or.inl ⟨by decide, by decide⟩ | exact ⟨by decide, by decide, by decide⟩ | exact ⟨by omega, by omega⟩ | exact ⟨by omega, by omega, by omega⟩ | (simp only [List.length_cons, List.length_nil, List.length_append, List.length_take, List.length_drop]; omega) | (refine ⟨?_, ?_, ?_⟩ <;> first | decide | omega | (simp only [List.length_cons, List.length_nil, List.length_append, List.length_take, List.length_drop, Option.getD_some, Option.getD_none]; omega)))
local macro_rules | `(tactic| walk_at "st") => `(tactic| repeat (first | refine ⟨_, rfl, ?_⟩ | refine ⟨_, _, rfl, rfl, ?_⟩ | walk_at "ixl" | walk_at "setl" | refine ⟨rfl, ?_⟩ | refine Or.inl ⟨_, rfl, ?_⟩ | refine And.intro (by walk_at "cond") ?_))
theorem ixtK {X : Cx} {K : PySem.W.Frag} (h : X.K = K) : IxR X (rIxT K) := by
  subst h
  exact ix_tup
/-- a walk over a tuple that stands -/
theorem for_tup {K : PySem.W.Frag} {a : Addr} {xs : List V} {g : TG} {tb : TS} {D : Ends} {σ : L2.St} {H : Hp} (W : Nat → L2.St → Hp → Prop) (hst : ∀ i σ H, W i σ H → H a = some (.tup xs)) (h0 : W 0 σ H) (hend : ∀ σ H, W xs.length σ H → D.nx σ H)
    (hs : ∀ (R : L2.St → Hp → Prop) (i : Nat) σ H x, W i σ H → xs[i]? = some x → ∀ N : L2.St → Hp → Prop, N = (fun σ' H' => Hd (W (i + 1) σ' H')) → g x σ H fun σ2 H2 => tb { D with nx := N, ct := N, bk := D.nx } σ2 H2) :
    ∃ W : Nat → Nat → L2.St → Hp → Prop, (∃ m, W 0 m σ H) ∧ ∀ i m σ H, W i m σ H →
      ((Itt K a).stop i H ∧ D.nx σ H) ∨ ((Itt K a).go i H ∧ ∃ N : L2.St → Hp → Prop, (∀ σ' H', N σ' H' → ∃ m', m' < m ∧ W (i + 1) m' σ' H') ∧ ∀ x H', (Itt K a).yld i H x H' → g x σ H' fun σ2 H2 => tb { D with nx := N, ct := N, bk := D.nx } σ2 H2) := by
  refine ⟨fun i m σ H => W i σ H ∧ m = xs.length - i ∧ i ≤ xs.length, ⟨_, h0, rfl, Nat.zero_le _⟩, ?_⟩
  rintro i m σ H ⟨hw, rfl, hi⟩
  have hl := hst i σ H hw
  by_cases hlt : i < xs.length
  · refine .inr ⟨⟨xs, xs[i], SqT.of hl, List.getElem?_eq_getElem hlt⟩, fun σ' H' => Hd (W (i + 1) σ' H'), fun σ' H' z => ⟨xs.length - (i + 1), by omega, z.out, rfl, by omega⟩, ?_⟩
    rintro x H' ⟨rfl, hx⟩
    exact hs D.nx i σ H' x hw (hx xs (SqT.of hl)) _ rfl
  · have e : i = xs.length := by omega
    subst e
    exact .inl ⟨⟨xs, SqT.of hl, Nat.le_refl _⟩, hend σ H hw⟩
theorem cutV_to {xs : List V} {j : Nat} : cutV xs none (some (j : Int)) = xs.take j := by
  unfold cutV
  rw [HT.sIx_none, HT.sIx_nat, List.drop_zero, Nat.sub_zero]
  by_cases h : j ≤ xs.length
  · rw [Nat.min_eq_left h]
  · rw [Nat.min_eq_right (by omega), List.take_of_length_le (Nat.le_refl _), List.take_of_length_le (by omega)]
theorem cutV_from {xs : List V} {j : Nat} : cutV xs (some (j : Int)) none = xs.drop j := by
  unfold cutV
  rw [HT.sIx_none, HT.sIx_nat]
  by_cases h : j ≤ xs.length
  · rw [Nat.min_eq_left h, List.take_of_length_le (by rw [List.length_drop]; exact Nat.le_refl _)]
  · rw [Nat.min_eq_right (by omega), Nat.sub_self, List.take_zero, List.drop_eq_nil_of_le (by omega)]
theorem Stm.smt {H H' : Hp} {p q : Addr} {n : Int} (S : Stm H p q n) (h : SmT H H') : Stm H' p q n := by
  obtain ⟨⟨cs, a, c, SA⟩, n0, n1⟩ := S
  exact ⟨⟨cs, a, c, ⟨h.st _ _ SA.hp rfl, h.st _ _ SA.hq rfl, SA.a0, SA.c0, SA.c1⟩⟩, n0, n1⟩
theorem Xt.tab {H H' : Hp} {p q P : Addr} {n : Int} (x : Xt H H' p q) (S : Stm H p q n) (t : GxR.TabG H P) : GxR.TabG H' P := by
  obtain ⟨ps, e, k⟩ := t
  obtain ⟨⟨cs, a, c, SA⟩, _, _⟩ := S
  exact ⟨ps, x.at e (fun z => by rw [z, SA.hp] at e; cases e) (fun z => by rw [z, SA.hq] at e; cases e), k⟩
theorem txV_S (ls : List (List Nat)) : txV ls = (ls.map SX.S).map V.str := by
  unfold txV; rw [List.map_map]; rfl
theorem sum_len : ∀ ls : List (List Nat), ((ls.map SX.S).map (·.length)).sum = ls.flatten.length
  | [] => rfl
  | c :: r => by
    have := sum_len r
    simp only [List.map_cons, List.sum_cons, List.flatten_cons, List.length_append] at this ⊢
    rw [this, SX.S_len]
theorem ok_lo {l : List Nat} (h : ∀ c ∈ l, c < 128) : PyData.strOk (SX.S l) = true := by
  show (l.toArray.all fun c => decide (c < 0x110000)) = true
  rw [← Array.all_toList]
  exact List.all_eq_true.mpr fun c hc => decide_eq_true (by have := h c hc; omega)
theorem shp2 {a b : Str} (ha : PyData.strOk a = true) (hb : PyData.strOk b = true) : SeqAt.shaped (.tuple [.str a, .str b]) = true := by
  show ((PyData.strOk a && (PyData.strOk b && true)) && decide (PyData.depth (.tuple [.str a, .str b]) ≤ 64)) = true
  rw [ha, hb]
  rfl
theorem shp3 {a : Str} (ha : PyData.strOk a = true) : SeqAt.shaped (.tuple [.str a, .none]) = true := by
  show ((PyData.strOk a && (true && true)) && decide (PyData.depth (.tuple [.str a, .none]) ≤ 64)) = true
  rw [ha]
  rfl
theorem lo_f : ∀ c ∈ sFormat, c < 128 := by decide +kernel
theorem lo_m : ∀ c ∈ sMade, c < 128 := by decide +kernel
theorem ne_same {K : PySem.W.Frag} {H : Hp} {t1 t2 : Addr} {vs : List V} {Q : VK} (h1 : H t1 = some (.tup vs)) (h2 : H t2 = some (.tup vs)) (hv : (∃ l, vs = [.str (SX.S sFormat), .str (SX.S l)] ∧ ∀ c ∈ l, c < 128) ∨ vs = [.str (SX.S sMade), .non]) (hQ : Q (.bl false) H) : rNeD K (.ref t1) (.ref t2) H Q := by
  rcases hv with ⟨l, rfl, hlo⟩ | rfl
  · refine ⟨.tuple [.str (SX.S sFormat), .str (SX.S l)], .tuple [.str (SX.S sFormat), .str (SX.S l)], .tup (SqT.of h1) (.cons (.str _) (.cons (.str _) .nil)), .tup (SqT.of h2) (.cons (.str _) (.cons (.str _) .nil)), shp2 (ok_lo lo_f) (ok_lo hlo), shp2 (ok_lo lo_f) (ok_lo hlo), ?_⟩
    have e : PyData.eqv (.tuple [.str (SX.S sFormat), .str (SX.S l)]) (.tuple [.str (SX.S sFormat), .str (SX.S l)]) = true := by
      show ((SX.S sFormat == SX.S sFormat) && ((SX.S l == SX.S l) && true)) = true
      rw [beq_self_eq_true, beq_self_eq_true]; rfl
    rw [e]
    exact hQ
  · refine ⟨.tuple [.str (SX.S sMade), .none], .tuple [.str (SX.S sMade), .none], .tup (SqT.of h1) (.cons (.str _) (.cons .non .nil)), .tup (SqT.of h2) (.cons (.str _) (.cons .non .nil)), shp3 (ok_lo lo_m), shp3 (ok_lo lo_m), ?_⟩
    have e : PyData.eqv (.tuple [.str (SX.S sMade), .none]) (.tuple [.str (SX.S sMade), .none]) = true := by
      show ((SX.S sMade == SX.S sMade) && _) = true
      rw [beq_self_eq_true]; rfl
    rw [e]
    exact hQ
theorem if_due {c : Bool} {ta tb : TE} {σ : L2.St} {H : Hp} {Q : VK} (Mid : V → Hp → Prop) (hQ : ∀ v H', Mid v H' → Q v H') (h1 : c = true → ∀ R : VK, (∀ v H', Mid v H' → R v H') → ta σ H R) (h2 : c = false → ∀ R : VK, (∀ v H', Mid v H' → R v H') → tb σ H R) :
    if c = true then ta σ H Q else tb σ H Q := by
  cases c with
  | true => exact h1 rfl Q hQ
  | false => exact h2 rfl Q hQ
theorem cut_to {l : List Nat} {n : Nat} : SL.cutL l none (some (n : Int)) = l.take n := by
  show (l.take (n : Int).toNat).drop 0 = _
  rw [Int.toNat_natCast, List.drop_zero]
theorem told_form {l : List Nat} {ps : List Pc} (h : nms ps = []) (hl : ∀ c ∈ l, c < 128) (b : Bool) : (∃ m, told l (some ps) b = [.str (SX.S sFormat), .str (SX.S m)] ∧ ∀ c ∈ m, c < 128) ∨ told l (some ps) b = [.str (SX.S sMade), .non] := by
  cases b with
  | true => exact .inl ⟨l, if_pos ⟨h, rfl⟩, hl⟩
  | false => exact .inr (if_neg fun z => by cases z.2)
theorem bare_lo : ∀ c ∈ [97, 32, 123, 125, 36], c < 128 := by decide
structure OddR (H : Hp) (v : V) : Prop where
  o : OddV H v
  r : ∃ d : D, Rep H v d ∧ d.depth ≤ 1
theorem OddR.mono {H H' : Hp} {v : V} (h : OddR H v) (s : Same H H') : OddR H' v := ⟨h.o.mono s, by
  obtain ⟨d, r, k⟩ := h.r
  exact ⟨d, r.mono (same_rd s), k⟩⟩
section
variable {P : Program} {w : World} {K : PySem.W.Frag} {mg : Str → Option Value} {base : Heap}
def spLaw (K : PySem.W.Frag) (PW : Addr) : Sp := fun vs H Q _ => Hd (∃ (a : Addr) (ns : List Int), vs = [.ref a] ∧ SqL K H a (ns.map V.int) ∧ ns.length ≤ 63 ∧ GxR.TabG H PW ∧ ∀ H', Q (.bl true) H')
theorem ok_law (T : Txt K mg) (TB : GxR.TabB base mg T.cW T.PW) : FnOk P w K mg base CX0 10 T.f_law T.fd_law ["_law_script"] (spLaw K T.PW) := by
  have G__law_draw : FnOk P w K mg base CX0 1 T.f__law_draw T.fd__law_draw _ spDraw := ok_draw T
  have G__law_pick : FnOk P w K mg base CX0 2 T.f__law_pick T.fd__law_pick _ spPick := ok_pick T
  have G__law_text : FnOk P w K mg base CX0 3 T.f__law_text T.fd__law_text _ spText := ok_text T
  have G__law_same : FnOk P w K mg base CX0 4 T.f__law_same T.fd__law_same _ (spSame 3) := ok_same T 3
  have G__law_formatter_told : FnOk P w K mg base CX0 9 T.f__law_formatter_told T.fd__law_formatter_told _ (fun vs H Q E => spTold T.PW vs H Q E ∨ spToldO vs H Q E) := FnOk.or (ok_told T TB) (ok_toldO T)
  have G__law_made_alone : FnOk P w K mg base CX0 9 T.f__law_made_alone T.fd__law_made_alone _ (spAlone T.PW) := ok_alone T TB
  have G__law_braced_text : FnOk P w K mg base CX0 1 T.f__law_braced_text T.fd__law_braced_text _ spEsc := ok_esc T
  have G__law_braced_parts : FnOk P w K mg base CX0 2 T.f__law_braced_parts T.fd__law_braced_parts _ spBps := ok_bps T
  have G__law_format_parts : FnOk P w K mg base CX0 5 T.f__law_format_parts T.fd__law_format_parts _ spParts := ok_parts T
  have G__law_wrong_part : FnOk P w K mg base CX0 3 T.f__law_wrong_part T.fd__law_wrong_part _ spWrong := ok_wrong T
  refine T.D_law.F.ok sc_law (fun vs H Q E h => ?_) (fun cdv A outer s H vs Q E hr h => ?_)
  · obtain ⟨a, ns, rfl, _⟩ := h.out
    rfl
  · obtain ⟨a, ns, rfl, hS, hl, hTab, k⟩ := h.out
    have hu64 := hr.units
    refine ⟨_, (pss_cons (ps_set (i := 1) sc_law.nd rfl (by first | exact Or.inl rfl | exact Or.inr rfl) (pe_lst (pa_cons (pe_callTy call_list_of (by rfl) T.B.n_list (by decide +kernel) (pa_cons (pv 0) pa_nil)) (pa_cons pe_int (pa_cons pe_int (pa_cons pe_int pa_nil))))))
  (pss_cons (ps_for PassesOwn.never rfl (pi_range1 rfl T.B.n_range (pa_cons pe_int pa_nil)) (pg_name (i := 2) sc_law.nd rfl (by first | exact Or.inl rfl | exact Or.inr rfl))
    (pss_cons (ps_set (i := 3) sc_law.nd rfl (by first | exact Or.inl rfl | exact Or.inr rfl) (pe_call G__law_braced_parts (hr.mono (by first | decide | omega)) rfl T.D__law_braced_parts.g T.D__law_braced_parts.F.kp T.D__law_braced_parts.b .nil pass0 (pa_cons (pe_op op_catG (pe_call G__law_format_parts (hr.mono (by first | decide | omega)) rfl T.D__law_format_parts.g T.D__law_format_parts.F.kp T.D__law_format_parts.b .nil pass0 (pa_cons (pv 1) (pa_cons pe_int (pa_cons (pe_lstG (pa_cons (SL.pe_strL [97] (by decide +kernel)) (pa_cons (SL.pe_strL [109, 101, 115, 115, 97, 103, 101] (by decide +kernel)) (pa_cons (SL.pe_strL [95, 57] (by decide +kernel)) pa_nil)))) pa_nil)))) (pe_lstG (pa_cons (pe_tup (pa_cons (SL.pe_strL [97] (by decide +kernel)) (pa_cons (SL.pe_strL [] (by decide +kernel)) (pa_cons (SL.pe_strL [32] (by decide +kernel)) (pa_cons (SL.pe_strL [] (by decide +kernel)) (pa_cons pe_int pa_nil)))))) pa_nil))) pa_nil)))
  (pss_cons (ps_par (i := 4) (j := 5) rfl sc_law.nd rfl rfl (by decide) rfl rfl (pa_cons (pe_join (SL.pe_strL [] (by decide +kernel)) (pv 3)) (pa_cons (pe_cmpR op_eq (pe_call G__law_draw (hr.mono (by first | decide | omega)) rfl T.D__law_draw.g T.D__law_draw.F.kp T.D__law_draw.b .nil pass0 (pa_cons (pv 1) (pa_cons pe_int pa_nil))) pe_int (nomark _)) pa_nil)) rfl)
  (pss_cons (ps_par (i := 6) (j := 7) rfl sc_law.nd rfl rfl (by decide) rfl rfl (pa_cons (pe_call G__law_draw (hr.mono (by first | decide | omega)) rfl T.D__law_draw.g T.D__law_draw.F.kp T.D__law_draw.b .nil pass0 (pa_cons (pv 1) (pa_cons (pe_op op_add (pe_callB call_len_seq (by rfl) T.B.n_len (by decide +kernel) (pa_cons (pv 3) pa_nil)) pe_int) pa_nil))) (pa_cons (pe_call G__law_draw (hr.mono (by first | decide | omega)) rfl T.D__law_draw.g T.D__law_draw.F.kp T.D__law_draw.b .nil pass0 (pa_cons (pv 1) (pa_cons pe_int pa_nil))) pa_nil)) rfl)
  (pss_cons (ps_set (i := 8) sc_law.nd rfl (by first | exact Or.inl rfl | exact Or.inr rfl) (pe_join (SL.pe_strL [] (by decide +kernel)) (pe_op op_catG (pe_op op_catG (pe_slice sl_list (pv 3) po_none (po_some (pv 6))) (pe_lstG (pa_cons (pe_call G__law_wrong_part (hr.mono (by first | decide | omega)) rfl T.D__law_wrong_part.g T.D__law_wrong_part.F.kp T.D__law_wrong_part.b .nil pass0 (pa_cons (pv 1) pa_nil)) pa_nil))) (pe_slice sl_list (pv 3) (po_some (pv 6)) po_none))))
  (pss_cons (ps_if (pt_cmpR op_eq (pv 7) pe_int (nomark _))
    (pss_cons (ps_set (i := 9) sc_law.nd rfl (by first | exact Or.inl rfl | exact Or.inr rfl) (pe_call G__law_draw (hr.mono (by first | decide | omega)) rfl T.D__law_draw.g T.D__law_draw.F.kp T.D__law_draw.b .nil pass0 (pa_cons (pv 1) (pa_cons (pe_op op_add (pe_callB SL.call_lenL (by rfl) T.B.n_len (by decide +kernel) (pa_cons (pv 4) pa_nil)) pe_int) pa_nil))))
  (pss_one (ps_set (i := 8) sc_law.nd rfl (by first | exact Or.inl rfl | exact Or.inr rfl) (pe_op SL.op_addL (pe_op SL.op_addL (pe_slice SL.sl_L (pv 4) po_none (po_some (pv 9))) (pe_call G__law_pick (hr.mono (by first | decide | omega)) rfl T.D__law_pick.g T.D__law_pick.F.kp T.D__law_pick.b .nil pass0 (pa_cons (pv 1) (pa_cons (pe_lstG (pa_cons (SL.pe_strL [123] (by decide +kernel)) (pa_cons (SL.pe_strL [125] (by decide +kernel)) pa_nil))) pa_nil)))) (pe_slice SL.sl_L (pv 4) (po_some (pv 9)) po_none)))))
    pss_nil)
  (pss_cons (ps_if (pt_cmpR op_eq (pv 7) pe_int (nomark _))
    (pss_one (ps_set (i := 8) sc_law.nd rfl (by first | exact Or.inl rfl | exact Or.inr rfl) (pe_op SL.op_addL (pv 4) (pe_call G__law_pick (hr.mono (by first | decide | omega)) rfl T.D__law_pick.g T.D__law_pick.F.kp T.D__law_pick.b .nil pass0 (pa_cons (pv 1) (pa_cons (pe_lstG (pa_cons (SL.pe_strL [123, 97] (by decide +kernel)) (pa_cons (SL.pe_strL [123, 97, 33, 114] (by decide +kernel)) (pa_cons (SL.pe_strL [123, 97, 58] (by decide +kernel)) (pa_cons (SL.pe_strL [123, 97, 58, 53] (by decide +kernel)) (pa_cons (SL.pe_strL [123, 97, 33] (by decide +kernel)) (pa_cons (SL.pe_strL [123] (by decide +kernel)) (pa_cons (SL.pe_strL [123, 97, 58, 60] (by decide +kernel)) (pa_cons (SL.pe_strL [123, 125] (by decide +kernel)) pa_nil))))))))) pa_nil))))))
    pss_nil)
  (pss_cons (ps_if (pt_cmpR (op_neD hu64) (pe_call G__law_formatter_told (hr.mono (by first | decide | omega)) rfl T.D__law_formatter_told.g T.D__law_formatter_told.F.kp T.D__law_formatter_told.b .nil pass0 (pa_cons (pv 8) (pa_cons (SL.pe_strL [123] (by decide +kernel)) (pa_cons (pv 5) pa_nil)))) (pe_tup (pa_cons (SL.pe_strL [102, 111, 114, 109, 97, 116] (by decide +kernel)) (pa_cons (pv 8) pa_nil))) (nomark _))
    (pss_one (ps_ret pe_bl))
    pss_nil)
  (pss_cons (ps_set (i := 10) sc_law.nd rfl (by first | exact Or.inl rfl | exact Or.inr rfl) (pe_call G__law_braced_text (hr.mono (by first | decide | omega)) rfl T.D__law_braced_text.g T.D__law_braced_text.F.kp T.D__law_braced_text.b .nil pass0 (pa_cons (pe_call G__law_text (hr.mono (by first | decide | omega)) rfl T.D__law_text.g T.D__law_text.F.kp T.D__law_text.b .nil pass0 (pa_cons (pv 1) (pa_cons (SL.pe_strL [97, 32, 123, 125, 36] (by decide +kernel)) (pa_cons pe_int pa_nil)))) pa_nil)))
  (pss_cons (ps_set (i := 11) sc_law.nd rfl (by first | exact Or.inl rfl | exact Or.inr rfl) (pe_ifExp (pt_val (pv 5)) (pe_tup (pa_cons (SL.pe_strL [102, 111, 114, 109, 97, 116] (by decide +kernel)) (pa_cons (pv 10) pa_nil))) (pe_tup (pa_cons (SL.pe_strL [109, 97, 100, 101] (by decide +kernel)) (pa_cons pe_non pa_nil)))))
  (pss_cons (ps_if (PW.pt (pw_or (pt_cmpR (op_neD hu64) (pe_call G__law_formatter_told (hr.mono (by first | decide | omega)) rfl T.D__law_formatter_told.g T.D__law_formatter_told.F.kp T.D__law_formatter_told.b .nil pass0 (pa_cons (pv 10) (pa_cons (SL.pe_strL [123] (by decide +kernel)) (pa_cons (pv 5) pa_nil)))) (pv 11) (nomark _)) (pw_or1 (pt_cmpR SL.op_neL (pe_ix (ixtK (K := K) rfl) (pe_call G__law_formatter_told (hr.mono (by first | decide | omega)) rfl T.D__law_formatter_told.g T.D__law_formatter_told.F.kp T.D__law_formatter_told.b .nil pass0 (pa_cons (pv 4) (pa_cons (SL.pe_strL [123] (by decide +kernel)) (pa_cons (pv 5) pa_nil)))) pe_int (fun _ _ => rfl)) (SL.pe_strL [109, 97, 100, 101] (by decide +kernel)) (nomark _)))))
    (pss_one (ps_ret pe_bl))
    pss_nil)
  (pss_cons (ps_if (PW.pt (pw_or (pt_cmpR (op_neD hu64) (pe_call G__law_made_alone (hr.mono (by first | decide | omega)) rfl T.D__law_made_alone.g T.D__law_made_alone.F.kp T.D__law_made_alone.b .nil pass0 (pa_cons (pv 10) (pa_cons (SL.pe_strL [123] (by decide +kernel)) pa_nil))) (pe_tup (pa_cons (SL.pe_strL [102, 111, 114, 109, 97, 116] (by decide +kernel)) (pa_cons (pv 10) pa_nil))) (nomark _)) (pw_or1 (pt_cmpR SL.op_neL (pe_ix (ixtK (K := K) rfl) (pe_call G__law_made_alone (hr.mono (by first | decide | omega)) rfl T.D__law_made_alone.g T.D__law_made_alone.F.kp T.D__law_made_alone.b .nil pass0 (pa_cons (pv 4) (pa_cons (SL.pe_strL [123] (by decide +kernel)) pa_nil))) pe_int (fun _ _ => rfl)) (SL.pe_strL [109, 97, 100, 101] (by decide +kernel)) (nomark _)))))
    (pss_one (ps_ret pe_bl))
    pss_nil)
  (pss_cons (ps_set (i := 12) sc_law.nd rfl (by first | exact Or.inl rfl | exact Or.inr rfl) (pe_call G__law_pick (hr.mono (by first | decide | omega)) rfl T.D__law_pick.g T.D__law_pick.F.kp T.D__law_pick.b .nil pass0 (pa_cons (pv 1) (pa_cons (pe_lstG (pa_cons (SL.pe_strL [120] (by decide +kernel)) (pa_cons (SL.pe_strL [] (by decide +kernel)) (pa_cons (SL.pe_strL [123, 125] (by decide +kernel)) (pa_cons (SL.pe_strL [36, 36] (by decide +kernel)) (pa_cons (SL.pe_strL [123, 32] (by decide +kernel)) (pa_cons pe_non (pa_cons pe_int (pa_cons pe_bl (pa_cons (pe_lstG pa_nil) (pa_cons (pe_lstG (pa_cons (SL.pe_strL [123] (by decide +kernel)) pa_nil)) (pa_cons (pe_tup (pa_cons (SL.pe_strL [36] (by decide +kernel)) pa_nil)) (pa_cons (pe_disp (pps_cons (SL.pe_strL [123] (by decide +kernel)) pe_int pps_nil) rfl rfl (List.cons_ne_nil _ _) (by decide)) (pa_cons pe_int pa_nil)))))))))))))) pa_nil))))
  (pss_one (ps_for PassesOwn.never rfl (pi_tup (pe_tup (pa_cons (pv 4) (pa_cons (pv 8) (pa_cons pe_non pa_nil))))) (pg_name (i := 13) sc_law.nd rfl (by first | exact Or.inl rfl | exact Or.inr rfl))
    (pss_one (ps_if (pt_not (pt_val (pe_call G__law_same (hr.mono (by first | decide | omega)) rfl T.D__law_same.g T.D__law_same.F.kp T.D__law_same.b .nil pass0 (pa_cons (pe_call G__law_formatter_told (hr.mono (by first | decide | omega)) rfl T.D__law_formatter_told.g T.D__law_formatter_told.F.kp T.D__law_formatter_told.b .nil pass0 (pa_cons (pv 13) (pa_cons (pv 12) (pa_cons (pv 5) pa_nil)))) (pa_cons (pe_tup (pa_cons (SL.pe_strL [115, 116, 121, 108, 101] (by decide +kernel)) (pa_cons (pv 12) pa_nil))) pa_nil)))))
    (pss_one (ps_ret pe_bl))
    pss_nil)))))))))))))))))
  (pss_one (ps_ret pe_bl)))), ?_⟩
    walk_at "st"
    refine ⟨a, ns.map V.int, rfl, .inl hS, fun q hq => ?_⟩
    walk_at "st"
    intro p hp
    have qp : q ≠ p := fun e => by rw [← e, upd_same] at hp; cases hp
    have S0 : Stm (upd (upd H q (.lst (ns.map V.int))) p (.lst [.ref q, .int 0, .int 0, .int 0])) p q 0 :=
      ⟨⟨ns, 0, 0, ⟨upd_same, by rw [upd_ne qp]; exact upd_same, by decide, by decide, by decide⟩⟩, by decide, by decide⟩
    have Tab0 : GxR.TabG (upd (upd H q (.lst (ns.map V.int))) p (.lst [.ref q, .int 0, .int 0, .int 0])) T.PW := (Same.t ((same_new hq).trans (same_new hp))).tab hTab
    generalize upd (upd H q (.lst (ns.map V.int))) p (.lst [.ref q, .int 0, .int 0, .int 0]) = H0 at S0 Tab0 ⊢
    walk_at "st"
    refine for_rng (lo := 0) (n := 10) (fun i σ H1 => ∃ (v1 v2 v3 v4 v5 v6 v7 v8 v9 v10 v11 v12 : Option V) (n : Int), σ = [some (.ref a), some (.ref p), v1, v2, v3, v4, v5, v6, v7, v8, v9, v10, v11, v12] ∧ Stm H1 p q n ∧ n ≤ 100 * (i : Int) ∧ GxR.TabG H1 T.PW) ⟨_, _, _, _, _, _, _, _, _, _, _, _, 0, rfl, S0, by decide, Tab0⟩ ?_ ?_
    · rintro σ H1 ⟨v1, v2, v3, v4, v5, v6, v7, v8, v9, v10, v11, v12, n, rfl, S, hn, _⟩
      walk_at "st"
      exact k _
    · rintro R i σ H1 hi ⟨v1, v2, v3, v4, v5, v6, v7, v8, v9, v10, v11, v12, n, rfl, S, hn, hT1⟩ N hN
      walk_at "st"
      obtain ⟨hpn, hqn⟩ := S.there
      intro kl H2 hkl ekl s2
      have S2 : Stm H2 p q n := S.same s2
      have hT2 := (Same.t s2).tab hT1
      have klp : kl ≠ p := fun z => hpn (z ▸ hkl)
      have klq : kl ≠ q := fun z => hqn (z ▸ hkl)
      walk_at "st"
      refine .a ⟨p, q, kl, n, rfl, S2, by omega, off_of ekl klp klq, fun b xs ps n3 H3 hb hb3 hps hg hl3 hn3 S3 X3 => ?_⟩
      have hT3 := X3.tab S2 hT2
      walk_at "st"
      intro T0 hT0
      walk_at "st"
      intro l2 H5 hl2 el2 s5
      walk_at "st"
      have e5 : Same H3 (upd H3 T0 (.tup (flT ⟨[97], [], [32], [], 0⟩))) := same_new hT0
      have eT4 : (upd H3 T0 (.tup (flT ⟨[97], [], [32], [], 0⟩))) T0 = some (.tup (flT ⟨[97], [], [32], [], 0⟩)) := upd_same
      have s35 : Same H3 H5 := e5.trans s5
      have eT5 := s5 _ _ eT4
      have hlx : xs.length = ps.length := hps.len
      refine ⟨b, l2, _, _, rfl, rfl, s35 _ _ (off_same _ _ hb3), el2, ?_, fun pp H6 hpp epp s6 => ?_⟩
      · rw [List.length_singleton]; exact SL.sz (by omega)
      have s36 := s35.trans s6
      have hp6 : PbsV H6 (xs ++ [.ref T0]) (ps ++ [.fld ⟨[97], [], [32], [], 0⟩]) := (hps.mono (off_same.trans s36)).app (.cons (show PbV _ _ (.fld _) from ⟨T0, rfl, s6 _ _ eT5⟩) .nil)
      have hg6 : ∀ c ∈ ps ++ [Pb.fld ⟨[97], [], [32], [], 0⟩], PbOk c := fun c hc => by
        rcases List.mem_append.mp hc with hc | hc
        · exact hg c hc
        · rw [List.mem_singleton.mp hc]; exact fl_a
      have hll6 : (ps ++ [Pb.fld ⟨[97], [], [32], [], 0⟩]).length ≤ 100 := by rw [List.length_append, List.length_singleton]; omega
      walk_at "st"
      refine .a ⟨pp, _, _, rfl, epp, hp6, hg6, hll6, fun pb H7 hpb epb s7 => ?_⟩
      have s37 := s36.trans s7
      have S7 : Stm H7 p q n3 := S3.same s37
      have hT7 := (Same.t s37).tab hT3
      have hR : ∀ x ∈ ps.map bt, Rt x := fun x hx => by
        obtain ⟨c, hc, rfl⟩ := List.mem_map.mp hx
        exact bt_Rt (hg c hc)
      have hls : (ps.map bt).length ≤ 3 := by rw [List.length_map]; exact hl3
      have eLA : bt (.fld ⟨[97], [], [32], [], 0⟩) = LA := by decide +kernel
      rw [List.map_append] at epb
      have epb2 : H7 pb = some (.lst (txV (ps.map bt ++ [LA]))) := by rw [← eLA]; exact epb
      clear epb
      generalize ps.map bt = ls at hR hls epb2
      obtain ⟨rn, rWB, rne⟩ := right_WB hR
      have hR2 : ∀ x ∈ ls ++ [LA], Rt x := fun x hx => by
        rcases List.mem_append.mp hx with hx | hx
        · exact hR x hx
        · rw [List.mem_singleton.mp hx, ← eLA]; exact bt_Rt fl_a
      have hzl : (ls ++ [LA]).length ≤ 4 := by rw [List.length_append, List.length_singleton]; omega
      have rlen := flat_ln hR2
      have rlo := flat_lo hR2
      have zlen : (txV (ls ++ [LA])).length = (ls ++ [LA]).length := List.length_map ..
      generalize ls ++ [LA] = zs at epb2 hR2 hzl rWB rlen rlo zlen
      walk_at "st"
      refine ⟨_, pb, zs.map SX.S, rfl, rfl, .inl (SqL.of (by rw [epb2, txV_S])), ?_, ?_⟩
      · rw [sum_len]; show _ + _ * 0 ≤ _; omega
      have ej : Txt.join (SX.S []) (zs.map SX.S) = SX.S zs.flatten := by rw [SX.join_S, joinL_flat]
      rw [ej]
      walk_at "st"
      refine .a ⟨p, q, n3, 2, rfl, S7, by omega, by omega, by omega, fun d1 n8 H8 d10 d11 hn8 S8 fr8 => ?_⟩
      have X8 : Xt H7 H8 p q := .of (n := n3) S8 fr8
      have hT8 := X8.tab S7 hT7
      walk_at "st"
      refine ⟨_, _, rfl, ?_⟩
      generalize decide (V.int d1 = V.int 0) = fb
      walk_at "st"
      have pbp : pb ≠ p := fun z => (S3.same s36).there.1 (z ▸ hpb)
      have pbq : pb ≠ q := fun z => (S3.same s36).there.2 (z ▸ hpb)
      have ep8 := X8.fr _ _ (off_of epb2 pbp pbq)
      refine ⟨pb, _, rfl, .inl (SqL.of (off_same _ _ ep8)), ?_⟩
      walk_at "st"
      refine .a ⟨p, q, n8, ((txV zs).length : Int) + 1, rfl, S8, by omega, by omega, by omega, fun d2 n9 H9 d20 d21 hn9 S9 fr9 => ?_⟩
      have X9 : Xt H8 H9 p q := .of (n := n8) S9 fr9
      have hT9 := X9.tab S8 hT8
      have ep9 := X9.fr _ _ ep8
      obtain ⟨j, rfl⟩ : ∃ j : Nat, d2 = (j : Int) := ⟨d2.toNat, by omega⟩
      walk_at "st"
      refine .a ⟨p, q, n9, 3, rfl, S9, by omega, by omega, by omega, fun d3 n10 H10 d30 d31 hn10 S10 fr10 => ?_⟩
      have X10 : Xt H9 H10 p q := .of (n := n9) S10 fr10
      have hT10 := X10.tab S9 hT9
      have ep10 := X10.fr _ _ ep9
      walk_at "st"
      refine ⟨_, _, rfl, ?_⟩
      walk_at "st"
      refine ⟨pb, txV zs, rfl, SqL.of (off_same _ _ ep10), fun sa hsa => ?_⟩
      rw [cutV_to]
      obtain ⟨hpn10, hqn10⟩ := S10.there
      have sap : sa ≠ p := fun z => hpn10 (z ▸ hsa)
      have saq : sa ≠ q := fun z => hqn10 (z ▸ hsa)
      have X11 : Xt H10 (upd H10 sa (.lst ((txV zs).take j))) p q := Xt.new hsa
      have S11 : Stm (upd H10 sa (.lst ((txV zs).take j))) p q n10 := S10.put sap saq
      have es11 : off (upd H10 sa (.lst ((txV zs).take j))) p q sa = some (.lst ((txV zs).take j)) := off_of upd_same sap saq
      have hT11 := X11.tab S10 hT10
      have ep11 := X11.fr _ _ ep10
      generalize upd H10 sa (.lst ((txV zs).take j)) = H11 at X11 S11 es11 hT11 ep11 ⊢
      walk_at "st"
      refine .a ⟨p, q, n10, rfl, S11, by omega, fun t n12 H12 ht hn12 S12 X12 => ?_⟩
      have hT12 := X12.tab S11 hT11
      have ep12 := X12.fr _ _ ep11
      have es12 := X12.fr _ _ es11
      walk_at "st"
      intro lw H13 hlw elw s13
      walk_at "st"
      have l1 : ((txV zs).take j).length ≤ 4 := by rw [List.length_take]; omega
      refine ⟨sa, lw, _, _, rfl, rfl, s13 _ _ (off_same _ _ es12), elw, ?_, fun pc H14 hpc epc s14 => ?_⟩
      · rw [List.length_singleton]; exact SL.sz (by omega)
      have s24 := s13.trans s14
      have X14 : Xt H12 H14 p q := .same s24
      have S14 := S12.same s24
      have hT14 := X14.tab S12 hT12
      have ep14 := X14.fr _ _ ep12
      walk_at "st"
      refine ⟨pb, txV zs, rfl, SqL.of (off_same _ _ ep14), fun sb hsb => ?_⟩
      rw [cutV_from]
      have s15 : Same H14 (upd H14 sb (.lst ((txV zs).drop j))) := same_new hsb
      have esb : (upd H14 sb (.lst ((txV zs).drop j))) sb = some (.lst ((txV zs).drop j)) := upd_same
      generalize upd H14 sb (.lst ((txV zs).drop j)) = H15 at s15 esb ⊢
      walk_at "st"
      have l2' : ((txV zs).drop j).length ≤ 4 := by rw [List.length_drop]; omega
      refine ⟨pc, sb, _, _, rfl, rfl, s15 _ _ epc, esb, ?_, fun pd H16 hpd epd s16 => ?_⟩
      · rw [List.length_append, List.length_singleton]; exact SL.sz (by omega)
      have X16 : Xt H14 H16 p q := .same (s15.trans s16)
      have S16 := S14.same (s15.trans s16)
      have hT16 := X16.tab S14 hT14
      have ep16 := X16.fr _ _ ep14
      have epz : (txV zs).take j ++ [V.str (SX.S t)] ++ (txV zs).drop j = txV (zs.take j ++ [t] ++ zs.drop j) := by
        unfold txV
        rw [List.map_append, List.map_append, List.map_take, List.map_drop]; rfl
      rw [epz] at epd
      have tl12 := wrg_all t ht
      have hfl : (zs.take j ++ [t] ++ zs.drop j).flatten = (zs.take j).flatten ++ (t ++ (zs.drop j).flatten) := by simp
      have hfl2 : zs.flatten.length = (zs.take j).flatten.length + (zs.drop j).flatten.length := by
        have e : zs = zs.take j ++ zs.drop j := (List.take_append_drop j zs).symm
        have := congrArg (fun l : List (List Nat) => l.flatten.length) e
        simp only [List.flatten_append, List.length_append] at this
        exact this
      have brl : (zs.take j ++ [t] ++ zs.drop j).flatten.length ≤ 100 := by
        rw [hfl]; simp only [List.length_append]; omega
      have brB := mid_Bp hR2 ht j
      rw [← hfl] at brB
      have brlo : ∀ c ∈ (zs.take j ++ [t] ++ zs.drop j).flatten, c < 128 := by
        rw [hfl]
        intro c hc
        rcases List.mem_append.mp hc with hc | hc
        · exact flat_lo (fun x hx => hR2 x (List.mem_of_mem_take hx)) c hc
        · rcases List.mem_append.mp hc with hc | hc
          · exact tl12.2.2 c hc
          · exact flat_lo (fun x hx => hR2 x (List.mem_of_mem_drop hx)) c hc
      refine ⟨_, pd, (zs.take j ++ [t] ++ zs.drop j).map SX.S, rfl, rfl, .inl (SqL.of (by rw [epd, txV_S])), ?_, ?_⟩
      · rw [sum_len]; show _ + _ * 0 ≤ _; omega
      have ej2 : Txt.join (SX.S []) ((zs.take j ++ [t] ++ zs.drop j).map SX.S) = SX.S (zs.take j ++ [t] ++ zs.drop j).flatten := by rw [SX.join_S, joinL_flat]
      rw [ej2]
      generalize (zs.take j ++ [t] ++ zs.drop j).flatten = br at brl brB brlo
      generalize zs.flatten = rt at rWB rlen rlo hfl2 ⊢
      walk_at "st"
      refine if_rest (fun σ Hk => ∃ (bk : List Nat) (nk : Int) (y9 : Option V), σ = [some (.ref a), some (.ref p), some (.int (0 + (i : Int))), some (.ref pb), some (.str (SX.S rt)), some (.bl fb), some (.int (j : Int)), some (.int d3), some (.str (SX.S bk)), y9, v9, v10, v11, v12] ∧
        Bp bk none ∧ (∀ c ∈ bk, c < 128) ∧ bk.length ≤ 300 ∧ nk ≤ n12 + 2 ∧ Stm Hk p q nk ∧ GxR.TabG Hk T.PW) ?_ ?_ ?_
      · rintro σ Hk ⟨bk, nk, y9, rfl, bkB, bklo, bkl, hnk, Sk, hTk⟩
        walk_at "st"
        refine if_rest (fun σ Hk => ∃ (bk : List Nat) (nk : Int), σ = [some (.ref a), some (.ref p), some (.int (0 + (i : Int))), some (.ref pb), some (.str (SX.S rt)), some (.bl fb), some (.int (j : Int)), some (.int d3), some (.str (SX.S bk)), y9, v9, v10, v11, v12] ∧
          Bp bk none ∧ (∀ c ∈ bk, c < 128) ∧ bk.length ≤ 300 ∧ nk ≤ n12 + 3 ∧ Stm Hk p q nk ∧ GxR.TabG Hk T.PW) ?_ ?_ ?_
        · clear bkB bklo bkl hnk Sk hTk
          rintro σ Hk ⟨bk, nk, rfl, bkB, bklo, bkl, hnk, Sk, hTk⟩
          obtain ⟨rps, rD, rN⟩ := rWB.ok
          have rM : ∀ b : Bool, told rt (some rps) b = [.str (SX.S sMade), .non] := fun b => told_yes (.inl (by rw [rN]; exact rne))
          walk_at "st"
          refine .inl (.a ⟨bk, none, fb, rfl, by omega, bkB, hTk, fun t1 H18 ht1 e18 s18 => ?_⟩)
          walk_at "st"
          intro t2 ht2
          have s19 : Same H18 (upd H18 t2 (.tup [.str (SX.S [102, 111, 114, 109, 97, 116]), .str (SX.S bk)])) := same_new ht2
          refine ne_same (s19 _ _ e18) upd_same (.inl ⟨bk, rfl, bklo⟩) ?_
          have st19 := s18.trans (Same.t s19)
          have S19 := Sk.smt st19
          have hT19 := st19.tab hTk
          generalize upd H18 t2 (.tup [.str (SX.S [102, 111, 114, 109, 97, 116]), .str (SX.S bk)]) = H19 at S19 hT19 ⊢
          clear s19 st19
          walk_at "st"
          refine .a ⟨p, q, nk, [97, 32, 123, 125, 36], 4, rfl, S19, by omega, by decide, by decide, by omega, fun tx n20 H20 htx hlx2 hn20 S20 X20 => ?_⟩
          have hT20 := X20.tab S19 hT19
          walk_at "st"
          refine .a ⟨tx, rfl, by omega, ?_⟩
          have bal := esc_len tx
          have balo := esc_lo tx (fun c hc => bare_lo c (htx c hc))
          obtain ⟨pb2, hDb, hnb2⟩ := (esc_WB tx).ok
          generalize esc tx = ba at bal balo hDb ⊢
          walk_at "st"
          refine if_due (fun v H' => ∃ td, v = .ref td ∧ H' td = some (.tup (told ba (some pb2) fb)) ∧ Same H20 H') ?_ ?_ ?_
          · rintro v H21 ⟨td, rfl, etd, s21⟩
            have hT21 := (Same.t s21).tab hT20
            walk_at "st"
            refine .inl (.a ⟨ba, some pb2, fb, rfl, by omega, hDb, hT21, fun t3 H22 ht3 e22 s22 => ?_⟩)
            walk_at "st"
            refine ne_same e22 (s22.st _ _ etd rfl) (told_form hnb2 balo fb) ?_
            have hT22 := s22.tab hT21
            walk_at "st"
            refine .inl (.a ⟨rt, some rps, fb, rfl, by omega, rD, hT22, fun t4 H23 ht4 e23 s23 => ?_⟩)
            rw [rM] at e23
            have hT23 := s23.tab hT22
            refine ⟨t4, _, 0, _, rfl, rfl, SqT.of e23, atI_nat (j := 0) rfl, ?_⟩
            walk_at "st"
            refine .a ⟨ba, some pb2, rfl, by omega, hDb, hT23, fun t5 H24 ht5 e24 s24 => ?_⟩
            have e24' : H24 t5 = some (.tup [.str (SX.S sFormat), .str (SX.S ba)]) := by rw [e24, told_no (.inr ⟨pb2, rfl, hnb2, rfl⟩)]
            walk_at "st"
            intro t6 ht6
            have s25 : Same H24 (upd H24 t6 (.tup [.str (SX.S [102, 111, 114, 109, 97, 116]), .str (SX.S ba)])) := same_new ht6
            refine ne_same (s25 _ _ e24') upd_same (.inl ⟨ba, rfl, balo⟩) ?_
            have st25 := ((((Same.t s21).trans s22).trans s23).trans s24).trans (Same.t s25)
            have S25 := S20.smt st25
            have hT25 := st25.tab hT20
            generalize upd H24 t6 (.tup [.str (SX.S [102, 111, 114, 109, 97, 116]), .str (SX.S ba)]) = H25 at S25 hT25 ⊢
            clear s25 st25
            walk_at "st"
            refine .a ⟨rt, some rps, rfl, by omega, rD, hT25, fun t7 H26 ht7 e26 s26 => ?_⟩
            rw [rM] at e26
            have S26 := S25.smt s26
            have hT26 := s26.tab hT25
            refine ⟨t7, _, 0, _, rfl, rfl, SqT.of e26, atI_nat (j := 0) rfl, ?_⟩
            walk_at "st"
            intro a1 H27 ha1 ea1 s27
            walk_at "st"
            intro a2 H28 ha2 ea2 s28
            walk_at "st"
            intro a3 ha3
            have s29 : Same H28 (upd H28 a3 (.tup [.str (SX.S [36])])) := same_new ha3
            have ea3 : (upd H28 a3 (.tup [.str (SX.S [36])])) a3 = some (.tup [.str (SX.S [36])]) := upd_same
            generalize upd H28 a3 (.tup [.str (SX.S [36])]) = H29 at s29 ea3 ⊢
            walk_at "st"
            intro a4 ha4
            walk_at "st"
            refine ⟨upd_same, [(.inr (SX.S [123]), .int 1)], rfl, by decide, ?_⟩
            have s30 : Same H29 (upd (upd H29 a4 (.dK [])) a4 (.dK (mergeK [] [(.inr (SX.S [123]), .int 1)]))) := same_put (same_new ha4) ha4
            have ea4 : (upd (upd H29 a4 (.dK [])) a4 (.dK (mergeK [] [(.inr (SX.S [123]), .int 1)]))) a4 = some (.dK (kz [.int 1])) := by
              rw [upd_same]; exact congrArg (fun l => some (HO.dK l)) (mergeK_kz [.int 1])
            generalize upd (upd H29 a4 (.dK [])) a4 (.dK (mergeK [] [(.inr (SX.S [123]), .int 1)])) = H30 at s30 ea4 ⊢
            walk_at "st"
            intro lo H31 hlo elo s31
            have sA := (((s27.trans s28).trans s29).trans s30).trans s31
            have S31 := S26.same sA
            have hT31 := (Same.t sA).tab hT26
            have lop : lo ≠ p := fun z => (S26.same (((s27.trans s28).trans s29).trans s30)).there.1 (z ▸ hlo)
            have loq : lo ≠ q := fun z => (S26.same (((s27.trans s28).trans s29).trans s30)).there.2 (z ▸ hlo)
            walk_at "st"
            refine .a ⟨p, q, lo, n20, _, rfl, S31, by omega, off_of elo lop loq, Nat.le_of_ble_eq_true rfl, Nat.le_of_ble_eq_true rfl, fun v n32 H32 hv hn32 S32 fr32 => ?_⟩
            have X32 : Xt H31 H32 p q := .of (n := n20) S32 fr32
            have hT32 := X32.tab S31 hT31
            have nw : ∀ (x : Addr) (o : HO) (Hx : Hp), H26 x = none → Hx x = some o → Same Hx H31 → H32 x = some o := fun x o Hx hx ex sx =>
              X32.at (sx _ _ ex) (fun z => S26.there.1 (z ▸ hx)) (fun z => S26.there.2 (z ▸ hx))
            have g1 := nw a1 _ H27 ha1 ea1 (((s28.trans s29).trans s30).trans s31)
            have g2 := nw a2 _ H28 (s27.free ha2) ea2 ((s29.trans s30).trans s31)
            have g3 := nw a3 _ H29 ((s27.trans s28).free ha3) ea3 (s30.trans s31)
            have g4 := nw a4 _ H30 (((s27.trans s28).trans s29).free ha4) ea4 s31
            have hO : OddR H32 v := by
              simp only [List.mem_cons, List.not_mem_nil, or_false] at hv
              rcases hv with rfl | rfl | rfl | rfl | rfl | rfl | rfl | rfl | rfl | rfl | rfl | rfl | rfl
              · exact ⟨.txt (by decide) (by decide), .str _, .str _, by decide⟩
              · exact ⟨.txt (by decide) (by decide), .str _, .str _, by decide⟩
              · exact ⟨.txt (by decide) (by decide), .str _, .str _, by decide⟩
              · exact ⟨.txt (by decide) (by decide), .str _, .str _, by decide⟩
              · exact ⟨.txt (by decide) (by decide), .str _, .str _, by decide⟩
              · exact ⟨.non, .non, .non, by decide⟩
              · exact ⟨.int 1, .int 1, .int 1, by decide⟩
              · exact ⟨.bl true, .bl true, .bl true, by decide⟩
              · exact ⟨.lst g1, .lst [], .lst (.inl g1) (by decide) .nil, by decide⟩
              · exact ⟨.lst g2, .lst [.str _], .lst (.inl g2) (by decide) (.cons (.str _) .nil), Nat.le_refl _⟩
              · exact ⟨.tup g3, .tup [.str _], .tup (.inl g3) (by decide) (.cons (.str _) .nil), Nat.le_refl _⟩
              · exact ⟨.dct g4, .dct [.int 1], .dct (.inl g4) (by decide) (.cons (.int 1) .nil), Nat.le_refl _⟩
              · exact ⟨.int 0, .int 0, .int 0, by decide⟩
            clear nw g1 g2 g3 g4 hv sA
            walk_at "st"
            intro tt htt
            walk_at "st"
            have s33 : Same H32 (upd H32 tt (.tup [.str (SX.S rt), .str (SX.S bk), .non])) := same_new htt
            have ett : (upd H32 tt (.tup [.str (SX.S rt), .str (SX.S bk), .non])) tt = some (.tup [.str (SX.S rt), .str (SX.S bk), .non]) := upd_same
            have S33 := S32.same s33
            have hT33 := (Same.t s33).tab hT32
            have hO33 := hO.mono s33
            generalize upd H32 tt (.tup [.str (SX.S rt), .str (SX.S bk), .non]) = H33 at ett S33 hT33 hO33 ⊢
            refine ⟨⟨_, SqT.of ett⟩, ?_⟩
            refine for_tup (xs := [.str (SX.S rt), .str (SX.S bk), .non]) (fun i2 σ H => ∃ (y : Option V), σ = [some (.ref a), some (.ref p), some (.int (0 + (i : Int))), some (.ref pb), some (.str (SX.S rt)), some (.bl fb), some (.int (j : Int)), some (.int d3), some (.str (SX.S bk)), y9, some (.str (SX.S ba)), some (.ref td), some v, y] ∧
              Stm H p q n32 ∧ GxR.TabG H T.PW ∧ OddR H v ∧ H tt = some (.tup [.str (SX.S rt), .str (SX.S bk), .non])) (fun i2 σ H ⟨_, _, _, _, _, h⟩ => h) ⟨v12, rfl, S33, hT33, hO33, ett⟩ ?_ ?_
            · rintro σ H34 ⟨y, rfl, S34, hT34, _, _⟩
              rw [hN]
              exact .a ⟨_, _, _, _, _, _, _, _, _, _, _, _, n32, rfl, S34, by omega, hT34⟩
            · rintro R2 i2 σ H34 x ⟨y, rfl, S34, hT34, hO34, ett34⟩ hx N2 hN2
              walk_at "st"
              refine .inr (.a ⟨v, x, .bl fb, rfl, hO34.o, fun t8 H35 ht8 e35 s35 => ?_⟩)
              walk_at "st"
              intro t9 ht9
              have s36 : Same H35 (upd H35 t9 (.tup [.str (SX.S [115, 116, 121, 108, 101]), v])) := same_new ht9
              have e36 : (upd H35 t9 (.tup [.str (SX.S [115, 116, 121, 108, 101]), v])) t9 = some (.tup [.str (SX.S [115, 116, 121, 108, 101]), v]) := upd_same
              generalize upd H35 t9 (.tup [.str (SX.S [115, 116, 121, 108, 101]), v]) = H36 at s36 e36 ⊢
              have hO36 := (hO34.mono s35).mono s36
              obtain ⟨d, rd, dd⟩ := hO36.r
              refine .a ⟨.ref t8, .ref t9, .tup [.str (SX.S sStyle), d], rfl, .tup (.inl (s36 _ _ e35)) (Nat.le_succ 2) (.cons (.str _) (.cons rd .nil)), .tup (.inl e36) (Nat.le_succ 2) (.cons (.str _) (.cons rd .nil)), ?_, fun H37 s37 => ?_⟩
              · simp only [D.depth, D.depthA]; omega
              · have sB := (s35.trans s36).trans s37
                walk_at "st"
                rw [hN2]
                exact .a ⟨_, rfl, S34.same sB, (Same.t sB).tab hT34, hO36.mono s37, sB _ _ ett34⟩
          · intro hc R hR
            walk_at "st"
            intro td htd
            have e : told ba (some pb2) fb = [.str (SX.S sFormat), .str (SX.S ba)] := by rw [hc]; exact if_pos ⟨hnb2, rfl⟩
            exact hR _ _ ⟨td, rfl, by rw [e]; exact upd_same, same_new htd⟩
          · intro hc R hR
            walk_at "st"
            intro td htd
            have e : told ba (some pb2) fb = [.str (SX.S sMade), .non] := by rw [hc]; exact if_neg fun z => by cases z.2
            exact hR _ _ ⟨td, rfl, by rw [e]; exact upd_same, same_new htd⟩
        · intro R2 hR2' _
          walk_at "st"
          intro le He hle ele se
          walk_at "st"
          refine .a ⟨p, q, le, nk, txV ENDS, rfl, Sk.same se, by omega, off_of ele (fun z => Sk.there.1 (z ▸ hle)) (fun z => Sk.there.2 (z ▸ hle)), by decide, by decide, fun v nv Hv hv hnv Sv frv => ?_⟩
          obtain ⟨e, he, rfl⟩ := mem_tx hv
          have tl := ends_all e he
          have hTv := (Xt.of (n := nk) Sv frv).tab (Sk.same se) ((Same.t se).tab hTk)
          walk_at "st"
          refine hR2' _ _ ⟨rt ++ e, nv, rfl, end_Bp rWB he, ?_, by rw [List.length_append]; omega, by omega, Sv, hTv⟩
          intro c hc
          rcases List.mem_append.mp hc with hc | hc
          · exact rlo c hc
          · exact tl.2.2 c hc
        · intro _
          exact ⟨bk, nk, rfl, bkB, bklo, bkl, by omega, Sk, hTk⟩
      · intro R2 hR2' _
        walk_at "st"
        refine .a ⟨p, q, n12, (rt.length : Int) + 1, rfl, S16, by omega, by omega, by omega, fun d4 n17 H17 d40 d41 hn17 S17 fr17 => ?_⟩
        have hT17 := (Xt.of (n := n12) S17 fr17).tab S16 hT16
        obtain ⟨kk, rfl⟩ : ∃ kk : Nat, d4 = (kk : Int) := ⟨d4.toNat, by omega⟩
        walk_at "st"
        rw [cut_to]
        intro le He hle ele se
        walk_at "st"
        refine .a ⟨p, q, le, n17, txV [[123], [125]], rfl, S17.same se, by omega, off_of ele (fun z => S17.there.1 (z ▸ hle)) (fun z => S17.there.2 (z ▸ hle)), by decide, by decide, fun v nv Hv hv hnv Sv frv => ?_⟩
        obtain ⟨e, he, rfl⟩ := mem_tx hv
        have hTv := (Xt.of (n := n17) Sv frv).tab (S17.same se) ((Same.t se).tab hT17)
        have he2 : ∃ c, e = [c] ∧ (c = 123 ∨ c = 125) := by
          simp only [List.mem_cons, List.not_mem_nil, or_false] at he
          rcases he with rfl | rfl
          · exact ⟨123, rfl, .inl rfl⟩
          · exact ⟨125, rfl, .inr rfl⟩
        obtain ⟨c, rfl, hc⟩ := he2
        have lt : (rt.take kk).length ≤ rt.length := by rw [List.length_take]; omega
        have ld : (rt.drop kk).length ≤ rt.length := by rw [List.length_drop]; omega
        walk_at "st"
        rw [cut_from rfl]
        refine ⟨by rw [List.length_append, List.length_singleton]; omega, ?_⟩
        refine hR2' _ _ ⟨rt.take kk ++ [c] ++ rt.drop kk, nv, _, rfl, by rw [List.append_assoc]; exact rWB.brace hc kk, ?_, ?_, by omega, Sv, hTv⟩
        · intro x hx
          rcases List.mem_append.mp hx with hx | hx
          · rcases List.mem_append.mp hx with hx | hx
            · exact rlo x (List.mem_of_mem_take hx)
            · rw [List.mem_singleton.mp hx]; rcases hc with rfl | rfl <;> decide
          · exact rlo x (List.mem_of_mem_drop hx)
        · simp only [List.length_append, List.length_singleton]; omega
      · intro _
        exact ⟨br, n12, v8, rfl, brB, brlo, by omega, by omega, S16, hT16⟩
end
end My

namespace My
open PySem PySem.Spec PyProof.Rows L2

theorem oneF_fmt : OneF "fmt" := ⟨by intros; rfl, by intros; rfl, by decide +kernel, by decide +kernel, by intros; rfl, by intros; rfl, by intros; rfl, by intros; rfl⟩
theorem oneF_name : OneF "name" := ⟨by intros; rfl, by intros; rfl, by decide +kernel, by decide +kernel, by intros; rfl, by intros; rfl, by intros; rfl, by intros; rfl⟩
theorem oneF_style : OneF "style" := ⟨by intros; rfl, by intros; rfl, by decide +kernel, by decide +kernel, by intros; rfl, by intros; rfl, by intros; rfl, by intros; rfl⟩
theorem kit_subV {K : PySem.W.Frag} {a : Value} {c : Addr} {b : Bool} (h1 : PySem.W.subIn K a (.ref c) = some b) (h2 : PySem.W.subIn K (.ref c) (.ref c) = some true) (h3 : PySem.W.isClsIn K c = true) (h4 : PySem.W.typeIn K (.ref c) = some (.type "type")) :
    PySem.W.kitOne K a (.ref c) = some b := by
  unfold PySem.W.kitOne
  by_cases q : (a == Value.ref c) = true
  · rw [if_pos q]
    rw [beq_iff_eq.mp q] at h1
    exact h2.symm.trans h1
  · rw [if_neg q]
    have e2 : ((PySem.W.clsIn K c).isSome && PySem.W.typeIn K (.ref c) == some (.type "type")) = true := by
      have h3' : (PySem.W.clsIn K c).isSome = true := h3
      rw [h3', h4] <;> rfl
    show (if _ then _ else _) = _
    rw [if_pos e2]
    exact h1
theorem kit_typ {K : PySem.W.Frag} {a : Addr} {T : String} {b : Bool} (h1 : PySem.W.subIn K (.ref a) (.type T) = some b) (h2 : PySem.W.kitMeta T = true) : PySem.W.kitOne K (.ref a) (.type T) = some b := by
  unfold PySem.W.kitOne
  have nq : ¬ ((Value.ref a == Value.type T) = true) := fun q => by
    have z := beq_iff_eq.mp q
    cases z
  rw [if_neg nq]
  show (if _ then _ else _) = _
  rw [if_pos h2]
  exact h1
theorem codeHd_tr {K : PySem.W.Frag} {c P : Addr} {o : Obj} (l : K.lookup c = some o) (h : PySem.W.codeHdIn [(c, o)] c P = true) : PySem.W.codeHdIn K c P = true := by
  unfold PySem.W.codeHdIn at h ⊢
  rw [l]
  have e : List.lookup c [(c, o)] = some o := by simp [List.lookup]
  rw [e] at h
  exact h
set_option maxRecDepth 100000 in
theorem all_mk {P : Program} {w : World} {K : PySem.W.Frag} {h : Heap} {mg : Str → Option Value} {fa : Addr} (X : K.In h) (G : h.Ns mainGlobals mg) (hfa : mg "law" = some (.ref fa))
    {f0 : Addr} {oc0 kV0 dc0 pm0 cd0 ct0 : Value} {od0 an0 : Option Addr} {sl0 : Array (Option Value)}
    {f1 : Addr} {oc1 kV1 dc1 pm1 cd1 ct1 : Value} {od1 an1 : Option Addr} {sl1 : Array (Option Value)}
    {f2 : Addr} {oc2 kV2 dc2 pm2 cd2 ct2 : Value} {od2 an2 : Option Addr} {sl2 : Array (Option Value)}
    {f3 : Addr} {oc3 kV3 dc3 pm3 cd3 ct3 : Value} {od3 an3 : Option Addr} {sl3 : Array (Option Value)}
    {f4 : Addr} {oc4 kV4 dc4 pm4 cd4 ct4 : Value} {od4 an4 : Option Addr} {sl4 : Array (Option Value)}
    {f5 : Addr} {oc5 kV5 dc5 pm5 cd5 ct5 : Value} {od5 an5 : Option Addr} {sl5 : Array (Option Value)}
    {f6 : Addr} {oc6 kV6 dc6 pm6 cd6 ct6 : Value} {od6 an6 : Option Addr} {sl6 : Array (Option Value)}
    {f7 : Addr} {oc7 kV7 dc7 pm7 cd7 ct7 : Value} {od7 an7 : Option Addr} {sl7 : Array (Option Value)}
    {f8 cW PW : Addr} {oc8 kV8 dc8 pm8 ct8 : Value} {od8 an8 : Option Addr} {sl8 : Array (Option Value)}
    {dcW : Option Addr} {vsW : Array Value} {slW : Array (Option Value)}
    {f9 : Addr} {oc9 kV9 dc9 pm9 cd9 ct9 : Value} {od9 an9 : Option Addr} {sl9 : Array (Option Value)}
    {f10 : Addr} {oc10 kV10 dc10 pm10 cd10 ct10 : Value} {od10 an10 : Option Addr} {sl10 : Array (Option Value)}
    {f11 : Addr} {oc11 kV11 dc11 pm11 cd11 ct11 : Value} {od11 an11 : Option Addr} {sl11 : Array (Option Value)}
    {f12 : Addr} {oc12 kV12 dc12 pm12 cd12 ct12 : Value} {od12 an12 : Option Addr} {sl12 : Array (Option Value)}
    {f13 : Addr} {oc13 kV13 dc13 pm13 cd13 ct13 : Value} {od13 an13 : Option Addr} {sl13 : Array (Option Value)}
    {f14 : Addr} {oc14 kV14 dc14 pm14 cd14 ct14 : Value} {od14 an14 : Option Addr} {sl14 : Array (Option Value)}
    {f15 : Addr} {oc15 kV15 dc15 pm15 cd15 ct15 : Value} {od15 an15 : Option Addr} {sl15 : Array (Option Value)}
    {f16 : Addr} {oc16 kV16 dc16 pm16 cd16 ct16 : Value} {od16 an16 : Option Addr} {sl16 : Array (Option Value)}
    {f17 : Addr} {oc17 kV17 dc17 pm17 cd17 ct17 : Value} {od17 an17 : Option Addr} {sl17 : Array (Option Value)}
    {f18 : Addr} {oc18 kV18 dc18 pm18 cd18 ct18 : Value} {od18 an18 : Option Addr} {sl18 : Array (Option Value)}
    {f19 : Addr} {oc19 kV19 dc19 pm19 cd19 ct19 : Value} {od19 an19 : Option Addr} {sl19 : Array (Option Value)}
    {f20 : Addr} {oc20 kV20 dc20 pm20 cd20 ct20 : Value} {od20 an20 : Option Addr} {sl20 : Array (Option Value)}
    {f21 : Addr} {oc21 kV21 dc21 pm21 cd21 ct21 : Value} {od21 an21 : Option Addr} {sl21 : Array (Option Value)}
    {f22 : Addr} {oc22 kV22 dc22 pm22 cd22 ct22 : Value} {od22 an22 : Option Addr} {sl22 : Array (Option Value)}
    {f23 : Addr} {oc23 kV23 dc23 pm23 cd23 ct23 : Value} {od23 an23 : Option Addr} {sl23 : Array (Option Value)}
    {f24 : Addr} {oc24 kV24 dc24 pm24 cd24 ct24 : Value} {od24 an24 : Option Addr} {sl24 : Array (Option Value)}
    {f25 : Addr} {oc25 kV25 dc25 pm25 cd25 ct25 : Value} {od25 an25 : Option Addr} {sl25 : Array (Option Value)}
    {f26 : Addr} {oc26 kV26 dc26 pm26 cd26 ct26 : Value} {od26 an26 : Option Addr} {sl26 : Array (Option Value)}
    {f27 : Addr} {oc27 kV27 dc27 pm27 cd27 ct27 : Value} {od27 an27 : Option Addr} {sl27 : Array (Option Value)}
    {f28 : Addr} {oc28 kV28 dc28 pm28 cd28 ct28 : Value} {od28 an28 : Option Addr} {sl28 : Array (Option Value)}
    {f29 : Addr} {oc29 kV29 dc29 pm29 cd29 ct29 : Value} {od29 an29 : Option Addr} {sl29 : Array (Option Value)}
    {f30 : Addr} {oc30 kV30 dc30 pm30 cd30 ct30 : Value} {od30 an30 : Option Addr} {sl30 : Array (Option Value)}
    {f31 : Addr} {oc31 kV31 dc31 pm31 cd31 ct31 : Value} {od31 an31 : Option Addr} {sl31 : Array (Option Value)}
    {s_LETTERS : Str} {t_LETTERS : Tok}
    {s_DIGITS : Str} {t_DIGITS : Tok}
    {aAL : Addr} {odAL : Option Addr} {nAL : Nat} {slAL : Array (Option Value)} {sA0 sA1 sA2 : Str} {tA0 tA1 tA2 : Tok}
    {C0 I0 N0 : Addr} {nm0 q0 : Str} {bs0 bm0 sub0 : List Value} {sn0 : List Str} {ab0 : Bool} {col0 : Option Bool} {dd0 : Option Addr} {m00 m10 m20 m30 m50 : Option Value} {io0 id0 ip0 it0 : Value} {iod0 ia0 : Option Addr} {is0 : Array (Option Value)} {ic0_ : Value}
    {C1 I1 N1 : Addr} {nm1 q1 : Str} {bs1 bm1 sub1 : List Value} {sn1 : List Str} {ab1 : Bool} {col1 : Option Bool} {dd1 : Option Addr} {m01 m11 m21 m31 m51 : Option Value} {io1 id1 ip1 it1 : Value} {iod1 ia1 : Option Addr} {is1 : Array (Option Value)} {ic1_ : Value}
    {C2 I2 N2 : Addr} {nm2 q2 : Str} {bs2 bm2 sub2 : List Value} {sn2 : List Str} {ab2 : Bool} {col2 : Option Bool} {dd2 : Option Addr} {m02 m12 m22 m32 m52 : Option Value} {io2 id2 ip2 it2 : Value} {iod2 ia2 : Option Addr} {is2 : Array (Option Value)} {ic2_ : Value}
    {CF IF TF : Addr} {oF kvF dcF pmF cdF ctF oTF : Value} {odF anF oeF : Option Addr} {slF smF : Array (Option Value)} {nF : Nat}
    {sF0 : Str} {tF0 : Tok}
    {sF1 : Str} {tF1 : Tok}
    {sF2 : Str} {tF2 : Tok}
    {tF3 : Tok}
    {CG IG TG : Addr} {oG kvG dcG pmG cdG ctG oTG : Value} {odG anG oeG : Option Addr} {slG smG : Array (Option Value)} {nG : Nat}
    {sG1 : Str} {tG1 : Tok}
    {MG_fields : Addr} {p0Gfields p1Gfields p2Gfields p3Gfields p4Gfields p5Gfields : Value} {p6Gfields p7Gfields : Option Addr} {p8Gfields : Array (Option Value)}
    (a0 : PySem.W.nsIn K mainGlobals "_wall" = some (some (.ref f0)))
    (l0 : K.lookup f0 = some ⟨oc0, od0, .func (PySem.W.fnOf "_wall" "_wall" (defArgs s__wall) (defBody s__wall) (defScope s__wall) .none kV0 dc0 pm0 an0 cd0 ct0), sl0⟩)
    (c0 : PySem.W.codeIn K cd0 "_wall" = true)
    (k0 : PySem.W.keepIn K (.ref f0) = true)
    (a1 : PySem.W.nsIn K mainGlobals "is_word_sign" = some (some (.ref f1)))
    (l1 : K.lookup f1 = some ⟨oc1, od1, .func (PySem.W.fnOf "is_word_sign" "is_word_sign" (defArgs s_is_word_sign) (defBody s_is_word_sign) (defScope s_is_word_sign) .none kV1 dc1 pm1 an1 cd1 ct1), sl1⟩)
    (c1 : PySem.W.codeIn K cd1 "is_word_sign" = true)
    (k1 : PySem.W.keepIn K (.ref f1) = true)
    (a2 : PySem.W.nsIn K mainGlobals "leading_name" = some (some (.ref f2)))
    (l2 : K.lookup f2 = some ⟨oc2, od2, .func (PySem.W.fnOf "leading_name" "leading_name" (defArgs s_leading_name) (defBody s_leading_name) (defScope s_leading_name) .none kV2 dc2 pm2 an2 cd2 ct2), sl2⟩)
    (c2 : PySem.W.codeIn K cd2 "leading_name" = true)
    (k2 : PySem.W.keepIn K (.ref f2) = true)
    (a3 : PySem.W.nsIn K mainGlobals "own_copy" = some (some (.ref f3)))
    (l3 : K.lookup f3 = some ⟨oc3, od3, .func (PySem.W.fnOf "own_copy" "own_copy" (defArgs s_own_copy) (defBody s_own_copy) (defScope s_own_copy) .none kV3 dc3 pm3 an3 cd3 ct3), sl3⟩)
    (c3 : PySem.W.codeIn K cd3 "own_copy" = true)
    (k3 : PySem.W.keepIn K (.ref f3) = true)
    (a4 : PySem.W.nsIn K mainGlobals "is_style" = some (some (.ref f4)))
    (l4 : K.lookup f4 = some ⟨oc4, od4, .func (PySem.W.fnOf "is_style" "is_style" (defArgs s_is_style) (defBody s_is_style) (defScope s_is_style) .none kV4 dc4 pm4 an4 cd4 ct4), sl4⟩)
    (c4 : PySem.W.codeIn K cd4 "is_style" = true)
    (k4 : PySem.W.keepIn K (.ref f4) = true)
    (a5 : PySem.W.nsIn K mainGlobals "brace_pieces" = some (some (.ref f5)))
    (l5 : K.lookup f5 = some ⟨oc5, od5, .func (PySem.W.fnOf "brace_pieces" "brace_pieces" (defArgs s_brace_pieces) (defBody s_brace_pieces) (defScope s_brace_pieces) .none kV5 dc5 pm5 an5 cd5 ct5), sl5⟩)
    (c5 : PySem.W.codeIn K cd5 "brace_pieces" = true)
    (k5 : PySem.W.keepIn K (.ref f5) = true)
    (a6 : PySem.W.nsIn K mainGlobals "brace_field" = some (some (.ref f6)))
    (l6 : K.lookup f6 = some ⟨oc6, od6, .func (PySem.W.fnOf "brace_field" "brace_field" (defArgs s_brace_field) (defBody s_brace_field) (defScope s_brace_field) .none kV6 dc6 pm6 an6 cd6 ct6), sl6⟩)
    (c6 : PySem.W.codeIn K cd6 "brace_field" = true)
    (k6 : PySem.W.keepIn K (.ref f6) = true)
    (a7 : PySem.W.nsIn K mainGlobals "split_spec" = some (some (.ref f7)))
    (l7 : K.lookup f7 = some ⟨oc7, od7, .func (PySem.W.fnOf "split_spec" "split_spec" (defArgs s_split_spec) (defBody s_split_spec) (defScope s_split_spec) .none kV7 dc7 pm7 an7 cd7 ct7), sl7⟩)
    (c7 : PySem.W.codeIn K cd7 "split_spec" = true)
    (k7 : PySem.W.keepIn K (.ref f7) = true)
    (a8 : PySem.W.nsIn K mainGlobals "is_width" = some (some (.ref f8)))
    (l8 : K.lookup f8 = some ⟨oc8, od8, .func (PySem.W.fnOf "is_width" "is_width" (defArgs s_is_width) (defBody s_is_width) (defScope s_is_width) .none kV8 dc8 pm8 an8 (.ref cW) ct8), sl8⟩)
    (c8 : PySem.W.codeIn K (.ref cW) "is_width" = true)
    (k8 : PySem.W.keepIn K (.ref f8) = true)
    (lW : K.lookup cW = some ⟨.type "code", dcW, .fields vsW, slW⟩)
    (vW : (vsW[11]? : Option Value) = some (.ref PW))
    (hW : PySem.W.codeHdIn [(cW, ⟨.type "code", dcW, .fields vsW, slW⟩)] cW PW = true)
    (nW : K.lookup PW = none)
    (a9 : PySem.W.nsIn K mainGlobals "dollar_pieces" = some (some (.ref f9)))
    (l9 : K.lookup f9 = some ⟨oc9, od9, .func (PySem.W.fnOf "dollar_pieces" "dollar_pieces" (defArgs s_dollar_pieces) (defBody s_dollar_pieces) (defScope s_dollar_pieces) .none kV9 dc9 pm9 an9 cd9 ct9), sl9⟩)
    (c9 : PySem.W.codeIn K cd9 "dollar_pieces" = true)
    (k9 : PySem.W.keepIn K (.ref f9) = true)
    (a10 : PySem.W.nsIn K mainGlobals "dollar_name" = some (some (.ref f10)))
    (l10 : K.lookup f10 = some ⟨oc10, od10, .func (PySem.W.fnOf "dollar_name" "dollar_name" (defArgs s_dollar_name) (defBody s_dollar_name) (defScope s_dollar_name) .none kV10 dc10 pm10 an10 cd10 ct10), sl10⟩)
    (c10 : PySem.W.codeIn K cd10 "dollar_name" = true)
    (k10 : PySem.W.keepIn K (.ref f10) = true)
    (a11 : PySem.W.nsIn K mainGlobals "joined" = some (some (.ref f11)))
    (l11 : K.lookup f11 = some ⟨oc11, od11, .func (PySem.W.fnOf "joined" "joined" (defArgs s_joined) (defBody s_joined) (defScope s_joined) .none kV11 dc11 pm11 an11 cd11 ct11), sl11⟩)
    (c11 : PySem.W.codeIn K cd11 "joined" = true)
    (k11 : PySem.W.keepIn K (.ref f11) = true)
    (a12 : PySem.W.nsIn K mainGlobals "first_day" = some (some (.ref f12)))
    (l12 : K.lookup f12 = some ⟨oc12, od12, .func (PySem.W.fnOf "first_day" "first_day" (defArgs s_first_day) (defBody s_first_day) (defScope s_first_day) .none kV12 dc12 pm12 an12 cd12 ct12), sl12⟩)
    (c12 : PySem.W.codeIn K cd12 "first_day" = true)
    (k12 : PySem.W.keepIn K (.ref f12) = true)
    (a13 : PySem.W.nsIn K mainGlobals "month_days" = some (some (.ref f13)))
    (l13 : K.lookup f13 = some ⟨oc13, od13, .func (PySem.W.fnOf "month_days" "month_days" (defArgs s_month_days) (defBody s_month_days) (defScope s_month_days) .none kV13 dc13 pm13 an13 cd13 ct13), sl13⟩)
    (c13 : PySem.W.codeIn K cd13 "month_days" = true)
    (k13 : PySem.W.keepIn K (.ref f13) = true)
    (a14 : PySem.W.nsIn K mainGlobals "date_of" = some (some (.ref f14)))
    (l14 : K.lookup f14 = some ⟨oc14, od14, .func (PySem.W.fnOf "date_of" "date_of" (defArgs s_date_of) (defBody s_date_of) (defScope s_date_of) .none kV14 dc14 pm14 an14 cd14 ct14), sl14⟩)
    (c14 : PySem.W.codeIn K cd14 "date_of" = true)
    (k14 : PySem.W.keepIn K (.ref f14) = true)
    (a15 : PySem.W.nsIn K mainGlobals "date_text" = some (some (.ref f15)))
    (l15 : K.lookup f15 = some ⟨oc15, od15, .func (PySem.W.fnOf "date_text" "date_text" (defArgs s_date_text) (defBody s_date_text) (defScope s_date_text) .none kV15 dc15 pm15 an15 cd15 ct15), sl15⟩)
    (c15 : PySem.W.codeIn K cd15 "date_text" = true)
    (k15 : PySem.W.keepIn K (.ref f15) = true)
    (a16 : PySem.W.nsIn K mainGlobals "hours_text" = some (some (.ref f16)))
    (l16 : K.lookup f16 = some ⟨oc16, od16, .func (PySem.W.fnOf "hours_text" "hours_text" (defArgs s_hours_text) (defBody s_hours_text) (defScope s_hours_text) .none kV16 dc16 pm16 an16 cd16 ct16), sl16⟩)
    (c16 : PySem.W.codeIn K cd16 "hours_text" = true)
    (k16 : PySem.W.keepIn K (.ref f16) = true)
    (a17 : PySem.W.nsIn K mainGlobals "time_text" = some (some (.ref f17)))
    (l17 : K.lookup f17 = some ⟨oc17, od17, .func (PySem.W.fnOf "time_text" "time_text" (defArgs s_time_text) (defBody s_time_text) (defScope s_time_text) .none kV17 dc17 pm17 an17 cd17 ct17), sl17⟩)
    (c17 : PySem.W.codeIn K cd17 "time_text" = true)
    (k17 : PySem.W.keepIn K (.ref f17) = true)
    (a18 : PySem.W.nsIn K mainGlobals "pieces_of" = some (some (.ref f18)))
    (l18 : K.lookup f18 = some ⟨oc18, od18, .func (PySem.W.fnOf "pieces_of" "pieces_of" (defArgs s_pieces_of) (defBody s_pieces_of) (defScope s_pieces_of) .none kV18 dc18 pm18 an18 cd18 ct18), sl18⟩)
    (c18 : PySem.W.codeIn K cd18 "pieces_of" = true)
    (k18 : PySem.W.keepIn K (.ref f18) = true)
    (a19 : PySem.W.nsIn K mainGlobals "_law_draw" = some (some (.ref f19)))
    (l19 : K.lookup f19 = some ⟨oc19, od19, .func (PySem.W.fnOf "_law_draw" "_law_draw" (defArgs s__law_draw) (defBody s__law_draw) (defScope s__law_draw) .none kV19 dc19 pm19 an19 cd19 ct19), sl19⟩)
    (c19 : PySem.W.codeIn K cd19 "_law_draw" = true)
    (k19 : PySem.W.keepIn K (.ref f19) = true)
    (a20 : PySem.W.nsIn K mainGlobals "_law_pick" = some (some (.ref f20)))
    (l20 : K.lookup f20 = some ⟨oc20, od20, .func (PySem.W.fnOf "_law_pick" "_law_pick" (defArgs s__law_pick) (defBody s__law_pick) (defScope s__law_pick) .none kV20 dc20 pm20 an20 cd20 ct20), sl20⟩)
    (c20 : PySem.W.codeIn K cd20 "_law_pick" = true)
    (k20 : PySem.W.keepIn K (.ref f20) = true)
    (a21 : PySem.W.nsIn K mainGlobals "_law_text" = some (some (.ref f21)))
    (l21 : K.lookup f21 = some ⟨oc21, od21, .func (PySem.W.fnOf "_law_text" "_law_text" (defArgs s__law_text) (defBody s__law_text) (defScope s__law_text) .none kV21 dc21 pm21 an21 cd21 ct21), sl21⟩)
    (c21 : PySem.W.codeIn K cd21 "_law_text" = true)
    (k21 : PySem.W.keepIn K (.ref f21) = true)
    (a22 : PySem.W.nsIn K mainGlobals "_law_same" = some (some (.ref f22)))
    (l22 : K.lookup f22 = some ⟨oc22, od22, .func (PySem.W.fnOf "_law_same" "_law_same" (defArgs s__law_same) (defBody s__law_same) (defScope s__law_same) .none kV22 dc22 pm22 an22 cd22 ct22), sl22⟩)
    (c22 : PySem.W.codeIn K cd22 "_law_same" = true)
    (k22 : PySem.W.keepIn K (.ref f22) = true)
    (a23 : PySem.W.nsIn K mainGlobals "_law_field" = some (some (.ref f23)))
    (l23 : K.lookup f23 = some ⟨oc23, od23, .func (PySem.W.fnOf "_law_field" "_law_field" (defArgs s__law_field) (defBody s__law_field) (defScope s__law_field) .none kV23 dc23 pm23 an23 cd23 ct23), sl23⟩)
    (c23 : PySem.W.codeIn K cd23 "_law_field" = true)
    (k23 : PySem.W.keepIn K (.ref f23) = true)
    (a24 : PySem.W.nsIn K mainGlobals "_law_braced" = some (some (.ref f24)))
    (l24 : K.lookup f24 = some ⟨oc24, od24, .func (PySem.W.fnOf "_law_braced" "_law_braced" (defArgs s__law_braced) (defBody s__law_braced) (defScope s__law_braced) .none kV24 dc24 pm24 an24 cd24 ct24), sl24⟩)
    (c24 : PySem.W.codeIn K cd24 "_law_braced" = true)
    (k24 : PySem.W.keepIn K (.ref f24) = true)
    (a25 : PySem.W.nsIn K mainGlobals "_law_braced_text" = some (some (.ref f25)))
    (l25 : K.lookup f25 = some ⟨oc25, od25, .func (PySem.W.fnOf "_law_braced_text" "_law_braced_text" (defArgs s__law_braced_text) (defBody s__law_braced_text) (defScope s__law_braced_text) .none kV25 dc25 pm25 an25 cd25 ct25), sl25⟩)
    (c25 : PySem.W.codeIn K cd25 "_law_braced_text" = true)
    (k25 : PySem.W.keepIn K (.ref f25) = true)
    (a26 : PySem.W.nsIn K mainGlobals "_law_format_parts" = some (some (.ref f26)))
    (l26 : K.lookup f26 = some ⟨oc26, od26, .func (PySem.W.fnOf "_law_format_parts" "_law_format_parts" (defArgs s__law_format_parts) (defBody s__law_format_parts) (defScope s__law_format_parts) .none kV26 dc26 pm26 an26 cd26 ct26), sl26⟩)
    (c26 : PySem.W.codeIn K cd26 "_law_format_parts" = true)
    (k26 : PySem.W.keepIn K (.ref f26) = true)
    (a27 : PySem.W.nsIn K mainGlobals "_law_wrong_part" = some (some (.ref f27)))
    (l27 : K.lookup f27 = some ⟨oc27, od27, .func (PySem.W.fnOf "_law_wrong_part" "_law_wrong_part" (defArgs s__law_wrong_part) (defBody s__law_wrong_part) (defScope s__law_wrong_part) .none kV27 dc27 pm27 an27 cd27 ct27), sl27⟩)
    (c27 : PySem.W.codeIn K cd27 "_law_wrong_part" = true)
    (k27 : PySem.W.keepIn K (.ref f27) = true)
    (a28 : PySem.W.nsIn K mainGlobals "_law_formatter_told" = some (some (.ref f28)))
    (l28 : K.lookup f28 = some ⟨oc28, od28, .func (PySem.W.fnOf "_law_formatter_told" "_law_formatter_told" (defArgs s__law_formatter_told) (defBody s__law_formatter_told) (defScope s__law_formatter_told) .none kV28 dc28 pm28 an28 cd28 ct28), sl28⟩)
    (c28 : PySem.W.codeIn K cd28 "_law_formatter_told" = true)
    (k28 : PySem.W.keepIn K (.ref f28) = true)
    (a29 : PySem.W.nsIn K mainGlobals "_law_braced_parts" = some (some (.ref f29)))
    (l29 : K.lookup f29 = some ⟨oc29, od29, .func (PySem.W.fnOf "_law_braced_parts" "_law_braced_parts" (defArgs s__law_braced_parts) (defBody s__law_braced_parts) (defScope s__law_braced_parts) .none kV29 dc29 pm29 an29 cd29 ct29), sl29⟩)
    (c29 : PySem.W.codeIn K cd29 "_law_braced_parts" = true)
    (k29 : PySem.W.keepIn K (.ref f29) = true)
    (a30 : PySem.W.nsIn K mainGlobals "_law_made_alone" = some (some (.ref f30)))
    (l30 : K.lookup f30 = some ⟨oc30, od30, .func (PySem.W.fnOf "_law_made_alone" "_law_made_alone" (defArgs s__law_made_alone) (defBody s__law_made_alone) (defScope s__law_made_alone) .none kV30 dc30 pm30 an30 cd30 ct30), sl30⟩)
    (c30 : PySem.W.codeIn K cd30 "_law_made_alone" = true)
    (k30 : PySem.W.keepIn K (.ref f30) = true)
    (a31 : PySem.W.nsIn K mainGlobals "law" = some (some (.ref f31)))
    (l31 : K.lookup f31 = some ⟨oc31, od31, .func (PySem.W.fnOf "law" "law" (defArgs s_law) (defBody s_law) (defScope s_law) .none kV31 dc31 pm31 an31 cd31 ct31), sl31⟩)
    (c31 : PySem.W.codeIn K cd31 "law" = true)
    (k31 : PySem.W.keepIn K (.ref f31) = true)
    (z_all : PySem.W.nsIn K mainGlobals "all" = some none)
    (z_bool : PySem.W.nsIn K mainGlobals "bool" = some none)
    (z_dict : PySem.W.nsIn K mainGlobals "dict" = some none)
    (z_int : PySem.W.nsIn K mainGlobals "int" = some none)
    (z_isinstance : PySem.W.nsIn K mainGlobals "isinstance" = some none)
    (z_len : PySem.W.nsIn K mainGlobals "len" = some none)
    (z_list : PySem.W.nsIn K mainGlobals "list" = some none)
    (z_range : PySem.W.nsIn K mainGlobals "range" = some none)
    (z_sorted : PySem.W.nsIn K mainGlobals "sorted" = some none)
    (z_str : PySem.W.nsIn K mainGlobals "str" = some none)
    (z_tuple : PySem.W.nsIn K mainGlobals "tuple" = some none)
    (z_zip : PySem.W.nsIn K mainGlobals "zip" = some none)
    (hn : PySem.W.specialIn K (.builtin "object.__class__") "__get__" = some (some (.builtin "getset_descriptor.__get__")))
    (htk : PySem.W.takesIn K (.builtin "object.__class__") = some true)
    (k_LETTERS : PySem.W.nsIn K mainGlobals "LETTERS" = some (some (.str s_LETTERS t_LETTERS)))
    (e_LETTERS : s_LETTERS = SX.S LET)
    (k_DIGITS : PySem.W.nsIn K mainGlobals "DIGITS" = some (some (.str s_DIGITS t_DIGITS)))
    (e_DIGITS : s_DIGITS = SX.S DIG)
    (k_ALIGNS : PySem.W.nsIn K mainGlobals "ALIGNS" = some (some (.ref aAL)))
    (l_ALIGNS : K.lookup aAL = some ⟨.type "tuple", odAL, .seq #[.str sA0 tA0, .str sA1 tA1, .str sA2 tA2] nAL, slAL⟩)
    (eA0 : sA0 = SX.S [60])
    (eA1 : sA1 = SX.S [62])
    (eA2 : sA2 = SX.S [94])
    (aC0 : PySem.W.nsIn K mainGlobals "BadField" = some (some (.ref C0)))
    (x0 : K.lookup C0 = some (PySem.excClassObj nm0 q0 C0 N0 bs0 bm0 true sn0 sub0 ab0 col0 dd0 m00 m10 m20 m30 m50 "ValueError.__new__"))
    (r0 : PySem.HandSPX.refsVE bm0 = true)
    (sa0 : PySem.W.findIn K (.ref C0) "__setattr__" = some (some (.builtin "object.__setattr__")))
    (nf0 : PySem.W.findIn K (.ref C0) "name" = some none)
    (ga0 : PySem.W.findIn K (.ref C0) "__getattribute__" = some (some (.builtin "BaseException.__getattribute__")))
    (gg0 : PySem.W.findIn K (.ref C0) "__getattr__" = some none)
    (iC0 : PySem.W.findIn K (.ref C0) "__init__" = some (some (.ref I0)))
    (tI0 : PySem.W.typeIn K (.ref I0) = some (.type "function"))
    (kC0 : PySem.W.keepIn K (.ref C0) = true)
    (eC0 : PySem.W.subIn K (.ref C0) (.type "BaseException") = some true)
    (tC0 : PySem.W.typeIn K (.ref C0) = some (.type "type"))
    (hC0 : PySem.W.hasDictIn K C0 = true)
    (li0 : K.lookup I0 = some ⟨io0, iod0, .func (PySem.W.fnOf "__init__" "BadField.__init__" (eA "name" ⟨9, 17, 9, 21⟩ ⟨9, 23, 9, 27⟩) (eB "name" ⟨10, 8, 10, 12⟩ ⟨10, 8, 10, 17⟩ ⟨10, 20, 10, 24⟩ ⟨10, 8, 10, 24⟩) (eS "name") .none .none id0 ip0 ia0 ic0_ it0), is0⟩)
    (ci0 : PySem.W.codeIn K ic0_ "BadField.__init__" = true)
    (aC1 : PySem.W.nsIn K mainGlobals "BadFormat" = some (some (.ref C1)))
    (x1 : K.lookup C1 = some (PySem.excClassObj nm1 q1 C1 N1 bs1 bm1 true sn1 sub1 ab1 col1 dd1 m01 m11 m21 m31 m51 "ValueError.__new__"))
    (r1 : PySem.HandSPX.refsVE bm1 = true)
    (sa1 : PySem.W.findIn K (.ref C1) "__setattr__" = some (some (.builtin "object.__setattr__")))
    (nf1 : PySem.W.findIn K (.ref C1) "fmt" = some none)
    (ga1 : PySem.W.findIn K (.ref C1) "__getattribute__" = some (some (.builtin "BaseException.__getattribute__")))
    (gg1 : PySem.W.findIn K (.ref C1) "__getattr__" = some none)
    (iC1 : PySem.W.findIn K (.ref C1) "__init__" = some (some (.ref I1)))
    (tI1 : PySem.W.typeIn K (.ref I1) = some (.type "function"))
    (kC1 : PySem.W.keepIn K (.ref C1) = true)
    (eC1 : PySem.W.subIn K (.ref C1) (.type "BaseException") = some true)
    (tC1 : PySem.W.typeIn K (.ref C1) = some (.type "type"))
    (hC1 : PySem.W.hasDictIn K C1 = true)
    (li1 : K.lookup I1 = some ⟨io1, iod1, .func (PySem.W.fnOf "__init__" "BadFormat.__init__" (eA "fmt" ⟨13, 17, 13, 21⟩ ⟨13, 23, 13, 26⟩) (eB "fmt" ⟨14, 8, 14, 12⟩ ⟨14, 8, 14, 16⟩ ⟨14, 19, 14, 22⟩ ⟨14, 8, 14, 22⟩) (eS "fmt") .none .none id1 ip1 ia1 ic1_ it1), is1⟩)
    (ci1 : PySem.W.codeIn K ic1_ "BadFormat.__init__" = true)
    (aC2 : PySem.W.nsIn K mainGlobals "BadStyle" = some (some (.ref C2)))
    (x2 : K.lookup C2 = some (PySem.excClassObj nm2 q2 C2 N2 bs2 bm2 true sn2 sub2 ab2 col2 dd2 m02 m12 m22 m32 m52 "ValueError.__new__"))
    (r2 : PySem.HandSPX.refsVE bm2 = true)
    (sa2 : PySem.W.findIn K (.ref C2) "__setattr__" = some (some (.builtin "object.__setattr__")))
    (nf2 : PySem.W.findIn K (.ref C2) "style" = some none)
    (ga2 : PySem.W.findIn K (.ref C2) "__getattribute__" = some (some (.builtin "BaseException.__getattribute__")))
    (gg2 : PySem.W.findIn K (.ref C2) "__getattr__" = some none)
    (iC2 : PySem.W.findIn K (.ref C2) "__init__" = some (some (.ref I2)))
    (tI2 : PySem.W.typeIn K (.ref I2) = some (.type "function"))
    (kC2 : PySem.W.keepIn K (.ref C2) = true)
    (eC2 : PySem.W.subIn K (.ref C2) (.type "BaseException") = some true)
    (tC2 : PySem.W.typeIn K (.ref C2) = some (.type "type"))
    (hC2 : PySem.W.hasDictIn K C2 = true)
    (li2 : K.lookup I2 = some ⟨io2, iod2, .func (PySem.W.fnOf "__init__" "BadStyle.__init__" (eA "style" ⟨17, 17, 17, 21⟩ ⟨17, 23, 17, 28⟩) (eB "style" ⟨18, 8, 18, 12⟩ ⟨18, 8, 18, 18⟩ ⟨18, 21, 18, 26⟩ ⟨18, 8, 18, 26⟩) (eS "style") .none .none id2 ip2 ia2 ic2_ it2), is2⟩)
    (ci2 : PySem.W.codeIn K ic2_ "BadStyle.__init__" = true)
    (sBB : PySem.W.subIn K (.ref C1) (.ref C1) = some true)
    (sSS : PySem.W.subIn K (.ref C2) (.ref C2) = some true)
    (sSF : PySem.W.subIn K (.ref C2) (.ref C1) = some false)
    (aF : PySem.W.nsIn K mainGlobals "Field" = some (some (.ref CF)))
    (iF : PySem.W.findIn K (.ref CF) "__init__" = some (some (.ref IF)))
    (lF : K.lookup IF = some ⟨oF, odF, .func (PySem.W.fnOf "__init__" "Field.__init__" (defArgs s_Field___init__) (defBody s_Field___init__) (defScope s_Field___init__) (.ref TF) kvF dcF pmF anF cdF ctF), slF⟩)
    (cF : PySem.W.codeIn K cdF "Field.__init__" = true)
    (kIF : PySem.W.keepIn K (.ref IF) = true)
    (dF : K.lookup TF = some ⟨oTF, oeF, .seq #[.str sF0 tF0, .str sF1 tF1, .str sF2 tF2, .int 0 tF3] nF, smF⟩)
    (eF0 : sF0 = SX.S [])
    (eF1 : sF1 = SX.S [32])
    (eF2 : sF2 = SX.S [])
    (mkF : PySem.W.makesIn K CF = true)
    (fIF : PySem.W.isFn K (.ref IF) = true)
    (kCF : PySem.W.keepIn K (.ref CF) = true)
    (pgF : PySem.W.plainGet K CF Str.empty = true)
    (hdF : PySem.W.hasDictIn K CF = true)
    (poF : PySem.W.plainOver K CF = true)
    (saF : PySem.W.findIn K (.ref CF) "__setattr__" = some (some (.builtin "object.__setattr__")))
    (naF_name : PySem.W.findIn K (.ref CF) "name" = some none)
    (naF_way : PySem.W.findIn K (.ref CF) "way" = some none)
    (naF_fill : PySem.W.findIn K (.ref CF) "fill" = some none)
    (naF_align : PySem.W.findIn K (.ref CF) "align" = some none)
    (naF_width : PySem.W.findIn K (.ref CF) "width" = some none)
    (clF : PySem.W.findIn K (.ref CF) "__class__" = some (some (.builtin "object.__class__")))
    (moF : PySem.W.mroIn K CF (.type "object") = some true)
    (ssF : PySem.W.subIn K (.ref CF) (.ref CF) = some true)
    (icF : PySem.W.isClsIn K CF = true)
    (tyF : PySem.W.typeIn K (.ref CF) = some (.type "type"))
    (sfF : PySem.W.subIn K (.ref CF) (.type "str") = some false)
    (stF : PySem.W.subIn K (.type "str") (.ref CF) = some false)
    (aG : PySem.W.nsIn K mainGlobals "Formatter" = some (some (.ref CG)))
    (iG : PySem.W.findIn K (.ref CG) "__init__" = some (some (.ref IG)))
    (lG : K.lookup IG = some ⟨oG, odG, .func (PySem.W.fnOf "__init__" "Formatter.__init__" (defArgs s_Formatter___init__) (defBody s_Formatter___init__) (defScope s_Formatter___init__) (.ref TG) kvG dcG pmG anG cdG ctG), slG⟩)
    (cG : PySem.W.codeIn K cdG "Formatter.__init__" = true)
    (kIG : PySem.W.keepIn K (.ref IG) = true)
    (dG : K.lookup TG = some ⟨oTG, oeG, .seq #[.none, .str sG1 tG1, .bool true, .none] nG, smG⟩)
    (eG1 : sG1 = SX.S [123])
    (mkG : PySem.W.makesIn K CG = true)
    (fIG : PySem.W.isFn K (.ref IG) = true)
    (kCG : PySem.W.keepIn K (.ref CG) = true)
    (pgG : PySem.W.plainGet K CG Str.empty = true)
    (hdG : PySem.W.hasDictIn K CG = true)
    (poG : PySem.W.plainOver K CG = true)
    (saG : PySem.W.findIn K (.ref CG) "__setattr__" = some (some (.builtin "object.__setattr__")))
    (naG_pieces : PySem.W.findIn K (.ref CG) "pieces" = some none)
    (naG_defaults : PySem.W.findIn K (.ref CG) "defaults" = some none)
    (mG_fields : PySem.W.findIn K (.ref CG) "fields" = some (some (.ref MG_fields)))
    (mlG_fields : K.lookup MG_fields = some ⟨p0Gfields, p6Gfields, .func (PySem.W.fnOf "fields" "Formatter.fields" (defArgs s_Formatter_fields) (defBody s_Formatter_fields) (defScope s_Formatter_fields) .none p1Gfields p2Gfields p3Gfields p7Gfields p4Gfields p5Gfields), p8Gfields⟩)
    (mcG_fields : PySem.W.codeIn K p4Gfields "Formatter.fields" = true)
    (mkG_fields : PySem.W.keepIn K (.ref MG_fields) = true)
    (mfG_fields : PySem.W.isFn K (.ref MG_fields) = true)
    (own : ∀ f0, mg "is_width" = some (.ref f0) → LamX.OwnTab K f0 h)
    : ∃ (fd : FuncData), (∀ (s : Shared) (v : Value), BindsTo s fd ⟨[v], []⟩ [("_law_script", v)]) ∧ h.get? PW = some { cls := .none, data := .fields #[] } ∧ K.lookup PW = none ∧ PySem.W.CodeHd h cW PW ∧ ∀ base : Heap, K.In base → base.Ns mainGlobals mg → LamX.TabB base mg cW PW → FnOk P w K mg base CX0 10 fa fd ["_law_script"] (spLaw K PW) := by
  have e := hfa.symm.trans (PySem.W.mg_of X G a31)
  have e2 : f31 = fa := (Value.ref.inj (Option.some.inj e)).symm
  subst e2
  have F0 := fun_mk (st := s__wall) l0 c0 k0
  have D0 : Dfn K mg "_wall" "_wall" s__wall ["k"] f0 _ := ⟨F0, PySem.W.mg_of X G a0, F0.binds (ps := ["k"]) fun _ _ _ _ _ _ us hl => match us, hl with | [_], _ => rfl⟩
  have F1 := fun_mk (st := s_is_word_sign) l1 c1 k1
  have D1 : Dfn K mg "is_word_sign" "is_word_sign" s_is_word_sign ["sign"] f1 _ := ⟨F1, PySem.W.mg_of X G a1, F1.binds (ps := ["sign"]) fun _ _ _ _ _ _ us hl => match us, hl with | [_], _ => rfl⟩
  have F2 := fun_mk (st := s_leading_name) l2 c2 k2
  have D2 : Dfn K mg "leading_name" "leading_name" s_leading_name ["text"] f2 _ := ⟨F2, PySem.W.mg_of X G a2, F2.binds (ps := ["text"]) fun _ _ _ _ _ _ us hl => match us, hl with | [_], _ => rfl⟩
  have F3 := fun_mk (st := s_own_copy) l3 c3 k3
  have D3 : Dfn K mg "own_copy" "own_copy" s_own_copy ["thing"] f3 _ := ⟨F3, PySem.W.mg_of X G a3, F3.binds (ps := ["thing"]) fun _ _ _ _ _ _ us hl => match us, hl with | [_], _ => rfl⟩
  have F4 := fun_mk (st := s_is_style) l4 c4 k4
  have D4 : Dfn K mg "is_style" "is_style" s_is_style ["thing"] f4 _ := ⟨F4, PySem.W.mg_of X G a4, F4.binds (ps := ["thing"]) fun _ _ _ _ _ _ us hl => match us, hl with | [_], _ => rfl⟩
  have F5 := fun_mk (st := s_brace_pieces) l5 c5 k5
  have D5 : Dfn K mg "brace_pieces" "brace_pieces" s_brace_pieces ["fmt"] f5 _ := ⟨F5, PySem.W.mg_of X G a5, F5.binds (ps := ["fmt"]) fun _ _ _ _ _ _ us hl => match us, hl with | [_], _ => rfl⟩
  have F6 := fun_mk (st := s_brace_field) l6 c6 k6
  have D6 : Dfn K mg "brace_field" "brace_field" s_brace_field ["inner"] f6 _ := ⟨F6, PySem.W.mg_of X G a6, F6.binds (ps := ["inner"]) fun _ _ _ _ _ _ us hl => match us, hl with | [_], _ => rfl⟩
  have F7 := fun_mk (st := s_split_spec) l7 c7 k7
  have D7 : Dfn K mg "split_spec" "split_spec" s_split_spec ["spec"] f7 _ := ⟨F7, PySem.W.mg_of X G a7, F7.binds (ps := ["spec"]) fun _ _ _ _ _ _ us hl => match us, hl with | [_], _ => rfl⟩
  have F8 := fun_mk (st := s_is_width) l8 c8 k8
  have D8 : Dfn K mg "is_width" "is_width" s_is_width ["digits"] f8 _ := ⟨F8, PySem.W.mg_of X G a8, F8.binds (ps := ["digits"]) fun _ _ _ _ _ _ us hl => match us, hl with | [_], _ => rfl⟩
  have F9 := fun_mk (st := s_dollar_pieces) l9 c9 k9
  have D9 : Dfn K mg "dollar_pieces" "dollar_pieces" s_dollar_pieces ["fmt"] f9 _ := ⟨F9, PySem.W.mg_of X G a9, F9.binds (ps := ["fmt"]) fun _ _ _ _ _ _ us hl => match us, hl with | [_], _ => rfl⟩
  have F10 := fun_mk (st := s_dollar_name) l10 c10 k10
  have D10 : Dfn K mg "dollar_name" "dollar_name" s_dollar_name ["fmt", "start"] f10 _ := ⟨F10, PySem.W.mg_of X G a10, F10.binds (ps := ["fmt", "start"]) fun _ _ _ _ _ _ us hl => match us, hl with | [_, _], _ => rfl⟩
  have F11 := fun_mk (st := s_joined) l11 c11 k11
  have D11 : Dfn K mg "joined" "joined" s_joined ["pieces"] f11 _ := ⟨F11, PySem.W.mg_of X G a11, F11.binds (ps := ["pieces"]) fun _ _ _ _ _ _ us hl => match us, hl with | [_], _ => rfl⟩
  have F12 := fun_mk (st := s_first_day) l12 c12 k12
  have D12 : Dfn K mg "first_day" "first_day" s_first_day ["year"] f12 _ := ⟨F12, PySem.W.mg_of X G a12, F12.binds (ps := ["year"]) fun _ _ _ _ _ _ us hl => match us, hl with | [_], _ => rfl⟩
  have F13 := fun_mk (st := s_month_days) l13 c13 k13
  have D13 : Dfn K mg "month_days" "month_days" s_month_days ["year", "month"] f13 _ := ⟨F13, PySem.W.mg_of X G a13, F13.binds (ps := ["year", "month"]) fun _ _ _ _ _ _ us hl => match us, hl with | [_, _], _ => rfl⟩
  have F14 := fun_mk (st := s_date_of) l14 c14 k14
  have D14 : Dfn K mg "date_of" "date_of" s_date_of ["day"] f14 _ := ⟨F14, PySem.W.mg_of X G a14, F14.binds (ps := ["day"]) fun _ _ _ _ _ _ us hl => match us, hl with | [_], _ => rfl⟩
  have F15 := fun_mk (st := s_date_text) l15 c15 k15
  have D15 : Dfn K mg "date_text" "date_text" s_date_text ["seconds"] f15 _ := ⟨F15, PySem.W.mg_of X G a15, F15.binds (ps := ["seconds"]) fun _ _ _ _ _ _ us hl => match us, hl with | [_], _ => rfl⟩
  have F16 := fun_mk (st := s_hours_text) l16 c16 k16
  have D16 : Dfn K mg "hours_text" "hours_text" s_hours_text ["seconds", "sign"] f16 _ := ⟨F16, PySem.W.mg_of X G a16, F16.binds (ps := ["seconds", "sign"]) fun _ _ _ _ _ _ us hl => match us, hl with | [_, _], _ => rfl⟩
  have F17 := fun_mk (st := s_time_text) l17 c17 k17
  have D17 : Dfn K mg "time_text" "time_text" s_time_text ["milliseconds"] f17 _ := ⟨F17, PySem.W.mg_of X G a17, F17.binds (ps := ["milliseconds"]) fun _ _ _ _ _ _ us hl => match us, hl with | [_], _ => rfl⟩
  have F18 := fun_mk (st := s_pieces_of) l18 c18 k18
  have D18 : Dfn K mg "pieces_of" "pieces_of" s_pieces_of ["fmt", "style"] f18 _ := ⟨F18, PySem.W.mg_of X G a18, F18.binds (ps := ["fmt", "style"]) fun _ _ _ _ _ _ us hl => match us, hl with | [_, _], _ => rfl⟩
  have F19 := fun_mk (st := s__law_draw) l19 c19 k19
  have D19 : Dfn K mg "_law_draw" "_law_draw" s__law_draw ["_law_stream", "_law_many"] f19 _ := ⟨F19, PySem.W.mg_of X G a19, F19.binds (ps := ["_law_stream", "_law_many"]) fun _ _ _ _ _ _ us hl => match us, hl with | [_, _], _ => rfl⟩
  have F20 := fun_mk (st := s__law_pick) l20 c20 k20
  have D20 : Dfn K mg "_law_pick" "_law_pick" s__law_pick ["_law_stream", "_law_some"] f20 _ := ⟨F20, PySem.W.mg_of X G a20, F20.binds (ps := ["_law_stream", "_law_some"]) fun _ _ _ _ _ _ us hl => match us, hl with | [_, _], _ => rfl⟩
  have F21 := fun_mk (st := s__law_text) l21 c21 k21
  have D21 : Dfn K mg "_law_text" "_law_text" s__law_text ["_law_stream", "_law_signs", "_law_most"] f21 _ := ⟨F21, PySem.W.mg_of X G a21, F21.binds (ps := ["_law_stream", "_law_signs", "_law_most"]) fun _ _ _ _ _ _ us hl => match us, hl with | [_, _, _], _ => rfl⟩
  have F22 := fun_mk (st := s__law_same) l22 c22 k22
  have D22 : Dfn K mg "_law_same" "_law_same" s__law_same ["_law_found", "_law_due"] f22 _ := ⟨F22, PySem.W.mg_of X G a22, F22.binds (ps := ["_law_found", "_law_due"]) fun _ _ _ _ _ _ us hl => match us, hl with | [_, _], _ => rfl⟩
  have F23 := fun_mk (st := s__law_field) l23 c23 k23
  have D23 : Dfn K mg "_law_field" "_law_field" s__law_field ["_law_stream", "_law_keys"] f23 _ := ⟨F23, PySem.W.mg_of X G a23, F23.binds (ps := ["_law_stream", "_law_keys"]) fun _ _ _ _ _ _ us hl => match us, hl with | [_, _], _ => rfl⟩
  have F24 := fun_mk (st := s__law_braced) l24 c24 k24
  have D24 : Dfn K mg "_law_braced" "_law_braced" s__law_braced ["_law_field_here"] f24 _ := ⟨F24, PySem.W.mg_of X G a24, F24.binds (ps := ["_law_field_here"]) fun _ _ _ _ _ _ us hl => match us, hl with | [_], _ => rfl⟩
  have F25 := fun_mk (st := s__law_braced_text) l25 c25 k25
  have D25 : Dfn K mg "_law_braced_text" "_law_braced_text" s__law_braced_text ["_law_shown"] f25 _ := ⟨F25, PySem.W.mg_of X G a25, F25.binds (ps := ["_law_shown"]) fun _ _ _ _ _ _ us hl => match us, hl with | [_], _ => rfl⟩
  have F26 := fun_mk (st := s__law_format_parts) l26 c26 k26
  have D26 : Dfn K mg "_law_format_parts" "_law_format_parts" s__law_format_parts ["_law_stream", "_law_most", "_law_keys"] f26 _ := ⟨F26, PySem.W.mg_of X G a26, F26.binds (ps := ["_law_stream", "_law_most", "_law_keys"]) fun _ _ _ _ _ _ us hl => match us, hl with | [_, _, _], _ => rfl⟩
  have F27 := fun_mk (st := s__law_wrong_part) l27 c27 k27
  have D27 : Dfn K mg "_law_wrong_part" "_law_wrong_part" s__law_wrong_part ["_law_stream"] f27 _ := ⟨F27, PySem.W.mg_of X G a27, F27.binds (ps := ["_law_stream"]) fun _ _ _ _ _ _ us hl => match us, hl with | [_], _ => rfl⟩
  have F28 := fun_mk (st := s__law_formatter_told) l28 c28 k28
  have D28 : Dfn K mg "_law_formatter_told" "_law_formatter_told" s__law_formatter_told ["_law_form", "_law_sign", "_law_firm"] f28 _ := ⟨F28, PySem.W.mg_of X G a28, F28.binds (ps := ["_law_form", "_law_sign", "_law_firm"]) fun _ _ _ _ _ _ us hl => match us, hl with | [_, _, _], _ => rfl⟩
  have F29 := fun_mk (st := s__law_braced_parts) l29 c29 k29
  have D29 : Dfn K mg "_law_braced_parts" "_law_braced_parts" s__law_braced_parts ["_law_parts"] f29 _ := ⟨F29, PySem.W.mg_of X G a29, F29.binds (ps := ["_law_parts"]) fun _ _ _ _ _ _ us hl => match us, hl with | [_], _ => rfl⟩
  have F30 := fun_mk (st := s__law_made_alone) l30 c30 k30
  have D30 : Dfn K mg "_law_made_alone" "_law_made_alone" s__law_made_alone ["_law_form", "_law_sign"] f30 _ := ⟨F30, PySem.W.mg_of X G a30, F30.binds (ps := ["_law_form", "_law_sign"]) fun _ _ _ _ _ _ us hl => match us, hl with | [_, _], _ => rfl⟩
  have F31 := fun_mk (st := s_law) l31 c31 k31
  have D31 : Dfn K mg "law" "law" s_law ["_law_script"] f31 _ := ⟨F31, PySem.W.mg_of X G a31, F31.binds (ps := ["_law_script"]) fun _ _ _ _ _ _ us hl => match us, hl with | [_], _ => rfl⟩
  have tW := own f8 (PySem.W.mg_of X G a8) cW PW _ _ _ _ _ _ l8 rfl rfl lW vW
  subst eA0
  subst eA1
  subst eA2
  have B : Blt mg := ⟨PySem.W.mg_none_of X G z_all, PySem.W.mg_none_of X G z_bool, PySem.W.mg_none_of X G z_dict, PySem.W.mg_none_of X G z_int, PySem.W.mg_none_of X G z_isinstance, PySem.W.mg_none_of X G z_len, PySem.W.mg_none_of X G z_list, PySem.W.mg_none_of X G z_range, PySem.W.mg_none_of X G z_sorted, PySem.W.mg_none_of X G z_str, PySem.W.mg_none_of X G z_tuple, PySem.W.mg_none_of X G z_zip⟩
  have E0 : ErrTxt K mg "BadField" "name" C0 I0 := ⟨oneF_name, PySem.W.mg_of X G aC0, ⟨_, _, _, _, _, _, _, _, _, _, _, _, _, _, _, x0, r0⟩, sa0, ga0, gg0, nf0, iC0, tI0, kC0, eC0, tC0, hC0, ⟨_, _, _, _, _, _, _, _, _, _, _, _, _, _, _, li0, ci0⟩⟩
  have E1 : ErrTxt K mg "BadFormat" "fmt" C1 I1 := ⟨oneF_fmt, PySem.W.mg_of X G aC1, ⟨_, _, _, _, _, _, _, _, _, _, _, _, _, _, _, x1, r1⟩, sa1, ga1, gg1, nf1, iC1, tI1, kC1, eC1, tC1, hC1, ⟨_, _, _, _, _, _, _, _, _, _, _, _, _, _, _, li1, ci1⟩⟩
  have E2 : ErrTxt K mg "BadStyle" "style" C2 I2 := ⟨oneF_style, PySem.W.mg_of X G aC2, ⟨_, _, _, _, _, _, _, _, _, _, _, _, _, _, _, x2, r2⟩, sa2, ga2, gg2, nf2, iC2, tI2, kC2, eC2, tC2, hC2, ⟨_, _, _, _, _, _, _, _, _, _, _, _, _, _, _, li2, ci2⟩⟩
  subst eF0
  subst eF1
  subst eF2
  subst eG1
  have FF : FunD K "__init__" "Field.__init__" (defArgs s_Field___init__) (defBody s_Field___init__) (defScope s_Field___init__) [.str (SX.S []), .str (SX.S [32]), .str (SX.S []), .int 0] [] IF _ := ⟨⟨_, _, _, _, _, _, _, _, _, _, rfl, lF, cF, .inr ⟨by decide, TF, _, _, nF, rfl, dF, rfl, .cons ⟨_, rfl⟩ (.cons ⟨_, rfl⟩ (.cons ⟨_, rfl⟩ (.cons ⟨_, rfl⟩ .nil)))⟩, .inl rfl⟩, kIF⟩
  have FG : FunD K "__init__" "Formatter.__init__" (defArgs s_Formatter___init__) (defBody s_Formatter___init__) (defScope s_Formatter___init__) [.non, .str (SX.S [123]), .bl true, .non] [] IG _ := ⟨⟨_, _, _, _, _, _, _, _, _, _, rfl, lG, cG, .inr ⟨by decide, TG, _, _, nG, rfl, dG, rfl, .cons rfl (.cons ⟨_, rfl⟩ (.cons rfl (.cons rfl .nil)))⟩, .inl rfl⟩, kIG⟩
  have Fm := fun_mk (st := s_Formatter_fields) mlG_fields mcG_fields mkG_fields
  let T : Txt K mg := { B := B, f__wall := f0, fd__wall := _, D__wall := D0, f_is_word_sign := f1, fd_is_word_sign := _, D_is_word_sign := D1, f_leading_name := f2, fd_leading_name := _, D_leading_name := D2, f_own_copy := f3, fd_own_copy := _, D_own_copy := D3, f_is_style := f4, fd_is_style := _, D_is_style := D4, f_brace_pieces := f5, fd_brace_pieces := _, D_brace_pieces := D5, f_brace_field := f6, fd_brace_field := _, D_brace_field := D6, f_split_spec := f7, fd_split_spec := _, D_split_spec := D7, f_is_width := f8, fd_is_width := _, D_is_width := D8, f_dollar_pieces := f9, fd_dollar_pieces := _, D_dollar_pieces := D9, f_dollar_name := f10, fd_dollar_name := _, D_dollar_name := D10, f_joined := f11, fd_joined := _, D_joined := D11, f_first_day := f12, fd_first_day := _, D_first_day := D12, f_month_days := f13, fd_month_days := _, D_month_days := D13, f_date_of := f14, fd_date_of := _, D_date_of := D14, f_date_text := f15, fd_date_text := _, D_date_text := D15, f_hours_text := f16, fd_hours_text := _, D_hours_text := D16, f_time_text := f17, fd_time_text := _, D_time_text := D17, f_pieces_of := f18, fd_pieces_of := _, D_pieces_of := D18, f__law_draw := f19, fd__law_draw := _, D__law_draw := D19, f__law_pick := f20, fd__law_pick := _, D__law_pick := D20, f__law_text := f21, fd__law_text := _, D__law_text := D21, f__law_same := f22, fd__law_same := _, D__law_same := D22, f__law_field := f23, fd__law_field := _, D__law_field := D23, f__law_braced := f24, fd__law_braced := _, D__law_braced := D24, f__law_braced_text := f25, fd__law_braced_text := _, D__law_braced_text := D25, f__law_format_parts := f26, fd__law_format_parts := _, D__law_format_parts := D26, f__law_wrong_part := f27, fd__law_wrong_part := _, D__law_wrong_part := D27, f__law_formatter_told := f28, fd__law_formatter_told := _, D__law_formatter_told := D28, f__law_braced_parts := f29, fd__law_braced_parts := _, D__law_braced_parts := D29, f__law_made_alone := f30, fd__law_made_alone := _, D__law_made_alone := D30, f_law := f31, fd_law := _, D_law := D31, C_Field := CF, c_BadField := C0, i_BadField := I0, E_BadField := E0, c_BadFormat := C1, i_BadFormat := I1, E_BadFormat := E1, c_BadStyle := C2, i_BadStyle := I2, E_BadStyle := E2, i_Field := IF, fdi_Field := _, F_Field := FF, M_Field := ⟨mkF, iF, fIF, kCF⟩, g_Field := PySem.W.mg_of X G aF, I_Field := ⟨⟨pgF, hdF, poF, saF⟩, clF, hn, htk, moF, kit_subV ssF ssF icF tyF⟩, kFS := kit_typ sfF (by decide +kernel), kSF := kit_subV stF ssF icF tyF, C_Formatter := CG, i_Formatter := IG, fdi_Formatter := _, F_Formatter := FG, M_Formatter := ⟨mkG, iG, fIG, kCG⟩, g_Formatter := PySem.W.mg_of X G aG, cl_Formatter := ⟨pgG, hdG, poG, saG⟩, na_pieces := naG_pieces, na_defaults := naG_defaults, m_fields := MG_fields, fdm_fields := _, Me_fields := ⟨mG_fields, mfG_fields, mkG_fields⟩, F_fields := Fm, b_fields := Fm.binds (ps := ["self"]) fun _ _ _ _ _ _ us hl => match us, hl with | [_], _ => rfl, na_name := naF_name, na_way := naF_way, na_fill := naF_fill, na_align := naF_align, na_width := naF_width, exm := PySem.W.exm_ref eC1 hC1 tC1 sBB, exmS := PySem.W.exm_ref eC2 hC2 tC2 sSS, exmSF := PySem.W.exm_ref eC1 hC1 tC1 sSF, cW := cW, PW := PW, W_ex := ⟨_, _, _, _, _, _, _, _, rfl, l8, c8⟩, aAL := aAL, k_ALIGNS := ⟨_, PySem.W.mg_of X G k_ALIGNS, rfl⟩, t_ALIGNS := fun H => .inr ⟨_, _, _, l_ALIGNS, rfl, rfl, Nat.le_of_ble_eq_true rfl, .cons ⟨_, rfl⟩ (.cons ⟨_, rfl⟩ (.cons ⟨_, rfl⟩ .nil))⟩, k_LETTERS := ⟨_, PySem.W.mg_of X G k_LETTERS, by rw [e_LETTERS]; exact ⟨_, rfl⟩⟩, k_DIGITS := ⟨_, PySem.W.mg_of X G k_DIGITS, by rw [e_DIGITS]; exact ⟨_, rfl⟩⟩ }
  exact ⟨_, fun s v => .of_eq rfl, tW, nW, PySem.W.codeHd_of_K X (codeHd_tr lW hW), fun base _ _ tb => ok_law T ⟨tb.code, tb.bm, tb.gP⟩⟩
theorem walk {l : PySem.W.OpenLaw} {q : Program} {loose : List Str} {XP : (Str → Option Value) → Heap → Prop} {YP : World → Heap → Prop} {d : DefRec} {K : Params → PySem.W.Frag} (hn : l.most = some 63) (hdf : d.params.defaults = [])
    (hrec : ((recsOf q).any fun e => e.name == ("is_width" : Str)) = true) (hY : ∀ (w : World) (h : Heap), YP w h → (K w.params).In h)
    (F : ∀ (w : World) (mg : Str → Option Value) (fa : Addr) (h : Heap), (K w.params).In h → h.Ns mainGlobals mg → mg d.name = some (.ref fa) → (∀ f0, mg "is_width" = some (.ref f0) → LamX.OwnTab (K w.params) f0 h) →
      ∃ (cW PW : Addr) (fd : FuncData), (∀ (s : Shared) (u : Value), BindsTo s fd ⟨[u], []⟩ [("_law_script", u)]) ∧ h.get? PW = some { cls := .none, data := .fields #[] } ∧ (K w.params).lookup PW = none ∧ PySem.W.CodeHd h cW PW ∧
        ∀ base : Heap, (K w.params).In base → base.Ns mainGlobals mg → LamX.TabB base mg cW PW → FnOk l.prog w (K w.params) mg base CX0 10 fa fd ["_law_script"] (spLaw (K w.params) PW)) :
    PySem.W.WalkO q loose XP YP l.row.toRowW d [] (fun f vs => PySem.call f vs) := by
  refine Att.attach_callB hn hdf fun w z0 z1 mg mb fa ob pm cd doc a vs ns G Y oa od oc mgd lst izs few bits ng => ?_
  have KX := hY w _ Y
  have own : ∀ f0, mg "is_width" = some (.ref f0) → LamX.OwnTab (K w.params) f0 z1.heap := fun f0 m0 c P o2 fd2 e2 dd2 vs2 sl2 k1 k2 k3 k4 k5 => by
    obtain ⟨dl, inl, nml⟩ := List.any_eq_true.mp hrec
    obtain ⟨a3, o3, fd3, c3, P3, g1, g2, g3, g4, g5, g6⟩ := G.T.tab dl inl
    rw [beq_iff_eq.mp nml, m0] at g1
    cases g1
    rw [KX _ _ k1] at g2
    cases g2
    rw [k2] at g3
    cases g3
    rw [k3] at g4
    cases g4
    obtain ⟨⟨ox, vx, x1, _, x3, x4⟩, tabx⟩ := g6
    rw [KX _ _ k4] at x1
    cases x1
    cases x3
    rw [k5] at x4
    cases x4
    exact tabx
  obtain ⟨cW, PW, fd, hb, hT, nT, C, hF⟩ := F w mg fa _ KX G.T.g mgd own
  refine LamX.law_callTs (cs := [(cW, PW)]) (k := 10) KX G.T.g G.T.b G.T.builtins G.T.nolimit ng (fun p hp => ?_) (fun p hp => ?_) (fun p hp => ?_) G.T.bmain lst izs (Nat.le_trans few (by decide)) ⟨rfl, by decide, by decide⟩
    (fun base b1 b2 tb => hF base b1 b2 (tb _ List.mem_cons_self)) hb (fun H hH hS => ?_) fun _ _ _ z => z
  · rw [List.mem_singleton.mp hp]; exact hT
  · rw [List.mem_singleton.mp hp]; exact nT
  · rw [List.mem_singleton.mp hp]; exact C
  · exact .a ⟨a, ns, rfl, hS, few, ⟨_, hH _ List.mem_cons_self, by trivial⟩, fun _ => rfl⟩
end My
open PySem PySem.W PyProof.Rows
set_option maxRecDepth 100000 in
set_option maxHeartbeats 0 in
theorem PySem.Challenge.cw_recordyard_k08_formats_in_braces_refused_holds : PySem.Challenge.rw_recordyard_k08_formats_in_braces_refused.Holds := by
  w_on; o_law; k_head; (case hw => w_witness2)
  k_fill
  refine My.walk (l := PySem.Challenge.rw_recordyard_k08_formats_in_braces_refused) rfl rfl (by first | rfl | decide +kernel) (fun w h Y => PySem.W.kIn_of Y) ?F
  case F =>
    intro w mg fa h KX G hmg own
    refine' ⟨?cW, ?PW, My.all_mk KX G hmg ?a0 ?l0 ?c0 ?k0 ?a1 ?l1 ?c1 ?k1 ?a2 ?l2 ?c2 ?k2 ?a3 ?l3 ?c3 ?k3 ?a4 ?l4 ?c4 ?k4 ?a5 ?l5 ?c5 ?k5 ?a6 ?l6 ?c6 ?k6 ?a7 ?l7 ?c7 ?k7 ?a8 ?l8 ?c8 ?k8 ?lW ?vW ?hW ?nW ?a9 ?l9 ?c9 ?k9 ?a10 ?l10 ?c10 ?k10 ?a11 ?l11 ?c11 ?k11 ?a12 ?l12 ?c12 ?k12 ?a13 ?l13 ?c13 ?k13 ?a14 ?l14 ?c14 ?k14 ?a15 ?l15 ?c15 ?k15 ?a16 ?l16 ?c16 ?k16 ?a17 ?l17 ?c17 ?k17 ?a18 ?l18 ?c18 ?k18 ?a19 ?l19 ?c19 ?k19 ?a20 ?l20 ?c20 ?k20 ?a21 ?l21 ?c21 ?k21 ?a22 ?l22 ?c22 ?k22 ?a23 ?l23 ?c23 ?k23 ?a24 ?l24 ?c24 ?k24 ?a25 ?l25 ?c25 ?k25 ?a26 ?l26 ?c26 ?k26 ?a27 ?l27 ?c27 ?k27 ?a28 ?l28 ?c28 ?k28 ?a29 ?l29 ?c29 ?k29 ?a30 ?l30 ?c30 ?k30 ?a31 ?l31 ?c31 ?k31 ?z_all ?z_bool ?z_dict ?z_int ?z_isinstance ?z_len ?z_list ?z_range ?z_sorted ?z_str ?z_tuple ?z_zip ?hn ?htk ?k_LETTERS ?e_LETTERS ?k_DIGITS ?e_DIGITS ?k_ALIGNS ?l_ALIGNS ?eA0 ?eA1 ?eA2 ?aC0 ?x0 ?r0 ?sa0 ?nf0 ?ga0 ?gg0 ?iC0 ?tI0 ?kC0 ?eC0 ?tC0 ?hC0 ?li0 ?ci0 ?aC1 ?x1 ?r1 ?sa1 ?nf1 ?ga1 ?gg1 ?iC1 ?tI1 ?kC1 ?eC1 ?tC1 ?hC1 ?li1 ?ci1 ?aC2 ?x2 ?r2 ?sa2 ?nf2 ?ga2 ?gg2 ?iC2 ?tI2 ?kC2 ?eC2 ?tC2 ?hC2 ?li2 ?ci2 ?sBB ?sSS ?sSF ?aF ?iF ?lF ?cF ?kIF ?dF ?eF0 ?eF1 ?eF2 ?mkF ?fIF ?kCF ?pgF ?hdF ?poF ?saF ?naF_name ?naF_way ?naF_fill ?naF_align ?naF_width ?clF ?moF ?ssF ?icF ?tyF ?sfF ?stF ?aG ?iG ?lG ?cG ?kIG ?dG ?eG1 ?mkG ?fIG ?kCG ?pgG ?hdG ?poG ?saG ?naG_pieces ?naG_defaults ?mG_fields ?mlG_fields ?mcG_fields ?mkG_fields ?mfG_fields own⟩
    (case a0 => k_is)
    (case l0 => k_is)
    (case c0 => k_is)
    (case k0 => k_is)
    (case a1 => k_is)
    (case l1 => k_is)
    (case c1 => k_is)
    (case k1 => k_is)
    (case a2 => k_is)
    (case l2 => k_is)
    (case c2 => k_is)
    (case k2 => k_is)
    (case a3 => k_is)
    (case l3 => k_is)
    (case c3 => k_is)
    (case k3 => k_is)
    (case a4 => k_is)
    (case l4 => k_is)
    (case c4 => k_is)
    (case k4 => k_is)
    (case a5 => k_is)
    (case l5 => k_is)
    (case c5 => k_is)
    (case k5 => k_is)
    (case a6 => k_is)
    (case l6 => k_is)
    (case c6 => k_is)
    (case k6 => k_is)
    (case a7 => k_is)
    (case l7 => k_is)
    (case c7 => k_is)
    (case k7 => k_is)
    (case a8 => k_is)
    (case l8 => k_is)
    (case c8 => k_is)
    (case k8 => k_is)
    (case lW => k_is)
    (case vW => rfl)
    (case hW => first | rfl | decide +kernel)
    (case nW => first | rfl | decide +kernel)
    (case a9 => k_is)
    (case l9 => k_is)
    (case c9 => k_is)
    (case k9 => k_is)
    (case a10 => k_is)
    (case l10 => k_is)
    (case c10 => k_is)
    (case k10 => k_is)
    (case a11 => k_is)
    (case l11 => k_is)
    (case c11 => k_is)
    (case k11 => k_is)
    (case a12 => k_is)
    (case l12 => k_is)
    (case c12 => k_is)
    (case k12 => k_is)
    (case a13 => k_is)
    (case l13 => k_is)
    (case c13 => k_is)
    (case k13 => k_is)
    (case a14 => k_is)
    (case l14 => k_is)
    (case c14 => k_is)
    (case k14 => k_is)
    (case a15 => k_is)
    (case l15 => k_is)
    (case c15 => k_is)
    (case k15 => k_is)
    (case a16 => k_is)
    (case l16 => k_is)
    (case c16 => k_is)
    (case k16 => k_is)
    (case a17 => k_is)
    (case l17 => k_is)
    (case c17 => k_is)
    (case k17 => k_is)
    (case a18 => k_is)
    (case l18 => k_is)
    (case c18 => k_is)
    (case k18 => k_is)
    (case a19 => k_is)
    (case l19 => k_is)
    (case c19 => k_is)
    (case k19 => k_is)
    (case a20 => k_is)
    (case l20 => k_is)
    (case c20 => k_is)
    (case k20 => k_is)
    (case a21 => k_is)
    (case l21 => k_is)
    (case c21 => k_is)
    (case k21 => k_is)
    (case a22 => k_is)
    (case l22 => k_is)
    (case c22 => k_is)
    (case k22 => k_is)
    (case a23 => k_is)
    (case l23 => k_is)
    (case c23 => k_is)
    (case k23 => k_is)
    (case a24 => k_is)
    (case l24 => k_is)
    (case c24 => k_is)
    (case k24 => k_is)
    (case a25 => k_is)
    (case l25 => k_is)
    (case c25 => k_is)
    (case k25 => k_is)
    (case a26 => k_is)
    (case l26 => k_is)
    (case c26 => k_is)
    (case k26 => k_is)
    (case a27 => k_is)
    (case l27 => k_is)
    (case c27 => k_is)
    (case k27 => k_is)
    (case a28 => k_is)
    (case l28 => k_is)
    (case c28 => k_is)
    (case k28 => k_is)
    (case a29 => k_is)
    (case l29 => k_is)
    (case c29 => k_is)
    (case k29 => k_is)
    (case a30 => k_is)
    (case l30 => k_is)
    (case c30 => k_is)
    (case k30 => k_is)
    (case a31 => k_is)
    (case l31 => k_is)
    (case c31 => k_is)
    (case k31 => k_is)
    (case z_all => k_is)
    (case z_bool => k_is)
    (case z_dict => k_is)
    (case z_int => k_is)
    (case z_isinstance => k_is)
    (case z_len => k_is)
    (case z_list => k_is)
    (case z_range => k_is)
    (case z_sorted => k_is)
    (case z_str => k_is)
    (case z_tuple => k_is)
    (case z_zip => k_is)
    (case hn => k_is)
    (case htk => k_is)
    (case k_LETTERS => k_is)
    (case e_LETTERS => decide +kernel)
    (case k_DIGITS => k_is)
    (case e_DIGITS => decide +kernel)
    (case k_ALIGNS => k_is)
    (case l_ALIGNS => k_is)
    (case eA0 => decide +kernel)
    (case eA1 => decide +kernel)
    (case eA2 => decide +kernel)
    (case aC0 => k_is)
    (case x0 => k_is)
    (case r0 => rfl)
    (case sa0 => k_is)
    (case nf0 => k_is)
    (case ga0 => k_is)
    (case gg0 => k_is)
    (case iC0 => k_is)
    (case tI0 => k_is)
    (case kC0 => k_is)
    (case eC0 => k_is)
    (case tC0 => k_is)
    (case hC0 => k_is)
    (case li0 => k_is)
    (case ci0 => k_is)
    (case aC1 => k_is)
    (case x1 => k_is)
    (case r1 => rfl)
    (case sa1 => k_is)
    (case nf1 => k_is)
    (case ga1 => k_is)
    (case gg1 => k_is)
    (case iC1 => k_is)
    (case tI1 => k_is)
    (case kC1 => k_is)
    (case eC1 => k_is)
    (case tC1 => k_is)
    (case hC1 => k_is)
    (case li1 => k_is)
    (case ci1 => k_is)
    (case aC2 => k_is)
    (case x2 => k_is)
    (case r2 => rfl)
    (case sa2 => k_is)
    (case nf2 => k_is)
    (case ga2 => k_is)
    (case gg2 => k_is)
    (case iC2 => k_is)
    (case tI2 => k_is)
    (case kC2 => k_is)
    (case eC2 => k_is)
    (case tC2 => k_is)
    (case hC2 => k_is)
    (case li2 => k_is)
    (case ci2 => k_is)
    (case sBB => k_is)
    (case sSS => k_is)
    (case sSF => k_is)
    (case aF => k_is)
    (case iF => k_is)
    (case lF => k_is)
    (case cF => k_is)
    (case kIF => k_is)
    (case dF => k_is)
    (case eF0 => decide +kernel)
    (case eF1 => decide +kernel)
    (case eF2 => decide +kernel)
    (case mkF => k_is)
    (case fIF => k_is)
    (case kCF => k_is)
    (case pgF => k_is)
    (case hdF => k_is)
    (case poF => k_is)
    (case saF => k_is)
    (case naF_name => k_is)
    (case naF_way => k_is)
    (case naF_fill => k_is)
    (case naF_align => k_is)
    (case naF_width => k_is)
    (case clF => k_is)
    (case moF => k_is)
    (case ssF => k_is)
    (case icF => k_is)
    (case tyF => k_is)
    (case sfF => k_is)
    (case stF => k_is)
    (case aG => k_is)
    (case iG => k_is)
    (case lG => k_is)
    (case cG => k_is)
    (case kIG => k_is)
    (case dG => k_is)
    (case eG1 => decide +kernel)
    (case mkG => k_is)
    (case fIG => k_is)
    (case kCG => k_is)
    (case pgG => k_is)
    (case hdG => k_is)
    (case poG => k_is)
    (case saG => k_is)
    (case naG_pieces => k_is)
    (case naG_defaults => k_is)
    (case mG_fields => k_is)
    (case mlG_fields => k_is)
    (case mcG_fields => k_is)
    (case mkG_fields => k_is)
    (case mfG_fields => k_is)
