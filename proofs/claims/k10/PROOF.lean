import PyProof.Rows.All
import Wide.All
import OpenK.AllK
import Wide.FinOn
import HandS.ForMost
import HandS.ExcInit
import HandS.IsInst
import HandS.ExcIs
import HandS.ExcValue
import HandS.HotCalls
import HandS.ForExc
import HandS.TryMany
import HandS.Codes
import HandS.Words
import HandS.ReplaceLit
import HandS.ReplaceList
import KE.KDictZip
import HandS.Walk
import HandS.Zip
import HandS.More
import HandS.Defaults
import HandS.Rev
import HandS.Replace
import HandS.Style
import HandS.MakeKw
import PyProof.ListStr
import PySem.Challenge.RW_recordyard_k10_formats_with_dollars_refu
set_option Elab.async false
set_option linter.all false
set_option maxRecDepth 100000
set_option maxHeartbeats 4000000
namespace My
open PySem PySem.W PySem.Calls PyProof.Rows PySem.HandSPX
section
variable {prog : Program} {w : World} {A : Around} {M : Model} {E : Value → Shared → Prop} {R : Result → Shared → Prop} {h : Heap} {g : Array GenState} {d : Drawn} {t : Nat} {os : OsState}
variable {nm q : Str} {C N : Addr} {bs bm bmB : List Value} {hdct : Bool} {sn : List Str} {sub : List Value} {ab : Bool} {col : Option Bool} {dd : Option Addr} {k0 k1 k2 k3 k5 : Option Value} {B newId initId : String}
theorem chk_new_kw (F : ExcBaseFacts B newId initId bmB) (hT : ∀ X : String, bm.contains (.type X) = bmB.contains (.type X)) {rest : List Value}
    {kw : List (Str × Value)} {Q : Unit → Shared → Prop} (hC : h.get? C = some (excClassObj nm q C N bs bm hdct sn sub ab col dd k0 k1 k2 k3 k5 newId))
    (hq : Q () ⟨h, g, d, t, os⟩) :
    wpAny M A (checkBuiltinCall newId ⟨.ref C :: rest, kw⟩) Q E ⟨h, g, d, t, os⟩ := by
  have hc : (Value.ref C :: bm).contains (.type B) = true := by
    rw [List.contains_cons, hT, F.hasB, Bool.or_true]
  have hstar := F.noStar
  simp only [checkBuiltinCall, F.newKind, F.newSplit, F.newRow]
  repeat (first
    | refine wpAny_loadPart_at hC ?_
    | (refine wpAny_isSubtype_exc hC ?_; rw [hc])
    | refine wpAny_staticBase_exc hC ?_
    | refine wpAny_madeBy_exc hC ?_
    | simp only [bne_self_eq_false, Bool.false_eq_true, if_false]
    | wp_step)
  exact hq
theorem new_kw (F : ExcBaseFacts B newId initId bmB) (hT : ∀ X : String, bm.contains (.type X) = bmB.contains (.type X)) {rest : List Value}
    {kw : List (Str × Value)} (hC : h.get? C = some (excClassObj nm q C N bs bm hdct sn sub ab col dd k0 k1 k2 k3 k5 newId))
    (hq : R (.ok (.ret (.ref (h.objs.size + 1)))) ⟨(h.push (kdv_tup rest)).push (excO C h.objs.size), g, d, t, os⟩)
    (hrest : rest.length ≤ sizeLine) :
    codeAny (model prog w) A (.builtin newId ⟨.ref C :: rest, kw⟩) R ⟨h, g, d, t, os⟩ := by
  have hends := F.ends
  have h1 : (Value.ref C :: bm).contains (.type B) = true := by
    rw [List.contains_cons, hT, F.hasB, Bool.or_true]
  have h2 : (Value.ref C :: bm).contains (.type "AttributeError") = false := by
    rw [List.contains_cons, hT, F.noAttr]; rfl
  have h3 : (Value.ref C :: bm).contains (.type "NameError") = false := by
    rw [List.contains_cons, hT, F.noName]; rfl
  refine PySem.codeAny_builtinAt F.entry ?_
  unfold Builtin.«BaseException.__new__»
  refine PySem.wpAt_bind ?_
  show PySem.wpAt _ _ _ (stack >>= _) _ _ _
  refine PySem.wpAt_bind (PySem.wpAt_stack fun p below => PySem.wpAt_of_wpAny ?_)
  wp_walk
  refine PySem.wpAt_of_wpAny ?_
  rw [F.owner]
  repeat (first
    | with_reducible refine wpAny_madeHere_exc F.canon hC ?_
    | with_reducible refine wpAny_loadPart_at hC ?_
    | (with_reducible refine wpAny_isSubtype_exc hC ?_; first | rw [h1] | rw [h2] | rw [h3])
    | wp_step)
  show R _ _
  rw [Heap.size_push]
  exact hq
theorem tcall_kw (F : ExcBaseFacts B newId initId bmB) (hT : ∀ X : String, bm.contains (.type X) = bmB.contains (.type X)) {rest : List Value}
    {kw : List (Str × Value)} {fI : Addr} {Q : Fin → Shared → Prop} (hC : h.get? C = some (excClassObj nm q C N bs bm hdct sn sub ab col dd k0 k1 k2 k3 k5 newId))
    (hi : W.Looks (model prog w) h (typeLookup (.ref C) "__init__") (some (.ref fI)))
    (hb : ∀ self, W.Looks (model prog w) h (bindSpecial (.ref fI) self) (.ref fI, [self])) (hrest : rest.length ≤ sizeLine)
    (hq : codeAny (model prog w) A (.call (.ref fI) ⟨.ref (h.objs.size + 1) :: rest, kw⟩)
      (fun r s' => match r with
        | .ok (.ret v) => v = .none ∧ Q (.done (.ret (.ref (h.objs.size + 1)))) s'
        | .ok _ => False
        | .error e => E e s')
      ⟨(h.push (kdv_tup rest)).push (excO C h.objs.size), g, d, t, os⟩) :
    wpAny (model prog w) A (Builtin.«type.__call__» ⟨.ref C :: rest, kw⟩) Q E ⟨h, g, d, t, os⟩ := by
  repeat (first
    | with_reducible refine wpAny_loadPart_at hC ?_
    | with_reducible refine wpAny_madeBy_exc hC ?_
    | wp_step)
  refine codeAny_call_builtin_code (Code.quiet_builtin _ F.quiet) (chk_new_kw F hT hC ?_)
  refine new_kw F hT hC ?_ hrest
  show wpAny _ _ _ _ _ _
  have kp : ∀ b o, h.get? b = some o → ((h.push (kdv_tup rest)).push (excO C h.objs.size)).get? b = some o :=
    fun b o e => Heap.get?_push_of_some _ (Heap.get?_push_of_some _ e)
  have hC1 := kp _ _ hC
  have hg : ((h.push (kdv_tup rest)).push (excO C h.objs.size)).get? (h.objs.size + 1) = some (excO C h.objs.size) := by
    heap_get
  have hcC : (Value.ref C :: bm).contains (.ref C) = true := by simp
  have i1 := hi.keeps kp
  have b1 := (hb (.ref (h.objs.size + 1))).keeps kp
  unfold isInstance
  repeat (first
    | with_reducible refine wpAny_loadPart_at hg ?_
    | (with_reducible refine wpAny_isSubtype_exc hC1 ?_; rw [hcC])
    | wp_step)
  show wpAny _ _ (typeLookup (.ref C) _) _ _ _
  refine i1.at ?_
  refine wpAny_holding (wpAny_bind (b1.at ?_))
  refine wpAny_bind (wpAny_call (codeAny_mono hq fun r s' z => ?_))
  rcases r with e | (v | _ | _ | _) <;> first
    | exact z
    | exact z.elim
    | skip
  obtain ⟨rfl, z⟩ := z
  first
    | exact wpAny_pure (wpAny_pure z)
    | (wp_walk; exact z)
theorem call_kw (F : ExcBaseFacts B newId initId bmB) (hT : ∀ X : String, bm.contains (.type X) = bmB.contains (.type X)) {rest : List Value}
    {kw : List (Str × Value)} {fI : Addr} (hC : h.get? C = some (excClassObj nm q C N bs bm hdct sn sub ab col dd k0 k1 k2 k3 k5 newId))
    (hi : W.Looks (model prog w) h (typeLookup (.ref C) "__init__") (some (.ref fI)))
    (hb : ∀ self, W.Looks (model prog w) h (bindSpecial (.ref fI) self) (.ref fI, [self])) (hrest : rest.length ≤ sizeLine)
    (hq : codeAny (model prog w) (A.under (.builtin "type.__call__" ⟨.ref C :: rest, kw⟩)) (.call (.ref fI) ⟨.ref (h.objs.size + 1) :: rest, kw⟩)
      (W.InitBack (h.objs.size + 1) R) ⟨(h.push (kdv_tup rest)).push (excO C h.objs.size), g, d, t, os⟩) :
    codeAny (model prog w) A (.call (.ref C) ⟨rest, kw⟩) R ⟨h, g, d, t, os⟩ := by
  have f1 := tc_lookup
  have f2 := tc_bind (.ref C)
  have hTy : (⟨h, g, d, t, os⟩ : Shared).TypeIs (.ref C) "type" := ⟨_, hC, rfl⟩
  refine codeAny_of_tree ?_
  show wpAny _ _ (callAny (.ref C) _) _ _ _
  repeat (any_goals (first
    | assumption
    | with_reducible refine wpAny_loadPart_at hC ?_
    | wp_step))
  refine ⟨rfl, ?_⟩
  refine codeAny_call_builtin_at (Code.quiet_builtin _ (by decide +kernel)) entry_typeCall
    (wpAny_check_type_call_sub hC (tcall_kw F hT hC hi hb hrest ?_))
  refine codeAny_mono hq fun r s' z => ?_
  rcases r with e | (v | _ | _ | _) <;> exact z
end
end My

namespace My
open PySem PySem.W PySem.Calls PyProof.Rows PySem.HandSPX
/-! ### isinstance of an exception with a dict of its own -/
section
variable {prog : Program} {w : World} {A : Around} {E : Value → Shared → Prop} {s : Shared} {K : Frag} {x D : Addr} {ox : Obj} {od : Option Obj}
theorem kin_cls (T : L2.ExcC K D) (X : K.In s.heap) (I : InstAt s.heap x ox D od) {Q : Option Value → Shared → Prop}
    (h : Q (some (.ref D)) { s with toks := s.toks + 1 }) :
    wpAny (model prog w) A (getAttr? (.ref x) "__class__") Q E s := by
  have hf : findObj K D od "__class__" = some (.bind (.builtin "getset_descriptor.__get__") (.builtin "object.__class__")) := by
    obtain ⟨cd, hc, _⟩ := any_some T.hd
    unfold findObj
    rw [hc, Option.bind_some, T.ha, Option.bind_some]
    simp [T.hn, T.ht]
  obtain ⟨hp, g, d, t, os⟩ := s
  have L0 := I.type (M := model prog w)
  have L1 := looks_findIn (M := model prog w) X T.hg
  have L2 := looks_findIn (M := model prog w) X T.hk
  have L3 := looks_find (M := model prog w) X I hf
  have su : Looks (model prog w) hp (isInstance (.ref x) (.type "BaseException")) true := L0.andThen (looks_subIn X T.hs)
  have n0 : (false && onTheHeap (Value.builtin "BaseException.__getattribute__")) = false := rfl
  have n2 : (Value.builtin "BaseException.__getattribute__" == Value.builtin "object.__getattribute__") = false := by
    decide +kernel
  have n1 : (onTheHeap (Value.ref D) && Value.builtin "BaseException.__getattribute__" == Value.builtin "object.__getattribute__") = false := by
    rw [n2]; rfl
  unfold getAttr? getAttrBy? getAttrBy
  refine wpAny_bind (wpAny_mkText (wpAny_bind (wpAny_attempt (wpAny_holding (wpAny_bind (L0.at (wpAny_bind (L1.at ?_))))))))
  show wpAny _ _ (if (onTheHeap (Value.ref D) && Value.builtin "BaseException.__getattribute__" == Value.builtin "object.__getattribute__") = true
    then _ else _) _ _ _
  rw [n1, if_neg Bool.false_ne_true]
  unfold getAttrByItsOwn hookBefore
  refine wpAny_bind ?_
  rw [if_pos (show onTheHeap (Value.ref D) = true from rfl)]
  refine L2.at ?_
  refine wpAny_bind (wpAny_attempt (wpAny_holding ?_))
  unfold callGetattribute
  rw [n0, if_neg Bool.false_ne_true]
  unfold boundAndCalled
  rw [PySem.F.excAttr_ValueError.ga.bind (.ref x)]
  refine wpAny_bind (wpAny_pure ?_)
  show wpAny _ _ (call (.builtin "BaseException.__getattribute__") [.ref x, .str "__class__" t]) _ _ _
  refine wpAny_call (codeAny_call_builtin PySem.F.excAttr_ValueError.ga.plain PySem.F.entry_bexc_ga ?_)
  refine @check_slot (model prog w) _ _ ⟨hp, g, d, t + 1, os⟩ "BaseException.__getattribute__" "BaseException" "__getattribute__" (.ref x)
    [.str "__class__" t] [] _ (by decide +kernel) (by decide +kernel) su (PySem.F.args_bexc_ga (.ref x) (.str "__class__" t)) ?_
  unfold Builtin.«object.__getattribute__»
  refine wpAny_bind (wpAny_of_eq (a := ((Value.ref x : Value), [Value.str "__class__" t]))
    (by first | rfl | (simp only [slotArgs]; rfl)) ?_)
  refine wpAny_bind (wpAny_pure (wpAny_bind (L0.at (wpAny_bind (L3.at ?_)))))
  show wpAny _ _ (holding [Value.builtin "object.__class__"]
    (call (.builtin "getset_descriptor.__get__") [.builtin "object.__class__", .ref x, .ref D]) >>= ret) _ _ _
  refine wpAny_bind (wpAny_holding (wpAny_call (class_get (s := ⟨hp, g, d, t + 1, os⟩) (ox := ox) (od := od) X I T.hm ?_)))
  refine wpAny_pure ?_
  show wpAny _ _ (handedOut (.ref D)) _ _ _
  rw [handedOut_of (v := .ref D) rfl]
  first
    | exact wpAny_pure (wpAny_pure h)
    | exact wpAny_pure h
    | exact wpAny_pure (wpAny_bind (wpAny_pure (wpAny_pure h)))
theorem kitx_e (T : L2.ExcC K D) : KitX K (.ref x) (.ref D) (fun h => InstAt h x ox D od) where
  ty := fun _ _ _ I => I.type
  it := fun _ _ X _ => by
    obtain ⟨cd, hc, _⟩ := any_some T.hd
    unfold clsIn at hc
    split at hc
    · rename_i ho
      intro A' Q' E' s' k q
      unfold isType loadHead
      exact wpAny_bind (wpAny_loadPart (k _ _ (X _ _ ho)) (wpAny_pure q))
    · exact nomatch hc
  ne := fun h tp dd its n sl X htp => by
    obtain ⟨cd, hc, _⟩ := any_some T.hd
    refine Bool.eq_false_iff.mpr fun q => ?_
    have e : D = tp := Value.ref.inj (beq_iff_eq.mp q)
    subst e
    unfold clsIn at hc
    split at hc
    · rename_i ho
      exact nomatch (X _ _ ho).symm.trans htp
    · exact nomatch hc
  ca := fun X I k => kin_cls T X I k
end
end My

namespace My
open PySem PySem.W PySem.Calls PyProof.Rows PySem.HandSPX
/-! ### an own error class whose __init__ stores its one argument under its own name f -/
def eA (f : Str) (p1 p2 : Pos) : Arguments :=
  { posonlyargs := [], args := [{ arg := "self", annotation := none, pos := p1 }, { arg := f, annotation := none, pos := p2 }], vararg := none,
    kwonlyargs := [], kw_defaults := [], kwarg := none, defaults := [] }
def eB (f : Str) (q1 q2 q3 q4 : Pos) : List Stmt := [.Assign [.Attribute (.Name "self" q1) f q2] (.Name f q3) q4]
def eS (f : Str) : Scope :=
  { kind := .function, names := [(PySem.Str.ofString "self", .local), (f, .local)], isGenerator := false, isCoroutine := false, more := [] }
structure OneF (f : Str) : Prop where
  b1 : ∀ (qual : Str) (p1 p2 q1 q2 q3 q4 : Pos) (doc pm : Value) (an : Option Addr) (cdv ct x v : Value),
    bindArgs (fnOf "__init__" qual (eA f p1 p2) (eB f q1 q2 q3 q4) (eS f) .none .none doc pm an cdv ct) ⟨[x, v], []⟩ = pure [(("self" : Str), x), (f, v)]
  b2 : ∀ (qual : Str) (p1 p2 q1 q2 q3 q4 : Pos) (doc pm : Value) (an : Option Addr) (cdv ct x v : Value),
    bindArgs (fnOf "__init__" qual (eA f p1 p2) (eB f q1 q2 q3 q4) (eS f) .none .none doc pm an cdv ct) ⟨[x], [(f, v)]⟩ = pure [(("self" : Str), x), (f, v)]
  nd : (f == ("__debug__" : Str)) = false
  lk : (eS f).names.lookup f = some .local
  al : ∀ (x v : Value), ([(("self" : Str), x), (f, v)].all fun y =>
      List.lookup y.fst (eS f).names == some NameKind.local || List.lookup y.fst (eS f).names == some NameKind.cell) = true
  vs : ∀ (q : Str) (L a : Addr) (cd x v : Value), bindL (envOfC q (eS f) L a cd).kindOf [(("self" : Str), x), (f, v)] (fun _ => none) "self" = some x
  vf : ∀ (q : Str) (L a : Addr) (cd x v : Value), bindL (envOfC q (eS f) L a cd).kindOf [(("self" : Str), x), (f, v)] (fun _ => none) f = some v
  kf : ∀ (q : Str) (L a : Addr) (cd : Value), (envOfC q (eS f) L a cd).kindOf f = some .local
theorem oneF_level : OneF "level" := ⟨by intros; rfl, by intros; rfl, by decide +kernel, by decide +kernel, by intros; rfl, by intros; rfl, by intros; rfl, by intros; rfl⟩
structure ErrTxt (K : Frag) (mg : Str → Option Value) (cn f : Str) (C fI : Addr) : Prop where
  one : OneF f
  gC : mg cn = some (.ref C)
  cls : ∃ nm q N bs bm sn sub ab col dd k0 k1 k2 k3 k5,
    K.lookup C = some (excClassObj nm q C N bs bm true sn sub ab col dd k0 k1 k2 k3 k5 "ValueError.__new__") ∧ refsVE bm = true
  sa : findIn K (.ref C) "__setattr__" = some (some (.builtin "object.__setattr__"))
  ga : findIn K (.ref C) "__getattribute__" = some (some (.builtin "BaseException.__getattribute__"))
  gg : findIn K (.ref C) "__getattr__" = some none
  noN : findIn K (.ref C) f = some none
  iC : findIn K (.ref C) "__init__" = some (some (.ref fI))
  tC : typeIn K (.ref fI) = some (.type "function")
  kC : keepIn K (.ref C) = true
  exC : subIn K (.ref C) (.type "BaseException") = some true
  tyC : typeIn K (.ref C) = some (.type "type")
  hdC : hasDictIn K C = true
  fn : ∃ (oc : Value) (od : Option Addr) (q : Str) (doc pm : Value) (an : Option Addr) (cdv ct : Value) (osl : Array (Option Value)) (p1 p2 q1 q2 q3 q4 : Pos),
    K.lookup fI = some ⟨oc, od, .func (fnOf "__init__" q (eA f p1 p2) (eB f q1 q2 q3 q4) (eS f) .none .none doc pm an cdv ct), osl⟩ ∧ codeIn K cdv q = true
structure IEnd (h h' : Heap) (x C dx t1 : Addr) (f : Str) (v : Value) : Prop where
  keep : ∀ b o, b ≠ x → h.get? b = some o → h'.get? b = some o
  obj : h'.get? x = some { cls := .ref C, dict := some dx, data := .fields #[.ref t1, .none, .none, .none, .bool false, .none] }
  dbig : h.objs.size ≤ dx
  dne : dx ≠ x
  ns : h'.Ns1 dx (fun y => if y = f then some v else none)
structure EMade (h h' : Heap) (e C d : Addr) (f : Str) (v : Value) : Prop where
  keep : ∀ b o, h.get? b = some o → h'.get? b = some o
  new : h.objs.size ≤ e
  obj : ∃ t1, h'.get? e = some { cls := .ref C, dict := some d, data := .fields #[.ref t1, .none, .none, .none, .bool false, .none] }
  dbig : h.objs.size ≤ d
  dne : d ≠ e
  ns : h'.Ns1 d (fun y => if y = f then some v else none)
theorem size1 (v : Value) : [v].length ≤ sizeLine := by
  rw [sizeLine_eq]
  exact (by decide : 1 ≤ 16777216)
section
variable {prog : Program} {w : World} {A : Around} {E : Value → Shared → Prop} {R : Result → Shared → Prop} {s : Shared} {K : Frag} {mg : Str → Option Value} {cn f : Str} {C fI : Addr}
theorem err_init (T : ErrTxt K mg cn f C fI) {x t0 : Addr} {v : Value} {args : Args} (ha : args = ⟨[.ref x, v], []⟩ ∨ args = ⟨[.ref x], [(f, v)]⟩)
    (X : K.In s.heap) (hlim : s.heap.NoLimit) (hx : s.heap.get? x = some (excO C t0)) (hnx : K.lookup x = none) (hroom : A.depth < recursionLimit)
    (hq : ∀ h' tk dx, IEnd s.heap h' x C dx t0 f v → R (.ok (.ret .none)) { s with heap := h', toks := tk }) :
    codeAny (model prog w) A (.call (.ref fI) args) R s := by
  obtain ⟨oc, od, q0, doc, pm, an, cdv, ct, osl, p1, p2, q1, q2, q3, q4, ho, hcd⟩ := T.fn
  obtain ⟨nm, q, N, bs, bm, sn, sub, ab, col, dd, k0, k1, k2, k3, k5, hC, hbm⟩ := T.cls
  have hcl : clsIn K C = some { name := nm, bases := bs, mro := .ref C :: bm, ns := N, qualname := q, hasDict := true, slotNames := sn, subclasses := sub, abstract := ab, collection := col, hasDel := false } := by
    unfold clsIn
    rw [hC] <;> rfl
  have O := T.one
  have hb : BindsTo s (fnOf "__init__" q0 (eA f p1 p2) (eB f q1 q2 q3 q4) (eS f) .none .none doc pm an cdv ct) args [(("self" : Str), .ref x), (f, v)] := by
    rcases ha with rfl | rfl
    · exact BindsTo.of_eq (O.b1 ..)
    · exact BindsTo.of_eq (O.b2 ..)
  refine Att.call_fn (binds := [(("self" : Str), .ref x), (f, v)]) X hlim ho hcd hroom hb ?_ (fun s₁ IC => ?_) rfl rfl rfl
  · exact O.al _ _
  obtain ⟨h₁, tk₁, rfl⟩ := IC.toInCall.same
  have kp : ∀ b o, s.heap.get? b = some o → h₁.get? b = some o := IC.toInCall.keep
  have hn := IC.toInCall.ns
  have X1 : K.In h₁ := X.keeps kp
  have hx1 := kp _ _ hx
  show wpAny _ _ (execs _ _) _ _ _
  refine wpAny_execs_cons (plainObj_wpAny_Assign_Attribute ?_)
  refine wpAny_Name (wpAny_loadName_local rfl (O.kf ..) hn (O.vf ..) ?_) O.nd
  refine wpAny_Name (wpAny_loadName_local rfl rfl hn (O.vs ..) ?_)
  refine set_plain X1 (ox := excO C t0) (od := none) ⟨hx1, rfl, rfl, trivial⟩ T.sa ?_
  refine exc_osa X1 hx1 hcl (show refsVE (.ref C :: bm) = true from hbm) rfl T.noN (fun h3 tk3 dx k3 dn dne hx3 hn3 => ?_)
  show wpAny _ _ (execs _ _) _ _ _
  have z : s.heap.objs.size < h₁.objs.size := hn.lt
  exact wpAny_execs_nil (hq h3 tk3 dx ⟨fun b o hb e => k3 b o hb (kp b o e), hx3, Nat.le_of_lt (Nat.lt_of_lt_of_le z dn), dne, hn3⟩)
theorem err_made (T : ErrTxt K mg cn f C fI) {v : Value} {args : Args} (ha : args = ⟨[v], []⟩ ∨ args = ⟨[], [(f, v)]⟩) (X : K.In s.heap)
    (hlim : s.heap.NoLimit) (hroom : A.depth + 1 < recursionLimit)
    (hq : ∀ h' tk e d, EMade s.heap h' e C d f v → R (.ok (.ret (.ref e))) { s with heap := h', toks := tk }) :
    codeAny (model prog w) A (.call (.ref C) args) R s := by
  obtain ⟨nm, q, N, bs, bm, sn, sub, ab, col, dd, k0, k1, k2, k3, k5, hC, hbm⟩ := T.cls
  obtain ⟨hp, g, dr, tk, os⟩ := s
  obtain ⟨rest, kw, rfl, hr, ha'⟩ : ∃ rest kw, args = ⟨rest, kw⟩ ∧ rest.length ≤ sizeLine ∧ ∀ x : Value, (⟨x :: rest, kw⟩ : Args) = ⟨[x, v], []⟩ ∨ (⟨x :: rest, kw⟩ : Args) = ⟨[x], [(f, v)]⟩ := by
    rcases ha with rfl | rfl
    · exact ⟨_, _, rfl, size1 v, fun x => .inl rfl⟩
    · exact ⟨_, _, rfl, Nat.zero_le _, fun x => .inr rfl⟩
  have kp : ∀ b o, hp.get? b = some o → ((hp.push (kdv_tup rest)).push (excO C hp.objs.size)).get? b = some o :=
    fun b o e => Heap.get?_push_of_some _ (Heap.get?_push_of_some _ e)
  have hget : ((hp.push (kdv_tup rest)).push (excO C hp.objs.size)).get? (hp.objs.size + 1) = some (excO C hp.objs.size) := by heap_get
  have hnx : K.lookup (hp.objs.size + 1) = none := by
    cases e : K.lookup (hp.objs.size + 1) with
    | none => rfl
    | some o =>
      have z : hp.get? (hp.objs.size + 1) = some o := X _ _ e
      exact absurd (Nat.lt_of_succ_lt (Heap.lt_size z)) (Nat.lt_irrefl _)
  refine call_kw F.excBase_ValueError (fun X => refsVE_contains X bm hbm) (X _ _ hC) (looks_findIn X T.iC) (fun self => bind_fn X self T.tC) hr ?_
  refine err_init (s := ⟨(hp.push (kdv_tup rest)).push (excO C hp.objs.size), g, dr, tk, os⟩) T (ha' _) (X.keeps kp) (hlim.keeps kp) hget hnx ?_ fun h' tk' dx ⟨k', hx, dn, dne, hns⟩ => ?_
  · show A.depth + 1 < recursionLimit
    exact hroom
  · have old : ∀ b o, hp.get? b = some o → h'.get? b = some o :=
      fun b o e => k' b o (Nat.ne_of_lt (Nat.lt_succ_of_lt (Heap.lt_size e))) (kp b o e)
    have z : hp.objs.size + 1 + 1 ≤ dx := by
      first
        | (simpa only [Heap.size_push] using dn)
        | exact dn
    exact ⟨rfl, hq h' tk' (hp.objs.size + 1) dx ⟨old, Nat.le_succ _, ⟨_, hx⟩, Nat.le_trans (Nat.le_trans (Nat.le_succ _) (Nat.le_succ _)) z, dne, hns⟩⟩
end
end My

namespace My
open PySem PySem.Spec PyProof.Rows L2
/-- an error of the class C that is a value; its dict -/
def ExD (C : Addr) (d : Option Addr) (a : Addr) : HO :=
  .ext fun h => ∃ t1, h.get? a = some { cls := .ref C, dict := d, data := .fields #[.ref t1, .none, .none, .none, .bool false, .none] }
theorem exD_ok {P : Program} {w : World} {H : Hp} {h : Heap} {a C t1 : Addr} {d : Option Addr}
    (e : h.get? a = some { cls := .ref C, dict := d, data := .fields #[.ref t1, .none, .none, .none, .bool false, .none] }) : ObjOk P w H h a (ExD C d a) :=
  ⟨⟨t1, e⟩, ⟨_, e⟩, fun _ _ ⟨t, q⟩ k => ⟨t, k _ q⟩⟩
theorem relO_f {v : V} {v' : Value} {f : Str} (r : RelV v v') (g : Str) : RelO (List.lookup g [((f : Str), v)]) (if g = f then some v' else none) := by
  by_cases h : g = f
  · subst h
    rw [if_pos rfl]
    have q : List.lookup g [((g : Str), v)] = some v := by simp [List.lookup]
    rw [q]
    exact r
  · rw [if_neg h]
    have q1 : (g == f) = false := by simpa using h
    have q2 : List.lookup g [((f : Str), v)] = none := by simp [List.lookup, q1]
    rw [q2]
    trivial
section
variable {X : Cx} {C fI : Addr} {cn f : Str}
/-- C(e), C(f = e): a new error as a value -/
def tErr (C : Addr) (f : Str) (t : TA) : TE := fun σ H Q => t σ H fun vs H1 => ∃ v, vs = [v] ∧
  ∀ a d, H1 a = none → H1 d = none → a ≠ d → Q (.ref a) (upd (upd H1 d (.xd [(f, v)])) a (ExD C (some d) a))
theorem err_run (T : ErrTxt X.K X.mg cn f C fI) {k : Nat} (hr : Room k X.A) {pins : List (Addr × Obj)} {σ : L2.St} {H : Hp} {s : Shared} {Q : VK} {v : V} {u : Value} {us : List Value} {ks : List (Str × Value)}
    (hu : (us = [u] ∧ ks = []) ∨ (us = [] ∧ ks = [(f, u)])) (I : Inv X pins σ H s) (rv : RelV v u)
    (h : ∀ a d, H a = none → H d = none → a ≠ d → Q (.ref a) (upd (upd H d (.xd [(f, v)])) a (ExD C (some d) a))) :
    wpAny (model X.prog X.w) X.A (call (.ref C) us ks) (EP X pins σ Q) X.xe s := by
  have ha : (⟨us, ks⟩ : Args) = ⟨[u], []⟩ ∨ (⟨us, ks⟩ : Args) = ⟨[], [(f, u)]⟩ := by
    rcases hu with ⟨rfl, rfl⟩ | ⟨rfl, rfl⟩
    · exact .inl rfl
    · exact .inr rfl
  have hlim := I.nolimit
  obtain ⟨hp, g, dr, tk, os⟩ := s
  refine wpAny_call (err_made T ha I.kIn hlim (by have := hr.dp; omega) fun h' tk' e d M => ?_)
  obtain ⟨t1, ho⟩ := M.obj
  obtain ⟨G', g1, g2⟩ := restrict h' fun b => decide (b ≠ e)
  have gk : ∀ b, b ≠ e → G'.get? b = h'.get? b := fun b hb => g1 b (decide_eq_true hb)
  have ge : G'.get? e = none := g2 e (by simp)
  have old : ∀ b o, hp.get? b = some o → G'.get? b = some o := fun b o q =>
    (gk b (Nat.ne_of_lt (Nat.lt_of_lt_of_le (Heap.lt_size q) M.new))).trans (M.keep b o q)
  have ob : ObjOk X.prog X.w (upd H d (.xd [(f, v)])) G' d (.xd [(f, v)]) :=
    ⟨_, M.ns.at (fun o q => (gk d M.dne).trans q), fun y => relO_f rv y⟩
  have J : Inv X pins σ (upd H d (.xd [(f, v)])) ⟨G', g, dr, tk', os⟩ := I.laid (t' := tk') old M.dbig ob
  have he0 : H e = none := I.hok.fresh M.new
  have hd0 : H d = none := I.hok.fresh M.dbig
  have sub : ∀ b o, G'.get? b = some o → h'.get? b = some o := fun b o q => by
    by_cases hb : b = e
    · rw [hb, ge] at q; cases q
    · exact (gk b hb).symm.trans q
  have J2 := J.laidN (t' := tk') (a := e) (o := ExD C (some d) e) sub ge (by rw [upd_ne (Ne.symm M.dne)]; exact he0) (exD_ok ho)
  exact ⟨.ref e, _, J2, rfl, h e d he0 hd0 (Ne.symm M.dne)⟩
theorem pe_err {a : Expr} {ta : TA} {p pos : Pos} {k : Nat} (T : ErrTxt X.K X.mg cn f C fI) (hr : Room k X.A) (ha : PA X [a] ta) (hg : Gl X cn)
    (hdb : (cn == ("__debug__" : Str)) = false := by decide)
    (he : starEach (a :: []) X.env = (false, eval a X.env) :: starEach [] X.env := by rfl) (hpl : (backTo pos (starEach [] X.env)).any (·.1) = false := by rfl) :
    PE X (.Call (.Name cn p) [a] [] pos) (tErr C f ta) := by
  refine ⟨fun pins s σ H Q I h => ?_⟩
  refine wpAny_Call_Name_kw (ld_glob I hg T.gC ?_ hdb)
  refine PySem.W.callWith_K (h₀ := X.base) I.ok.mod.kin T.kC (thn (ha.run pos pins s σ H _ I h) fun us s1 hh => ?_) he hpl
  obtain ⟨vs, H1, I1, r1, v, ev, q1⟩ := hh
  subst ev
  refine ⟨I1.kIn, ?_⟩
  cases r1 with
  | cons rv rn =>
    cases rn
    exact err_run T hr (.inl ⟨rfl, rfl⟩) I1 rv q1
theorem pe_errK {kws : List Keyword} {tk : TA} {p pos : Pos} {k : Nat} (T : ErrTxt X.K X.mg cn f C fI) (hr : Room k X.A) (ha : PK X kws tk) (hg : Gl X cn)
    (hall : (backToKw pos (keywordEach kws X.env)).all (·.1.isSome) = true := by rfl)
    (hks : (backToKw pos (keywordEach kws X.env)).filterMap (·.1) = [f] := by rfl)
    (hdb : (cn == ("__debug__" : Str)) = false := by decide)
    (hpl : ((backTo pos (starEach [] X.env)).any (·.1) || (backToKw pos (keywordEach kws X.env)).any (·.1.isNone)) = false := by rfl) :
    PE X (.Call (.Name cn p) [] kws pos) (tErr C f tk) := by
  refine ⟨fun pins s σ H Q I h => ?_⟩
  refine wpAny_Call_Name_kw (ld_glob I hg T.gC ?_ hdb)
  refine PySem.W.callWith_KW0 (h₀ := X.base) I.ok.mod.kin T.kC hall (thn (ha.run pos pins s σ H _ I h) fun us s1 hh => ?_) hpl
  obtain ⟨vs, H1, I1, r1, v, ev, q1⟩ := hh
  subst ev
  refine ⟨I1.kIn, ?_⟩
  rw [hks]
  cases r1 with
  | cons rv rn =>
    cases rn
    exact err_run T hr (.inr ⟨rfl, rfl⟩) I1 rv q1
/-- e.f of such an error -/
def tErrF (C : Addr) (f : Str) (te : TE) : TE := fun σ H Q => te σ H fun x H1 => ∃ (a d : Addr) (v : V), x = .ref a ∧ H1 a = some (ExD C (some d) a) ∧ H1 d = some (.xd [(f, v)]) ∧ Q v H1
theorem pe_errF {e : Expr} {te : TE} {pos : Pos} (T : ErrTxt X.K X.mg cn f C fI) (he : PE X e te)
    (hb : attributeBase e f X.env (eval e X.env) = eval e X.env := by rfl) : PE X (.Attribute e f pos) (tErrF C f te) := by
  refine ⟨fun pins s σ H Q I h => ?_⟩
  refine attr_of hb (thn (he.run pins s σ H _ I h) fun u s1 hh => ?_)
  obtain ⟨x, H1, I1, rx, a, d, v, rfl, ea, ed, q⟩ := hh
  obtain rfl : u = Value.ref a := rx
  obtain ⟨⟨t1, ho⟩, _⟩ := (show ObjOk X.prog X.w H1 s1.heap a (ExD C (some d) a) from I1.hok a _ ea)
  obtain ⟨mA, hns, hr⟩ := (show ObjOk X.prog X.w H1 s1.heap d (.xd [(f, v)]) from I1.hok d _ ed)
  obtain ⟨od, hod, hl⟩ := lookIn_ns hns
  have l : List.lookup f [((f : Str), v)] = some v := by simp [List.lookup]
  obtain ⟨u, hu, ru⟩ := RelO.some_of (v := v) (o := mA f) (by rw [← l]; exact hr f)
  have J : PySem.W.InstAt s1.heap a _ C (some od) := ⟨ho, rfl, rfl, hod⟩
  exact HandSPX.exc_get I1.kIn J T.ga T.gg T.exC (PySem.W.findObj_own T.hdC T.noN rfl (by rw [hl, hu])) (handed_of ru) ⟨v, H1, I1.tok _, ru, q⟩
/-- isinstance(e, c) of such an error -/
def rIsD (K : PySem.W.Frag) : List V → Hp → VK → Prop := fun xs H Q => ∃ (a C : Addr) (d : Option Addr) (c : V) (u : Value) (b : Bool), xs = [.ref a, c] ∧ ClsV c u ∧ H a = some (ExD C d a) ∧
  (∀ dd, d = some dd → ∃ fs, H dd = some (.xd fs)) ∧ ExcC K C ∧ PySem.W.kitOne K (.ref C) u = some b ∧ Q (.bl b) H
theorem call_isD : CallR X (.builtin "isinstance") (rIsD X.K) := by
  intro pins s σ H xs us Q I r h
  obtain ⟨a, C, d, c, u, b, rfl, k, ea, ed, T, e, q⟩ := h
  obtain ⟨u1, u2, rfl, r1, r2⟩ := vals2 r
  have e2 := k.eq r2
  subst e2
  obtain rfl : u1 = Value.ref a := r1
  obtain ⟨⟨t1, ho⟩, _⟩ := (show ObjOk X.prog X.w H s.heap a (ExD C d a) from I.hok a _ ea)
  obtain ⟨od, J⟩ : ∃ od, PySem.W.InstAt s.heap a { cls := .ref C, dict := d, data := .fields #[.ref t1, .none, .none, .none, .bool false, .none] } C od := by
    cases d with
    | none => exact ⟨none, ho, rfl, rfl, trivial⟩
    | some dd =>
      obtain ⟨fs, hd⟩ := ed dd rfl
      obtain ⟨mA, hns, _⟩ := (show ObjOk X.prog X.w H s.heap dd (.xd fs) from I.hok dd _ hd)
      obtain ⟨od, hod, _⟩ := lookIn_ns hns
      exact ⟨some od, ho, rfl, rfl, hod⟩
  exact PySem.W.kia_one (kitx_e T) I.kIn J e (fun z => nomatch z) fun tk => ⟨.bl b, H, I.tok tk, rfl, q⟩
end
end My

namespace My
open PySem PySem.W PySem.Calls PyProof.Rows PySem.HandSPX
/-! ### an own error class whose __init__ does nothing -/
def cA (p1 : Pos) : Arguments :=
  { posonlyargs := [], args := [{ arg := "self", annotation := none, pos := p1 }], vararg := none,
    kwonlyargs := [], kw_defaults := [], kwarg := none, defaults := [] }
def cB (q1 : Pos) : List Stmt := [.Pass q1]
def cS : Scope :=
  { kind := .function, names := [(PySem.Str.ofString "self", .local)], isGenerator := false, isCoroutine := false, more := [] }
structure NilTxt (K : Frag) (mg : Str → Option Value) (cn : Str) (C fI : Addr) : Prop where
  gC : mg cn = some (.ref C)
  cls : ∃ nm q N bs bm sn sub ab col dd k0 k1 k2 k3 k5,
    K.lookup C = some (excClassObj nm q C N bs bm true sn sub ab col dd k0 k1 k2 k3 k5 "ValueError.__new__") ∧ refsVE bm = true
  iC : findIn K (.ref C) "__init__" = some (some (.ref fI))
  tC : typeIn K (.ref fI) = some (.type "function")
  kC : keepIn K (.ref C) = true
  exC : subIn K (.ref C) (.type "BaseException") = some true
  tyC : typeIn K (.ref C) = some (.type "type")
  fn : ∃ (oc : Value) (od : Option Addr) (q : Str) (doc pm : Value) (an : Option Addr) (cdv ct : Value) (osl : Array (Option Value)) (p1 q1 : Pos),
    K.lookup fI = some ⟨oc, od, .func (fnOf "__init__" q (cA p1) (cB q1) cS .none .none doc pm an cdv ct), osl⟩ ∧ codeIn K cdv q = true
structure NMade (h h' : Heap) (e C : Addr) : Prop where
  keep : ∀ b o, h.get? b = some o → h'.get? b = some o
  new : h.objs.size ≤ e
  obj : ∃ t1, h'.get? e = some { cls := .ref C, dict := none, data := .fields #[.ref t1, .none, .none, .none, .bool false, .none] }
section
variable {prog : Program} {w : World} {A : Around} {E : Value → Shared → Prop} {R : Result → Shared → Prop} {s : Shared} {K : Frag} {mg : Str → Option Value} {cn f : Str} {C fI : Addr}
theorem nil_made (T : NilTxt K mg cn C fI) (X : K.In s.heap) (hlim : s.heap.NoLimit) (hroom : A.depth + 1 < recursionLimit)
    (hq : ∀ h' tk e, NMade s.heap h' e C → R (.ok (.ret (.ref e))) { s with heap := h', toks := tk }) :
    codeAny (model prog w) A (.call (.ref C) ⟨[], []⟩) R s := by
  obtain ⟨nm, q, N, bs, bm, sn, sub, ab, col, dd, k0, k1, k2, k3, k5, hC, hbm⟩ := T.cls
  obtain ⟨oc, od, q0, doc, pm, an, cdv, ct, osl, p1, q1, ho, hcd⟩ := T.fn
  obtain ⟨hp, g, dr, tk, os⟩ := s
  have kp : ∀ b o, hp.get? b = some o → ((hp.push (kdv_tup [])).push (excO C hp.objs.size)).get? b = some o :=
    fun b o e => Heap.get?_push_of_some _ (Heap.get?_push_of_some _ e)
  have hget : ((hp.push (kdv_tup [])).push (excO C hp.objs.size)).get? (hp.objs.size + 1) = some (excO C hp.objs.size) := by heap_get
  refine call_kw F.excBase_ValueError (fun X => refsVE_contains X bm hbm) (X _ _ hC) (looks_findIn X T.iC) (fun self => bind_fn X self T.tC) (Nat.zero_le _) ?_
  refine Att.call_fn (binds := [(("self" : Str), .ref (hp.objs.size + 1))]) (s := ⟨(hp.push (kdv_tup [])).push (excO C hp.objs.size), g, dr, tk, os⟩) (X.keeps kp) (hlim.keeps kp) ho hcd
    (by show A.depth + 1 < recursionLimit; exact hroom) (BindsTo.of_eq (by first | rfl | with_unfolding_all rfl)) (by first | rfl | decide) (fun s₁ IC => ?_) rfl rfl rfl
  obtain ⟨h₁, tk₁, rfl⟩ := IC.toInCall.same
  have k1 := IC.toInCall.keep
  show wpAny _ _ (execs _ _) _ _ _
  refine wpAny_execs_cons (wpAny_Pass ?_)
  show wpAny _ _ (execs _ _) _ _ _
  refine wpAny_execs_nil ?_
  exact ⟨rfl, hq h₁ tk₁ (hp.objs.size + 1) ⟨fun b o e => k1 b o (kp b o e), Nat.le_succ _, ⟨_, k1 _ _ hget⟩⟩⟩
end
end My
namespace My
open PySem PySem.Spec PyProof.Rows L2
section
variable {X : Cx} {C fI : Addr} {cn f : Str}
def tErr0 (C : Addr) : TE := fun _ H Q => ∀ a, H a = none → Q (.ref a) (upd H a (ExD C none a))
theorem pe_err0 {p pos : Pos} {k : Nat} (T : NilTxt X.K X.mg cn C fI) (hr : Room k X.A) (hg : Gl X cn)
    (hdb : (cn == ("__debug__" : Str)) = false := by decide)
    (hall : (backToKw pos (keywordEach [] X.env)).all (·.1.isSome) = true := by rfl)
    (hpl : ((backTo pos (starEach [] X.env)).any (·.1) || (backToKw pos (keywordEach [] X.env)).any (·.1.isNone)) = false := by rfl) :
    PE X (.Call (.Name cn p) [] [] pos) (tErr0 C) := by
  refine ⟨fun pins s σ H Q I h => ?_⟩
  refine wpAny_Call_Name_kw (ld_glob I hg T.gC ?_ hdb)
  refine PySem.W.callWith_KW0 (h₀ := X.base) I.ok.mod.kin T.kC hall ?_ hpl
  show wpAny _ _ (evalAll []) _ _ _
  refine wpAny_pure ⟨I.kIn, ?_⟩
  show wpAny _ _ (call (.ref C) [] []) _ _ _
  have hlim := I.nolimit
  obtain ⟨hp, g, dr, tk, os⟩ := s
  refine wpAny_call (nil_made T I.kIn hlim (by have := hr.dp; omega) fun h' tk' e M => ?_)
  obtain ⟨t1, ho⟩ := M.obj
  have J := I.laid (t' := tk') (a := e) (o := ExD C none e) M.keep M.new (exD_ok ho)
  exact ⟨.ref e, _, J, rfl, h e (I.hok.fresh M.new)⟩
/-! ### raising them -/
def tMkE (C : Addr) (f : Str) (ta : TA) : L2.St → Hp → XK → Prop := fun σ H Q => ta σ H fun vs H1 => ∃ v, vs = [v] ∧ ∀ d, H1 d = none → Q (.ref C) (some d) (upd H1 d (.xd [(f, v)]))
theorem pmk_err {a : Expr} {ta : TA} {p pos : Pos} {k : Nat} (T : ErrTxt X.K X.mg cn f C fI) (hr : Room k X.A) (ha : PA X [a] ta) (hg : Gl X cn)
    (hdb : (cn == ("__debug__" : Str)) = false := by decide)
    (he : starEach (a :: []) X.env = (false, eval a X.env) :: starEach [] X.env := by rfl) (hpl : (backTo pos (starEach [] X.env)).any (·.1) = false := by rfl) :
    L2.PMk X (.Call (.Name cn p) [a] [] pos) (tMkE C f ta) := by
  intro pins s σ H Q I h
  refine wpAny_Call_Name_kw (ld_glob I hg T.gC ?_ hdb)
  refine PySem.W.callWith_K (h₀ := X.base) I.ok.mod.kin T.kC (thn (ha.run pos pins s σ H _ I h) fun us s1 hh => ?_) he hpl
  obtain ⟨vs, H1, I1, r1, v, ev, q1⟩ := hh
  subst ev
  refine ⟨I1.kIn, ?_⟩
  cases r1 with
  | cons rv rn =>
    cases rn
    rename_i u
    have hlim := I1.nolimit
    obtain ⟨hp, g, dr, tk, os⟩ := s1
    refine wpAny_call (err_made T (.inl rfl) I1.kIn hlim (by have := hr.dp; omega) fun h' tk' e d M => ?_)
    obtain ⟨t1, ho⟩ := M.obj
    obtain ⟨G', g1, g2⟩ := restrict h' fun b => decide (b ≠ e)
    have gk : ∀ b, b ≠ e → G'.get? b = h'.get? b := fun b hb => g1 b (decide_eq_true hb)
    have ge : G'.get? e = none := g2 e (by simp)
    have old : ∀ b o, hp.get? b = some o → G'.get? b = some o := fun b o q =>
      (gk b (Nat.ne_of_lt (Nat.lt_of_lt_of_le (Heap.lt_size q) M.new))).trans (M.keep b o q)
    have ob : ObjOk X.prog X.w (upd H1 d (.xd [(f, v)])) G' d (.xd [(f, v)]) :=
      ⟨_, M.ns.at (fun o q => (gk d M.dne).trans q), fun y => relO_f rv y⟩
    have J : Inv X pins σ (upd H1 d (.xd [(f, v)])) ⟨G', g, dr, tk', os⟩ := I1.laid (t' := tk') old M.dbig ob
    have sub : ∀ b o, G'.get? b = some o → h'.get? b = some o := fun b o q => by
      by_cases hb : b = e
      · rw [hb, ge] at q; cases q
      · exact (gk b hb).symm.trans q
    refine ⟨e, _, _, ⟨G', g, dr, tk', os⟩, _, .ref C, some d, rfl, J, sub, ge, ho, ⟨rfl, rfl⟩, rfl, rfl, ?_, rfl, I1.bare, raises_own T.exC T.tyC, q1 d (I1.hok.fresh M.dbig)⟩
    rw [upd_ne (Ne.symm M.dne)]
    exact I1.hok.fresh M.new
theorem pmk_nil {p pos : Pos} {k : Nat} (T : NilTxt X.K X.mg cn C fI) (hr : Room k X.A) (hg : Gl X cn)
    (hdb : (cn == ("__debug__" : Str)) = false := by decide)
    (hall : (backToKw pos (keywordEach [] X.env)).all (·.1.isSome) = true := by rfl)
    (hpl : ((backTo pos (starEach [] X.env)).any (·.1) || (backToKw pos (keywordEach [] X.env)).any (·.1.isNone)) = false := by rfl) :
    L2.PMk X (.Call (.Name cn p) [] [] pos) (fun _ H Q => Q (.ref C) none H) := by
  intro pins s σ H Q I h
  refine wpAny_Call_Name_kw (ld_glob I hg T.gC ?_ hdb)
  refine PySem.W.callWith_KW0 (h₀ := X.base) I.ok.mod.kin T.kC hall ?_ hpl
  show wpAny _ _ (evalAll []) _ _ _
  refine wpAny_pure ⟨I.kIn, ?_⟩
  show wpAny _ _ (call (.ref C) [] []) _ _ _
  have hlim := I.nolimit
  obtain ⟨hp, g, dr, tk, os⟩ := s
  refine wpAny_call (nil_made T I.kIn hlim (by have := hr.dp; omega) fun h' tk' e M => ?_)
  obtain ⟨t1, ho⟩ := M.obj
  have ne : hp.get? e = none := by
    cases q : hp.get? e with
    | none => rfl
    | some o => exact absurd (Heap.lt_size q) (Nat.not_lt.mpr M.new)
  exact ⟨e, _, _, ⟨hp, g, dr, tk', os⟩, H, .ref C, none, rfl, I.tok tk', M.keep, ne, ho, ⟨rfl, rfl⟩, rfl, rfl, I.hok.fresh M.new, rfl, I.bare, raises_own T.exC T.tyC, h⟩
end
end My

namespace My
open PySem PySem.Spec PyProof.Rows L2
open L2H (RoomH PinOk cxH inv_startH)
/-! ### a def that is called within an except suite with the exception that is handled -/
structure FnZ (P : Program) (w : World) (K : PySem.W.Frag) (mg : Str → Option Value) (base : Heap) (k : Nat) (f : Addr) (fd : FuncData) (ps : List Str)
    (cls : Value) (d : Option Addr) (sp : Addr → Sp) : Prop where
  len : ∀ a vs H Q E, sp a vs H Q E → vs.length = ps.length
  run : ∀ (A : Around) (outer : List Env) (s : Shared) (H : Hp) (args : Args) (us : List Value) (vs : List V) (Q : VK) (p : Addr × Obj), RoomH k A → Zc cls d p.2 → (∃ fv, p.2.data = .fields fv) →
    PinOk outer H s p → Env0 P w K mg base A outer s H → BindsTo s fd args (ps.zip us) → Vals vs us → sp p.1 vs H Q E0 →
    codeAny (model P w) A (.call (.ref f) args) (CR CX0 outer P w H s Q E0) s
theorem Fun.okZ {P : Program} {w : World} {K : PySem.W.Frag} {mg : Str → Option Value} {base : Heap} {x qual : Str} {st : Stmt} {f : Addr} {fd : FuncData} {N ps : List Str} {k : Nat}
    {cls : Value} {d : Option Addr} {sp : Addr → Sp} (F : Fun K x qual st f fd) (S : FnScope N ps (defScope st)) (len : ∀ a vs H Q E, sp a vs H Q E → vs.length = ps.length)
    (hbody : ∀ (cdv : Value) (A : Around) (outer : List Env) (s : Shared) (H : Hp) (vs : List V) (Q : VK) (p : Addr × Obj), Zc cls d p.2 → (∃ fv, p.2.data = .fields fv) →
      RoomH k (A.deeper (envOfC qual (defScope st) s.heap.objs.size f cdv)) → sp p.1 vs H Q E0 →
      ∃ t, PSs (cxH CX0 P w K mg base N qual (defScope st) f cdv A outer s H E0 p) (defBody st) t ∧ t { nx := fun _ H' => Q .non H', rt := Q } (L2.start N vs) H) :
    FnZ P w K mg base (k + 1) f fd ps cls d sp := by
  obtain ⟨oc, od, kV, doc, pm, an, cdv, ct, osl, rfl, lk, hcd⟩ := F.ex
  refine ⟨len, fun A outer s H args us vs Q p hr hz hf hpin e0 hb r hsp => ?_⟩
  have hl := len _ _ _ _ _ hsp
  have KX : K.In s.heap := e0.mod.kin.keeps fun b o e => (e0.bs b o e).1
  have lim : s.heap.NoLimit := e0.mod.nolimit.keeps fun b o e => (e0.bs b o e).1
  have hkind : ∀ y ∈ ps.zip us, (defScope st).names.lookup y.1 = some .local ∨
      ((defScope st).names.lookup y.1 = some .cell ∧ ((cellsFrom (s.heap.objs.size + 1) (defScope st).names []).lookup y.1).isSome = true) := by
    rintro ⟨n, v⟩ hy
    rcases S.par n (List.of_mem_zip hy).1 with q | q
    · exact .inl q
    · exact .inr ⟨q, PySem.W.cellsFrom_some _ _ _ (.inl q)⟩
  refine codeAny_call_function hr.depth (KX _ _ lk) rfl S.co S.gen rfl (PySem.W.codeRec_of KX hcd) (hb _ _ _ _ ?_)
  refine wpAny_newFunctionEnv_cells S.kind hkind fun env he s1 x => ?_
  subst he
  refine ⟨lim.keeps x.toInCall.keep, codeAny_func ?_⟩
  obtain ⟨t, ht, hq⟩ := hbody cdv A outer s H vs Q p hz hf (hr.deeper _) hsp
  have I := inv_startH (CX := CX0) (E := E0) S hpin e0 hl r x
  refine wpAny_mono (ht.run [] s1 (L2.start N vs) H _ I hq) (fun fl s' hs => ?_) fun e s' hs => hs
  cases fl with
  | ret u =>
    obtain ⟨v, σ', H', J, rv, q⟩ := hs
    exact ⟨v, H', J.os, J.bare, J.base, J.hok, rv, q⟩
  | next =>
    obtain ⟨σ', H', J, q⟩ := hs
    exact ⟨V.non, H', J.os, J.bare, J.base, J.hok, rfl, q⟩
  | brk =>
    obtain ⟨_, _, _, q⟩ := hs
    exact q.elim
  | cont =>
    obtain ⟨_, _, _, q⟩ := hs
    exact q.elim
section
variable {X : Cx} {k : Nat} {f a : Addr} {oe : Obj} {pn : List (Addr × Obj)} {fd : FuncData} {ps : List Str} {sp : Addr → Sp} {cls : Value} {d : Option Addr} {x : Str} {q pos : Pos} {e : Expr} {es : List Expr} {t : TA}
def tCallZ (sp : Sp) (t : TA) : TE := fun σ H Q => t σ H fun vs H1 => sp vs H1 Q E0
theorem pe_callZ (F : FnZ X.prog X.w X.K X.mg X.base k f fd ps cls d sp) (hz : Zc cls d oe) (hf : ∃ fv, oe.data = .fields fv) (hr : RoomH k (X.suite a ((a, oe) :: pn)).A) (hg : Gl X x) (hm : X.mg x = some (.ref f))
    (hk : PySem.W.keepIn X.K (.ref f) = true) (hb : Binds X.K fd ps []) (ha : PA (X.suite a ((a, oe) :: pn)) (e :: es) t) (hdb : (x == ("__debug__" : Str)) = false := by decide)
    (he : starEach (e :: es) X.env = (false, eval e X.env) :: starEach es X.env := by rfl) (hpl : (backTo pos (starEach es X.env)).any (·.1) = false := by rfl) :
    PE (X.suite a ((a, oe) :: pn)) (.Call (.Name x q) (e :: es) [] pos) (tCallZ (sp a) t) := by
  refine ⟨fun pins s σ H Q I h => ?_⟩
  refine wpAny_Call_Name_kw (ld_glob I hg hm ?_ hdb)
  refine PySem.W.callWith_K (h₀ := X.base) I.ok.mod.kin hk (thn (ha.run pos pins s σ H _ I h) fun us s1 ⟨vs, H1, I1, r, hq⟩ => ⟨I1.kIn, ?_⟩) he hpl
  have hl : us.length = ps.length := by rw [← r.length]; exact F.len _ _ _ _ _ hq
  have b := hb s1 us I1.kIn (by rw [List.append_nil]; exact hl)
  rw [List.append_nil] at b
  have P1 := I1.pin (a, oe) (List.mem_append_left _ List.mem_cons_self)
  have hpin : PinOk X.stack H1 s1 (a, oe) :=
    ⟨P1.1, P1.2.1, fun hm => (List.mem_cons.mp (I1.stkSub a hm)).elim P1.2.2.1 P1.2.2.2.1, P1.2.2.2.2⟩
  refine wpAny_call (codeAny_mono (F.run _ X.stack s1 H1 ⟨us, []⟩ us vs Q (a, oe) hr hz hf hpin I1.env0 b r hq) fun r s' hq => ?_)
  cases r with
  | error e =>
    exact (pass0 (X := X.suite a ((a, oe) :: pn)) pins σ _ _ e s' I1 hq)
  | ok fl =>
    cases fl with
    | ret u => exact I1.after hq
    | next => exact hq.elim
    | brk => exact hq.elim
    | cont => exact hq.elim
/-- isinstance of a pinned exception -/
def rIsP (K : PySem.W.Frag) (D a : Addr) (d : Option Addr) : List V → Hp → VK → Prop := fun xs H Q => ∃ (c : V) (u : Value) (b : Bool), xs = [.ref a, c] ∧ ClsV c u ∧
  (∀ dd, d = some dd → ∃ fs, H dd = some (.xd fs)) ∧ ExcC K D ∧ PySem.W.kitOne K (.ref D) u = some b ∧ Q (.bl b) H
theorem call_isP {D : Addr} (hp : (a, oe) ∈ X.pn) (hz : Zc (.ref D) d oe) (hf : ∃ fv, oe.data = .fields fv) : CallR X (.builtin "isinstance") (rIsP X.K D a d) := by
  intro pins s σ H xs us Q I r h
  obtain ⟨c, u, b, rfl, k, ed, T, e, q⟩ := h
  obtain ⟨u1, u2, rfl, r1, r2⟩ := vals2 r
  have e2 := k.eq r2
  subst e2
  obtain rfl : u1 = Value.ref a := r1
  have ho := (I.pin (a, oe) (List.mem_append_left _ hp)).1
  obtain ⟨od, J⟩ : ∃ od, PySem.W.InstAt s.heap a oe D od := by
    obtain ⟨fv, hv⟩ := hf
    obtain ⟨h1, h2⟩ := hz
    have hn : PySem.W.notCls oe = true := by unfold PySem.W.notCls; rw [hv] <;> rfl
    cases d with
    | none => exact ⟨none, ho, h1, hn, by rw [h2]; trivial⟩
    | some dd =>
      obtain ⟨fs, hd⟩ := ed dd rfl
      obtain ⟨mA, hns, _⟩ := (show ObjOk X.prog X.w H s.heap dd (.xd fs) from I.hok dd _ hd)
      obtain ⟨od, hod, _⟩ := lookIn_ns hns
      exact ⟨some od, ho, h1, hn, by rw [h2]; exact hod⟩
  exact PySem.W.kia_one (kitx_e T) I.kIn J e (fun z => nomatch z) fun tk => ⟨.bl b, H, I.tok tk, rfl, q⟩
end
end My

namespace My
open PySem PySem.Spec PyProof.Rows L2
/-! ### try with several clauses 'except X as n', of which the first always is the one -/
def wFst (K : PySem.W.Frag) (c : Value) (i : Nat) (ts : Addr → Value → Option Addr → TS) (D : Ends) : WX := fun cl dd st hp =>
  PySem.W.exmOne K cl c = some true ∧ ∀ a, hp a = none → ts a cl dd { nx := fun x y => D.nx (x.set i none) y, rt := D.rt, bk := fun x y => D.bk (x.set i none) y, ct := fun x y => D.ct (x.set i none) y } (st.set i (some (.ref a))) hp
section
variable {X : Cx} {x n : Str} {c : Value} {i : Nat} {body su : List Stmt} {b1 : Stmt} {np ps ps' : Pos} {more : List ExceptHandler} {tb : WX → TS} {ts : Addr → Value → Option Addr → TS}
theorem ps_try_fst (e1 : X.stack = X.env :: X.outer) (e2 : X.env.frame = some X.env.locals) (nd : X.N.Nodup) (ei : X.N[i]? = some n) (el : X.env.kindOf n = some .local) (nc : Names X x c)
    (run : ∀ (W : WX) (pl : List (Addr × Obj)) (xe : Value → Shared → Prop), Takes (X.tr pl xe) W → PassesOwn (model X.prog X.w) X.A X.env xe → PSs (X.tr pl xe) body (tb W))
    (suite : ∀ (a : Addr) (oe : Obj) (cl : Value) (dd : Option Addr) (pl : List (Addr × Obj)), Zc cl dd oe → (∃ vs, oe.data = .fields vs) → PSs (X.suite a ((a, oe) :: pl)) (b1 :: su) (ts a cl dd)) :
    PS X (.Try body (.ExceptHandler (some (.Name x np)) (some n) (b1 :: su) ps' :: more) [] [] ps) (fun D st hp => tb (wFst X.K c i ts D) D st hp) := by
  refine ⟨fun pl s st hp D inv yes => ?_⟩
  have good := inv.ok
  have fr : X.A.frames = some (X.env :: X.outer) := by rw [good.frames, e1]
  have lc : Loc X.env.scope n := .inl el
  refine wpAny_Try_except (wpAny_mono ((run (wFst X.K c i ts D) (X.pn ++ pl) (fun ex z1 => wpAny (model X.prog X.w) X.A (noteFrame ex X.env) (fun _ z2 => wpAny (model X.prog X.w) X.A (setFlight ex none) (fun _ z3 =>
    wpAny (model X.prog X.w) X.A (handleBy ex X.env (.ExceptHandler (some (.Name x np)) (some n) (b1 :: su) ps' :: more)) (SP X pl D) X.xe z3) X.xe z2) X.xe z1) (fun u z' got => ?_) PassesOwn.looking).run [] s st hp D (inv.toTry _) yes) (fun fl z1 end1 => ?_) (fun ex z1 w => w))
  · obtain ⟨a, gr, si, pl', st1, hp1, cl, dd, rfl, j0, nb, up, sky, na, os, ag, hit, wish⟩ := got
    have j1 : Inv X pl st1 hp1 si := j0.ofTry good
    have sk : Sky gr (X.env :: X.outer) a (Zc cl dd) X.env.locals z'.heap := by rw [← e1]; exact sky
    show wpAny _ X.A (noteFrame (.ref a) X.env) _ _ _
    refine Sky.land Zc.steady fr e2 sk fun k3 f3 u3 => ?_
    have j3 : Inv X pl st1 hp1 { z' with heap := k3 } := j1.landed nb f3.1 (up.trans u3) os ag
    obtain ⟨o3, w3, r3, t3, q3⟩ := f3.there
    have off : a ∉ frs (X.env :: X.outer) := fun m => by
      obtain ⟨_, o4, r4, none4⟩ := f3.2.2.1.mem m
      rw [r3] at r4; cases r4
      exact none4 _ q3
    have l3 : a ≠ X.env.locals := fun z => off (List.mem_filterMap.mpr ⟨X.env, List.mem_cons_self, by rw [e2, z]⟩)
    have f4 : a ∉ X.fs := fun m => by
      obtain ⟨v, hv, hq⟩ := List.mem_filterMap.mp m
      exact off (List.mem_filterMap.mpr ⟨v, List.mem_cons_of_mem _ hv, hq⟩)
    have s3 := j3.suite r3 q3 na l3 f4
    refine wpAny_handleBy_cons (codeAny_handlers_test ?_) (by intro q; cases q)
    have kind : PySem.W.Looks (model X.prog X.w) k3 (typeOf (.ref a)) cl := fun _ _ _ _ k q => wpAny_typeOf_ref (k _ _ r3) (by rw [t3.1]; exact q)
    have fits := PySem.W.exm_one (M := model X.prog X.w) (j3.kIn) kind hit
    have name : ∀ {Q E : Value → Shared → Prop}, Q c { z' with heap := k3 } → wpAny (model X.prog X.w) (X.A.mark (some (.ref a))) (eval (.Name x np) X.env) Q E { z' with heap := k3 } := fun q => by
      obtain ⟨g1, g2, g3 | ⟨g3, g4, g5⟩⟩ := nc
      · exact ld_glob (X := X.suite a ((a, o3) :: (X.pn ++ pl))) s3 g1 g3 q g2
      · exact ld_blt (X := X.suite a ((a, o3) :: (X.pn ++ pl))) s3 g1 g3 g4 q g5 g2
    refine name (fits.here (codeAny_handlers_suite_as (HandSPX.lands_againZ f3 fun k4 f5 u4 => ?_)))
    have j4 : Inv X pl st1 hp1 { z' with heap := k4 } := j1.landed nb f5.1 ((up.trans u3).trans u4) os ag
    obtain ⟨o5, w5, r5, t5, q5⟩ := f5.there
    have s4 := j4.suite r5 q5 na l3 f4
    refine store_ok (X := X.suite a ((a, o5) :: (X.pn ++ pl))) (v := .ref a) s4 nd ei lc rfl (fun z5 s5 => ?_) (.inr el)
    refine wpAny_mono ((suite a o5 cl dd (X.pn ++ pl) t5 ⟨_, q5⟩).run [] z5 _ hp1 _ s5 (wish a na)) (fun fl z6 end6 => ?_) (fun _ _ z => False.elim z)
    have out : ∀ {st6 : L2.St} {hp6 : Hp} {Q : Shared → Prop}, Inv (X.suite a ((a, o5) :: (X.pn ++ pl))) [] st6 hp6 z6 → (∀ z7, Inv X pl (st6.set i none) hp6 z7 → Q z7) →
        wpAny (model X.prog X.w) X.A (do bindName X.env n .none; unbindBehindTheSuite X.env n ps') (fun _ z7 => Q z7) X.xe z6 := fun s6 q => gone_ok (s6.unsuite good) nd ei el q
    cases fl with
    | next => obtain ⟨_, _, s6, q6⟩ := end6; exact out s6 fun _ j7 => ⟨_, _, j7, q6⟩
    | brk => obtain ⟨_, _, s6, q6⟩ := end6; exact out s6 fun _ j7 => ⟨_, _, j7, q6⟩
    | cont => obtain ⟨_, _, s6, q6⟩ := end6; exact out s6 fun _ j7 => ⟨_, _, j7, q6⟩
    | ret u => obtain ⟨_, _, _, s6, r6, q6⟩ := end6; exact out s6 fun _ j7 => ⟨_, _, _, j7, r6, q6⟩
  · cases fl with
    | next => obtain ⟨_, _, j, q⟩ := end1; exact wpAny_execs_nil ⟨_, _, j.ofTry good, q⟩
    | brk => obtain ⟨_, _, j, q⟩ := end1; exact ⟨_, _, j.ofTry good, q⟩
    | cont => obtain ⟨_, _, j, q⟩ := end1; exact ⟨_, _, j.ofTry good, q⟩
    | ret u => obtain ⟨_, _, _, j, r, q⟩ := end1; exact ⟨_, _, _, j.ofTry good, r, q⟩
end
/-! ### a new instance whose __init__ may raise, in a try -/
def tMkS (C : Addr) (sp : Sp) (dvs : List V) (E : L2.St → XK) (t : TA) : TE := fun st hp Q => t st hp fun vs h1 => ∀ x dx, h1 x = none → h1 dx = none → dx ≠ x →
  sp (.ref x :: (vs ++ dvs)) (upd (upd h1 dx (.own x)) x (.ins C dx [])) (fun v h2 => v = .non ∧ Q (.ref x) h2) (E st)
section
variable {X : Cx} {CX : CXT} {k : Nat} {f C : Addr} {fd : FuncData} {ps : List Str} {sp : Sp} {dvs : List V} {ds : List Value} {E : L2.St → XK} {x : Str} {p pos : Pos} {e : Expr} {es : List Expr} {t : TA}
theorem pe_mkS (M : Mk X.K C f) (F : FnOk X.prog X.w X.K X.mg X.base CX k f fd ps sp) (room : Room (k + 1) X.A) (gl : Gl X x) (gm : X.mg x = some (.ref C)) (bi : Binds X.K fd ps ds) (dv : Vals dvs ds) (let_ : ∀ st, PassesAt CX X st (E st))
    (arg : PA X (e :: es) t) (nb : (x == ("__debug__" : Str)) = false := by decide) (st1 : starEach (e :: es) X.env = (false, eval e X.env) :: starEach es X.env := by rfl) (st2 : (backTo pos (starEach es X.env)).any (·.1) = false := by rfl) :
    PE X (.Call (.Name x p) (e :: es) [] pos) (tMkS C sp dvs E t) := by
  refine ⟨fun pl z st hp Q inv yes => wpAny_Call_Name_kw (ld_glob inv gl gm ?_ nb)⟩
  refine PySem.W.callWith_K (h₀ := X.base) inv.ok.mod.kin M.kp (thn (arg.run pos pl z st hp _ inv yes) fun us z1 ⟨vs, h1, j1, r, q⟩ => ⟨j1.kIn, ?_⟩) st1 st2
  have go := q (z1.heap.objs.size + 1) z1.heap.objs.size (j1.hok.fresh (Nat.le_succ _)) (j1.hok.fresh (Nat.le_refl _)) (Nat.ne_of_lt (Nat.lt_succ_self _))
  have j2 := Inv.made (C := C) j1
  have rr : Vals (V.ref (z1.heap.objs.size + 1) :: (vs ++ dvs)) (Value.ref (z1.heap.objs.size + 1) :: (us ++ ds)) := .cons rfl (r.append dv)
  have ll : (Value.ref (z1.heap.objs.size + 1) :: us ++ ds).length = ps.length := by
    have w := rr.length
    rw [F.len _ _ _ _ go] at w
    exact w.symm
  refine wpAny_call (make_map (f := f) j1.kIn M.makes M.init (beq_iff_eq.mp M.fn) (codeAny_mono (F.run _ X.stack _ _ ⟨Value.ref (z1.heap.objs.size + 1) :: us, []⟩ (Value.ref (z1.heap.objs.size + 1) :: (us ++ ds)) _ _ (E st) (room.make C us [])
    (j2.env0.make C us []) (bi _ (Value.ref (z1.heap.objs.size + 1) :: us) j2.kIn ll) rr go) fun res z2 got => ?_))
  cases res with
  | error ex => exact let_ st pl _ _ ex z2 j2 got
  | ok fl =>
    cases fl with
    | ret u =>
      obtain ⟨v, h3, j3, rv, ev, q3⟩ := j2.after got
      subst ev
      exact ⟨rv, ⟨V.ref (z1.heap.objs.size + 1), h3, j3, rfl, q3⟩⟩
    | next => exact False.elim got
    | brk => exact False.elim got
    | cont => exact False.elim got
end
/-! ### e.f in the suite, e the exception that it handles -/
def tErrS (C : Addr) (f : Str) (a : Addr) (cl : Value) (dd : Option Addr) (te : TE) : TE := fun st hp Q => te st hp fun x h1 => x = .ref a ∧ cl = .ref C ∧ ∃ (d : Addr) (v : V), dd = some d ∧ h1 d = some (.xd [(f, v)]) ∧ Q v h1
theorem pe_errS {X : Cx} {C fI : Addr} {cn f : Str} {a : Addr} {oe : Obj} {cl : Value} {dd : Option Addr} {pl : List (Addr × Obj)} {e : Expr} {te : TE} {pos : Pos} (T : ErrTxt X.K X.mg cn f C fI) (zc : Zc cl dd oe) (fl : ∃ vs, oe.data = .fields vs)
    (hz : PE (X.suite a ((a, oe) :: pl)) e te) (ab : attributeBase e f X.env (eval e X.env) = eval e X.env := by rfl) : PE (X.suite a ((a, oe) :: pl)) (.Attribute e f pos) (tErrS C f a cl dd te) := by
  refine ⟨fun pl2 z st hp Q inv yes => attr_of ab (thn (hz.run pl2 z st hp _ inv yes) fun u z1 got => ?_)⟩
  obtain ⟨x, h1, j1, rx, rfl, rfl, d, v, rfl, ed, q⟩ := got
  obtain rfl : u = Value.ref a := rx
  obtain ⟨at_, _⟩ := j1.pin (a, oe) (List.mem_append_left _ List.mem_cons_self)
  obtain ⟨mA, hns, hr⟩ := (show ObjOk X.prog X.w h1 z1.heap d (.xd [(f, v)]) from j1.hok d _ ed)
  obtain ⟨od, hod, hl⟩ := lookIn_ns hns
  have l : List.lookup f [((f : Str), v)] = some v := by simp [List.lookup]
  obtain ⟨u, hu, ru⟩ := RelO.some_of (v := v) (o := mA f) (by rw [← l]; exact hr f)
  have J : PySem.W.InstAt z1.heap a oe C (some od) := ⟨at_, zc.1, (by obtain ⟨w, hw⟩ := fl; show PySem.W.notCls oe = true; unfold PySem.W.notCls; rw [hw]), (by rw [zc.2]; exact hod)⟩
  exact HandSPX.exc_get j1.kIn J T.ga T.gg T.exC (PySem.W.findObj_own T.hdC T.noN rfl (by rw [hl, hu])) (handed_of ru) ⟨v, h1, j1.tok _, ru, q⟩
end My

namespace SL
open PySem PySem.Spec PyProof.Rows L2 SX
/-! ### texts by their code points: rules -/
variable {X : Cx}
theorem pe_strL {x : Str} {j pos} (l : List Nat) (h : x = S l) : PE X (.Constant (.str x) j pos) (tC (.str (S l))) := by
  subst h
  exact pe_str
theorem V_str_S {a b : List Nat} : decide (V.str (S a) = V.str (S b)) = decide (a = b) := by
  rw [decide_eq_decide]
  exact ⟨fun h => S_inj (V.str.inj h), fun h => by rw [h]⟩
def rEqL : R2 := fun x y H Q => ∃ a b, x = .str (S a) ∧ y = .str (S b) ∧ Q (.bl (decide (a = b))) H
def rNeL : R2 := fun x y H Q => ∃ a b, x = .str (S a) ∧ y = .str (S b) ∧ Q (.bl (!decide (a = b))) H
theorem op_eqL : OpR X (compareOp .Eq) rEqL := by
  intro pins s σ H x y v u Q I rx ry h
  obtain ⟨a, b, rfl, rfl, q⟩ := h
  exact op_eq pins s σ H _ _ v u Q I rx ry ⟨rfl, by rw [V_str_S]; exact q⟩
theorem op_neL : OpR X (compareOp .NotEq) rNeL := by
  intro pins s σ H x y v u Q I rx ry h
  obtain ⟨a, b, rfl, rfl, q⟩ := h
  exact op_ne pins s σ H _ _ v u Q I rx ry ⟨rfl, by rw [V_str_S]; exact q⟩
theorem sz {n : Nat} (h : n ≤ 100000) : n ≤ sizeLine := Nat.le_trans h (by decide)
def rAddL : R2 := fun x y H Q => ∃ a b, x = .str (S a) ∧ y = .str (S b) ∧ a.length + b.length ≤ 100000 ∧ Q (.str (S (a ++ b))) H
theorem op_addL : OpR X (binaryOp .Add) rAddL := by
  intro pins s σ H x y v u Q I rx ry h
  obtain ⟨a, b, rfl, rfl, hz, q⟩ := h
  exact op_add_str pins s σ H _ _ v u Q I rx ry ⟨S a, S b, rfl, rfl, by rw [S_len, S_len]; exact sz hz, by rw [S_cat]; exact q⟩
theorem iop_addL : OpR X (inplaceOp .Add) rAddL := by
  intro pins s σ H x y v u Q I rx ry h
  obtain ⟨a, b, rfl, rfl, hz, q⟩ := h
  exact iop_add_str pins s σ H _ _ v u Q I rx ry ⟨S a, S b, rfl, rfl, by rw [S_len, S_len]; exact sz hz, by rw [S_cat]; exact q⟩
theorem occ_nil (a : List Nat) : (!(Builtin.Str.occurrences (S a) (S []) 0 (S a).length 1).isEmpty) = true :=
  (StrLaws.found_iff (S a) (S [])).mpr ⟨0, Nat.zero_le _, by rw [StrLaws.subAt_eq]; rfl⟩
/-- is b, a sign or nothing, in a -/
def inL (b a : List Nat) : Bool := match b with
  | [] => true
  | c :: _ => decide (c ∈ a)
theorem occ_in {b a : List Nat} (h : b.length ≤ 1) : (!(Builtin.Str.occurrences (S a) (S b) 0 (S a).length 1).isEmpty) = inL b a := by
  match b, h with
  | [], _ => exact occ_nil a
  | [c], _ => exact in_one a c
  | _ :: _ :: _, h => simp at h
def rInL : R2 := fun x y H Q => ∃ b a, x = .str (S b) ∧ y = .str (S a) ∧ b.length ≤ 1 ∧ Q (.bl (inL b a)) H
def rNotInL : R2 := fun x y H Q => ∃ b a, x = .str (S b) ∧ y = .str (S a) ∧ b.length ≤ 1 ∧ Q (.bl (!inL b a)) H
theorem op_inL : OpR X (compareOp .In) rInL := by
  intro pins s σ H x y v u Q I rx ry h
  obtain ⟨b, a, rfl, rfl, hz, q⟩ := h
  exact op_in_str pins s σ H _ _ v u Q I rx ry ⟨S b, S a, rfl, rfl, by rw [occ_in hz]; exact q⟩
theorem op_notInL : OpR X (compareOp .NotIn) rNotInL := by
  intro pins s σ H x y v u Q I rx ry h
  obtain ⟨b, a, rfl, rfl, hz, q⟩ := h
  exact op_notin_str pins s σ H _ _ v u Q I rx ry ⟨S b, S a, rfl, rfl, by rw [occ_in hz]; exact q⟩
/-- an item, from the left -/
def rIxSL : R2 := fun x y H Q => ∃ a i, x = .str (S a) ∧ y = .int i ∧ a.length ≤ 100000 ∧ 0 ≤ i ∧ i < a.length ∧ ∀ c, a[i.toNat]? = some c → Q (.str (S [c])) H
theorem ix_strL : IxR X rIxSL := by
  have hh : ∀ {x y : V} {H : Hp} {Q : VK}, rIxSL x y H Q → rIxS x y H Q := by
    intro x y H Q h
    obtain ⟨a, i, rfl, rfl, hz, h0, h1, q⟩ := h
    obtain ⟨n, rfl⟩ := Int.eq_ofNat_of_zero_le h0
    have hn : n < a.length := by omega
    have e : a[n]? = some a[n] := List.getElem?_eq_getElem hn
    exact ⟨S a, (n : Int), a[n], rfl, rfl, by rw [S_len]; exact sz hz, atI_nat e, q _ e⟩
  intro value slice pins s σ H x y v u Q I rx ry h hsub
  exact ix_str value slice pins s σ H x y v u Q I rx ry (hh h) hsub
/-- slices with bounds from the left -/
def cutL (a : List Nat) (lo hi : Option Int) : List Nat := match hi with
  | none => a.drop (lo.getD 0).toNat
  | some h => (a.take h.toNat).drop (lo.getD 0).toNat
theorem sIx_pos {n d : Nat} {i : Int} (h : 0 ≤ i) : HT.sIx n d (some i) = min i.toNat n := by
  unfold HT.sIx
  first
    | (rw [if_neg (by omega)]; omega)
    | (simp only; split <;> omega)
theorem cutS_L {a : List Nat} {lo hi : Option Int} (h1 : 0 ≤ lo.getD 0) (h2 : 0 ≤ hi.getD 0) : cutS (S a) lo hi = S (cutL a lo hi) := by
  have hl : (S a).length = a.length := S_len a
  have e0 : HT.sIx (S a).length 0 lo = min (lo.getD 0).toNat a.length := by
    rw [hl]
    cases lo with
    | none => show (0 : Nat) = _; simp
    | some i => exact sIx_pos h1
  unfold cutS
  rw [e0]
  refine congrArg S ?_
  show (a.drop _).take _ = _
  cases hi with
  | none =>
    have e1 : HT.sIx (S a).length (S a).length none = a.length := by rw [hl]; rfl
    rw [e1]
    show _ = a.drop (lo.getD 0).toNat
    rw [List.take_of_length_le (by rw [List.length_drop]; omega)]
    by_cases z : (lo.getD 0).toNat ≤ a.length
    · rw [Nat.min_eq_left z]
    · rw [Nat.min_eq_right (by omega), List.drop_eq_nil_of_le (Nat.le_refl _), List.drop_eq_nil_of_le (by omega)]
  | some h =>
    have e1 : HT.sIx (S a).length (S a).length (some h) = min h.toNat a.length := by rw [hl]; exact sIx_pos h2
    rw [e1]
    show _ = (a.take h.toNat).drop (lo.getD 0).toNat
    generalize (lo.getD 0).toNat = p
    generalize h.toNat = q
    rw [← List.drop_take]
    have ht : a.take (min q a.length) = a.take q := by
      by_cases z : q ≤ a.length
      · rw [Nat.min_eq_left z]
      · rw [Nat.min_eq_right (by omega), List.take_of_length_le (Nat.le_refl _), List.take_of_length_le (by omega)]
    rw [ht]
    by_cases z : p ≤ a.length
    · rw [Nat.min_eq_left z]
    · rw [Nat.min_eq_right (by omega), List.drop_eq_nil_of_le (by rw [List.length_take]; omega), List.drop_eq_nil_of_le (by rw [List.length_take]; omega)]
def rSlL : V → Option Int → Option Int → Hp → VK → Prop := fun x lo hi H Q => ∃ a, x = .str (S a) ∧ (a.length ≤ 100000 ∧ 0 ≤ lo.getD 0 ∧ 0 ≤ hi.getD 0) ∧ Q (.str (S (cutL a lo hi))) H
theorem sl_L : SlR X rSlL := by
  intro pins s σ H x v vl vu lo hi sl Q I rx hs pl pu h
  obtain ⟨a, rfl, ⟨hz, h1, h2⟩, q⟩ := h
  exact sl_str pins s σ H _ v vl vu lo hi sl Q I rx hs pl pu ⟨S a, rfl, by rw [S_len]; exact sz hz, by rw [cutS_L h1 h2]; exact q⟩
theorem call_lenL : CallR X (.builtin "len") (fun xs H Q => ∃ a, xs = [.str (S a)] ∧ a.length ≤ 100000 ∧ Q (.int a.length) H) := by
  intro pins s σ H xs us Q I r h
  obtain ⟨a, rfl, hz, q⟩ := h
  exact call_len_str pins s σ H _ us Q I r ⟨S a, rfl, by rw [S_len]; exact sz hz, by rw [S_len]; exact q⟩
end SL

namespace My
open PySem PySem.Spec PyProof.Rows L2
/-! ### a token is out behind a written text; a walk whose body wants one -/
section
variable {X : Cx}
theorem tup_tok {x : Str} {j : Nat} {c0 pos : Pos} {k : Nat} {es : List Expr} {t : TA} (rest : PA X es t) {pl : List (Addr × Obj)} {z : Shared} {st : L2.St} {hp : Hp} {Q : VK} (inv : Inv X pl st hp z) (yes : tTup (tCons (tC (.str x)) t) st hp Q)
    (sp : starEach (.Constant (.str x) j c0 :: es) X.env = (false, eval (.Constant (.str x) j c0) X.env) :: starEach es X.env := by rfl) :
    wpAny (model X.prog X.w) X.A (eval (.Tuple (.Constant (.str x) j c0 :: es) k pos) X.env) (fun v z1 => 1 ≤ z1.toks ∧ EP X pl st Q v z1) X.xe z := by
  refine Tuple_ ?_
  rw [sp]
  show wpAny _ _ (spliced ((false, eval (.Constant (.str x) j c0) X.env) :: backTo pos (starEach es X.env))) _ _ z
  refine Calls.spliced_cons (Calls.Constant_str ?_)
  have go := wpAny_toks_of (n := 1) (show 1 ≤ z.toks + 1 by omega) (rest.run pos pl { z with toks := z.toks + 1 } st hp _ (inv.tok _) yes)
  refine wpAny_mono go (fun us z1 got => ?_) fun _ _ w => w.2
  obtain ⟨k1, xs, h1, j1, r1, lz, q⟩ := got
  have rr : Vals (V.str x :: xs) (Value.str x z.toks :: us) := .cons ⟨_, rfl⟩ r1
  refine wpAny_mono (wpAny_toks_of (n := 1) k1 (Q := EP X pl st Q) (E := X.xe) (wpAny_newObj_type ?_ (by show (Value.str x z.toks :: us).toArray.size ≤ sizeLine; rw [List.size_toArray, ← rr.length]; exact lz))) (fun _ _ w => w) fun _ _ w => w.2
  have free : h1 z1.heap.objs.size = none := j1.hok.fresh (Nat.le_refl _)
  refine ⟨.ref z1.heap.objs.size, upd h1 z1.heap.objs.size (.tup (V.str x :: xs)), j1.laid (t' := z1.toks) (fun b u e => Heap.get?_push_of_some _ e) (Nat.le_refl _) ?_, rfl, q _ free⟩
  exact ⟨lz, _, rr, ⟨_, Heap.get?_push_size _ rfl, rfl, _, rfl⟩⟩
/-- tg = ('..', ..): then what wants a token -/
theorem pss_tupT {x : Str} {j : Nat} {c0 p1 pos : Pos} {k : Nat} {tg : Expr} {es : List Expr} {more : List Stmt} {t : TA} {g : TG} {u : TS} (rest : PA X es t) (hg : PG X tg g) (h2 : PSsT X more u)
    (hs : swapsWithSole [tg] (.Tuple (.Constant (.str x) j c0 :: es) k p1) pos.line X.env = pure false := by rfl) (hw : swappedStores [tg] (.Tuple (.Constant (.str x) j c0 :: es) k p1) X.env = pure none := by rfl)
    (h1 : (assignEach [tg] X.env).map (·.2) = [assign tg X.env] := by rfl) (sp : starEach (.Constant (.str x) j c0 :: es) X.env = (false, eval (.Constant (.str x) j c0) X.env) :: starEach es X.env := by rfl) :
    PSs X (.Assign [tg] (.Tuple (.Constant (.str x) j c0 :: es) k p1) pos :: more) (tSeq (tAsg (tTup (tCons (tC (.str x)) t)) g) u) := by
  refine ⟨fun pl z st hp D inv yes => wpAny_execs_cons (wpAny_Assign_stores (wpAny_mono (tup_tok rest inv (show tTup (tCons (tC (V.str x)) t) st hp (fun y h1 => g y st h1 (u D)) from yes) sp) (fun v z1 got => ?_) fun _ _ w => w) hs hw)⟩
  obtain ⟨k1, xv, h3, j1, r1, q⟩ := got
  rw [h1]
  refine wpAny_mono (wpAny_toks_of (n := 1) k1 (hg.run pl z1 st h3 xv v _ j1 r1 q)) (fun _ z2 w => ?_) fun _ _ w => w.2
  obtain ⟨k2, st2, h4, j2, q2⟩ := w
  exact h2 pl z2 st2 h4 D k2 j2 q2
theorem pst_forT {tg iter : Expr} {body : List Stmt} {wi : TI} {g : TG} {tb : TS} {pos : Pos} (po : PassesOwn (model X.prog X.w) X.A X.env X.xe) (ca : X.calm = true) (wk : PI X tg iter wi) (hg : PG X tg g) (hb : PSsT X body tb)
    (nf : ∀ x, foldedSetIterable iter X.env x = pure x := by intro _; rfl) : PST X (.For tg iter body [] pos) (tFor wi g tb) := by
  intro pl z st hp D k0 inv yes
  refine wpAny_For (wpAny_mono (wpAny_toks_of (n := 1) k0 (wk.run pl z st hp _ inv yes)) (fun v z1 got => wpAny_mono (wpAny_toks_of (n := 1) got.1 got.2) (fun itv z2 got2 => ?_) fun _ _ w => w.2) fun _ _ w => w.2) nf
  obtain ⟨k2, it, fp, tn, J, h2, rfl, j2, tu, s2, f2, W, ⟨m0, w0⟩, turn⟩ := got2
  have own : ∀ {h' : Hp}, (∀ b ∈ fp, h' b = none) → ∀ b ∈ fp, FpOk X pl h' b := fun hn b hb => ⟨hn b hb, (f2 b hb).2⟩
  refine codeAny_forLoop_any (fun n z' => ∃ i st' h', 1 ≤ z'.toks ∧ Inv X pl st' h' z' ∧ tn i z'.heap ∧ (∀ b ∈ fp, h' b = none) ∧ W i n st' h') ?_ m0 ⟨0, st, h2, k2, j2, s2, fun b hb => (f2 b hb).1, w0⟩
  rintro n z3 ⟨i, st3, h3, k3, j3, s3, f3, w3⟩
  rcases turn i n st3 h3 w3 with ⟨stop, qn⟩ | ⟨go, N, hN, step⟩
  · refine wpAny_passesOwn po (thn (tu.done X rfl rfl rfl ca i pl z3 st3 h3 X.xe j3 (own f3) s3 stop) fun r z4 ⟨hr, j4⟩ => ?_)
    subst hr
    exact wpAny_execs_nil ⟨st3, h3, j4, qn⟩
  · refine wpAny_passesOwn po (wpAny_mono (wpAny_toks_of (n := 1) k3 (tu.item X rfl rfl rfl ca i pl z3 st3 h3 X.xe j3 (own f3) s3 go)) (fun r z4 ⟨k4, u, hr, h4⟩ => ?_) fun _ _ w => w.2)
    subst hr
    refine wpAny_passesOwn po (wpAny_mono (wpAny_toks_of (n := 1) k4 h4) (fun _ z5 ⟨k5, x, h5, j5, r5, y5, s5, f5⟩ => ?_) fun _ _ w => w.2)
    have j5' := j5.pinned (own f5) (tu.obj _ _ s5)
    refine wpAny_passesOwn po (wpAny_mono (wpAny_toks_of (n := 1) k5 (hg.run _ z5 st3 h5 x u _ j5' r5 (step x h5 y5))) (fun _ z6 ⟨k6, st6, h6, j6, q6⟩ => ?_) fun _ _ w => w.2)
    refine wpAny_passesOwn po (wpAny_mono (wpAny_toks_of (n := 1) k6 (hb _ z6 st6 h6 _ k6 j6 q6)) (fun f z7 ⟨k7, q7⟩ => ?_) fun _ _ w => w.2)
    have next : ∀ {st7 : L2.St} {h7 : Hp}, Inv X (pl ++ pinsAt fp z5.heap) st7 h7 z7 → N st7 h7 → ∃ m, m < n ∧ ∃ i st' h', 1 ≤ z7.toks ∧ Inv X pl st' h' z7 ∧ tn i z7.heap ∧ (∀ b ∈ fp, h' b = none) ∧ W i m st' h' := fun {st7 h7} j7 n7 => by
      obtain ⟨m', hm, w7⟩ := hN st7 h7 n7
      have pinned : ∀ b ∈ fp, ∀ o, z5.heap.get? b = some o → (b, o) ∈ X.pn ++ (pl ++ pinsAt fp z5.heap) := fun b hb o e => List.mem_append_right _ (List.mem_append_right _ (mem_pinsAt hb e))
      refine ⟨m', hm, i + 1, st7, h7, k7, j7.unpinned, tu.keep _ _ _ s5 fun b hb o e => (j7.pin (b, o) (pinned b hb o e)).1, fun b hb => ?_, w7⟩
      obtain ⟨o, e, _⟩ := tu.obj _ _ s5 b hb
      exact (j7.pin (b, o) (pinned b hb o e)).2.1
    cases f with
    | next => obtain ⟨_, _, j7, n7⟩ := q7; exact next j7 n7
    | cont => obtain ⟨_, _, j7, n7⟩ := q7; exact next j7 n7
    | brk => obtain ⟨_, _, j7, q8⟩ := q7; exact ⟨_, _, j7.unpinned, q8⟩
    | ret v => obtain ⟨_, _, _, j7, r7, q8⟩ := q7; exact ⟨_, _, _, j7.unpinned, r7, q8⟩
theorem pst_setT {i : Nat} {x : Str} {e : Expr} {te : TE} {p1 pos : Pos} (nd : X.N.Nodup) (ei : X.N[i]? = some x) (lc : Loc X.env.scope x) (he : PET X e te) (hs : swapsWith e (some (.Name x p1)) pos.line X.env = pure false := by rfl)
    (hf : X.fn x = true ∨ X.env.scope.names.lookup x = some .local := by first | exact .inl rfl | exact .inr rfl | assumption) : PST X (.Assign [.Name x p1] e pos) (tAsg te (gName i)) := by
  intro pl z st hp D k0 inv yes
  refine wpAny_Assign_Name (thn (he pl z st hp _ k0 inv yes) fun v z1 ⟨y, h1, j1, r1, q⟩ => ?_) hs
  exact store_ok j1 nd ei lc r1 (fun z2 j2 => ⟨_, h1, j2, q⟩) hf
end
end My

namespace My
open PySem PySem.Spec PyProof.Rows L2
/-- dict(zip(ks, xs)): two lists, the first one of texts -/
def tDZ (K : PySem.W.Frag) (t : TA) : TE := fun σ H Q => t σ H fun vs H1 => ∃ (a b : Addr) (ks : List Str) (xs : List V), vs = [.ref a, .ref b] ∧ SqL K H1 a (ks.map V.str) ∧ SqL K H1 b xs ∧
  ∀ p, H1 p = none → Q (.ref p) (upd H1 p (.dK (mergeK [] ((ks.zip xs).map fun kv => (Sum.inr kv.1, kv.2)))))
theorem kv_zip : ∀ {ks : List Str} {xs : List V} {us ws : List Value}, Vals (ks.map V.str) us → Vals xs ws →
    ∃ prs : List (Key × Value), KV ((ks.zip xs).map fun kv => ((Sum.inr kv.1 : Key), kv.2)) prs ∧ prs.length = min us.length ws.length ∧
      ∀ (i : Nat) (key v : Value), us[i]? = some key → ws[i]? = some v → ∃ k, prs[i]? = some (k, v) ∧ keyIs k key = true
  | [], xs, us, ws, h1, _ => by
    cases h1
    exact ⟨[], .nil, by simp, fun i key v h => by simp at h⟩
  | k :: ks, [], us, ws, h1, h2 => by
    cases h2
    exact ⟨[], .nil, by simp, fun i key v _ h => by simp at h⟩
  | k :: ks, x :: xs, us, ws, h1, h2 => by
    cases h1 with
    | cons r t =>
      cases h2 with
      | cons r2 t2 =>
        obtain ⟨prs, q1, q2, q3⟩ := kv_zip t t2
        obtain ⟨tk, rfl⟩ := (show ∃ t, _ = Value.str k t from r)
        rename_i u _
        refine ⟨(Sum.inr k, u) :: prs, .cons ⟨rfl, r2⟩ q1, ?_, ?_⟩
        · simp only [List.length_cons, q2]; omega
        · intro i key v e1 e2
          cases i with
          | zero =>
            simp at e1 e2
            subst e1 e2
            exact ⟨_, rfl, by simp [keyIs, Value.isStrOf]⟩
          | succ i =>
            simp at e1 e2
            obtain ⟨k', e3, e4⟩ := q3 i key v e1 e2
            exact ⟨k', by simpa using e3, e4⟩
section
variable {X : Cx}
theorem pe_dictZip {e1 e2 : Expr} {ta : TA} {p pos p2 pos2 : Pos} (hc : X.calm = true) (hg : Gl X "dict") (hm : X.mg "dict" = none) (hg2 : Gl X "zip") (hm2 : X.mg "zip" = none) (ha : PA X [e1, e2] ta)
    (hs : starEach [e1, e2] X.env = (false, eval e1 X.env) :: starEach [e2] X.env := by rfl) (hpl : (backTo pos2 (starEach [e2] X.env)).any (·.1) = false := by rfl)
    (hs2 : starEach [(.Call (.Name "zip" p2) [e1, e2] [] pos2)] X.env = (false, eval (.Call (.Name "zip" p2) [e1, e2] [] pos2) X.env) :: starEach [] X.env := by rfl) :
    PE X (.Call (.Name "dict" p) [.Call (.Name "zip" p2) [e1, e2] [] pos2] [] pos) (tDZ X.K ta) := by
  refine ⟨fun pins s σ H Q I h => ?_⟩
  refine wpAny_Call_Name_kw (ld_blt I hg hm PyProof.Rows.boot_dict ?_)
  refine PyProof.Rows.callWith_type1 ?_ hs2 (by rfl)
  rw [hs2]
  show wpAny _ _ (spliced ((false, eval _ X.env) :: backTo pos (starEach [] X.env))) _ _ s
  refine Calls.spliced_cons ?_
  refine wpAny_Call_Name_kw (ld_blt I hg2 hm2 PyProof.Rows.boot_zip ?_)
  refine PyProof.Rows.callWith_type1 (thn (ha.run pos2 pins s σ H _ I h) fun us s1 hh => ?_) hs hpl
  obtain ⟨vs, H1, I1, r1, a, b, ks, xs, rfl, hqx, hqy, q⟩ := hh
  cases r1 with
  | cons r rr =>
    cases rr with
    | cons r' rr =>
      cases rr
      cases r
      cases r'
      obtain ⟨its, rv, p1, _⟩ := I1.list hqx
      obtain ⟨its2, rv2, p2, hz2⟩ := I1.list hqy
      have la : a < s1.heap.objs.size := p1.lt
      have lb : b < s1.heap.objs.size := p2.lt
      refine call_zip_2 p1.isList p2.isList fun h' hz hTI hTO hi1 hi2 hsz hk => ?_
      refine Calls.spliced_nil ?_
      obtain ⟨prs, rel, hl, hpr⟩ := kv_zip rv rv2
      have P := PairArg.zip (prog := X.prog) (w := X.w) _ _ _ _ _ _ _ (PySem.W.ktu_apart s1.heap.objs.size a b la lb) its.toArray its2.toArray
      have hlen : prs.length = min its.toArray.size its2.toArray.size := by simpa using hl
      refine PySem.call_dict_pairs (knd := mixKind X.prog X.w) (kvs := prs) (s := { s1 with heap := h' }) P (I.ok.hd hc) ⟨hz, hTI, ⟨_, _, hTO⟩, hi1, hi2, p1.isList.at fun o e => hk _ o e, p2.isList.at fun o e => hk _ o e⟩ ⟨hlen, ?_⟩ ?_ ?_
      · rintro i key v ⟨e3, e4⟩
        exact hpr i key v (by simpa using e3) (by simpa using e4)
      · have e5 : xs.length = its2.length := rv2.length
        have e6 : its2.toArray.size = its2.length := by simp
        rw [e6]
        exact Nat.le_trans (Nat.min_le_right _ _) (e5 ▸ hz2)
      · intro h'' tk hd hkk
        have old : ∀ c o, s1.heap.get? c = some o → h''.get? c = some o := fun c o e => by
          have lt := Heap.lt_size e
          refine hkk c o ?_ (hk c o e)
          intro hmem
          have e' : c = s1.heap.objs.size + 4 ∨ c = s1.heap.objs.size + 3 ∨ c = s1.heap.objs.size ∨ c = s1.heap.objs.size + 1 := by simpa using hmem
          have hle : s1.heap.objs.size ≤ c := by
            rcases e' with z | z | z | z
            · rw [z]; exact Nat.le_add_right _ _
            · rw [z]; exact Nat.le_add_right _ _
            · rw [z]; exact Nat.le_refl _
            · rw [z]; exact Nat.le_add_right _ _
          exact absurd lt (Nat.not_lt.mpr hle)
        have big : s1.heap.objs.size ≤ h'.objs.size := by omega
        have hm' : (h'.objs.size == sysModules) = false := by
          exact beq_eq_false_iff_ne.mpr (Nat.ne_of_gt (Nat.lt_of_lt_of_le I1.big big))
        have hlen2 : (mergeK [] ((ks.zip xs).map fun kv => ((Sum.inr kv.1 : Key), kv.2))).length ≤ sizeLine := by
          refine Nat.le_trans (length_mergeK _ []) ?_
          simp only [List.length_nil, List.length_map, List.length_zip]
          omega
        exact ⟨.ref h'.objs.size, _, I1.laid (t' := tk) old big (show ObjOk X.prog X.w _ _ _ (.dK (mergeK [] ((ks.zip xs).map fun kv => (Sum.inr kv.1, kv.2)))) from ⟨hlen2, hm', merged [] prs, KV.merge rel .nil, hd⟩), rfl, q _ (I1.hok.fresh big)⟩
end
end My

namespace My
open PySem PySem.Spec PyProof.Rows L2
/-! ### rules that leave the heap a letter: what stood stands, what is new is told -/
theorem sameNew {H : Hp} {x : Addr} {o : HO} (hx : H x = none) : Same H (upd H x o) := fun b u e => by
  rw [upd_ne (ne_of_none e hx)]
  exact e
section
variable {X : Cx}
/-- [a, b] -/
def tLstG (t : TA) : TE := fun σ H Q => t σ H fun xs H1 => xs.length ≤ sizeLine ∧ ∀ (p : Addr) (H' : Hp), H1 p = none → H' p = some (.lst xs) → Same H1 H' → Q (.ref p) H'
theorem pe_lstG {es : List Expr} {t : TA} {pos : Pos} (h : PA X es t) : PE X (.List es pos) (tLstG t) := by
  refine ⟨fun pins s σ H Q I hq => ?_⟩
  refine wpAny_List_spliced (thn (h.run pos pins s σ H _ I hq) fun us s1 hh => ?_)
  obtain ⟨xs, H1, I1, r, z, q⟩ := hh
  have hf : H1 s1.heap.objs.size = none := I1.hok.fresh (Nat.le_refl _)
  exact ⟨by rw [← r.length]; exact z, .ref s1.heap.objs.size, upd H1 s1.heap.objs.size (.lst xs),
    I1.laid (t' := s1.toks) (fun b u e => Heap.get?_push_of_some _ e) (Nat.le_refl _) (show ObjOk X.prog X.w _ _ _ (.lst xs) from ⟨z, us, 0, r, Heap.get?_push_size _ rfl⟩), rfl, q _ _ hf upd_same (sameNew hf)⟩
/-- xs + ys, two lists -/
def rCatG : R2 := fun x y H Q => ∃ l b xs zs, x = .ref l ∧ y = .ref b ∧ H l = some (.lst xs) ∧ H b = some (.lst zs) ∧ xs.length + zs.length ≤ sizeLine ∧
  ∀ (p : Addr) (H' : Hp), H p = none → H' p = some (.lst (xs ++ zs)) → Same H H' → Q (.ref p) H'
theorem op_catG : OpR X (binaryOp .Add) rCatG := fun pins s σ H x y v u Q I rx ry h => op_cat pins s σ H x y v u Q I rx ry (by
  obtain ⟨l, b, xs, zs, e1, e2, h1, h2, hz, q⟩ := h
  exact ⟨l, b, xs, zs, e1, e2, h1, h2, hz, fun p hp => q p _ hp upd_same (sameNew hp)⟩)
/-- a new error as a value -/
def tErrG (C : Addr) (f : Str) (t : TA) : TE := fun σ H Q => t σ H fun vs H1 => ∃ v, vs = [v] ∧
  ∀ (a d : Addr) (H' : Hp), H1 a = none → H' a = some (ExD C (some d) a) → H' d = some (.xd [(f, v)]) → Same H1 H' → Q (.ref a) H'
variable {C fI : Addr} {cn f : Str}
theorem pe_errG {a : Expr} {ta : TA} {p pos : Pos} {k : Nat} (T : ErrTxt X.K X.mg cn f C fI) (hr : Room k X.A) (ha : PA X [a] ta) (hg : Gl X cn)
    (hdb : (cn == ("__debug__" : Str)) = false := by decide)
    (he : starEach (a :: []) X.env = (false, eval a X.env) :: starEach [] X.env := by rfl) (hpl : (backTo pos (starEach [] X.env)).any (·.1) = false := by rfl) :
    PE X (.Call (.Name cn p) [a] [] pos) (tErrG C f ta) := by
  refine ⟨fun pins s σ H Q I h => ?_⟩
  refine wpAny_Call_Name_kw (ld_glob I hg T.gC ?_ hdb)
  refine PySem.W.callWith_K (h₀ := X.base) I.ok.mod.kin T.kC (thn (ha.run pos pins s σ H _ I h) fun us s1 hh => ?_) he hpl
  obtain ⟨vs, H1, I1, r1, v, ev, q1⟩ := hh
  subst ev
  refine ⟨I1.kIn, ?_⟩
  cases r1 with
  | cons rv rn =>
    cases rn
    exact err_run T hr (.inl ⟨rfl, rfl⟩) I1 rv fun a d h1 h2 h3 => q1 a d _ h1 upd_same (by rw [upd_ne h3.symm]; exact upd_same) (fun b o e => by
      rw [upd_ne (ne_of_none e h1), upd_ne (ne_of_none e h2)]; exact e)
theorem pe_errGK {kws : List Keyword} {tk : TA} {p pos : Pos} {k : Nat} (T : ErrTxt X.K X.mg cn f C fI) (hr : Room k X.A) (ha : PK X kws tk) (hg : Gl X cn)
    (hall : (backToKw pos (keywordEach kws X.env)).all (·.1.isSome) = true := by rfl)
    (hks : (backToKw pos (keywordEach kws X.env)).filterMap (·.1) = [f] := by rfl)
    (hdb : (cn == ("__debug__" : Str)) = false := by decide)
    (hpl : ((backTo pos (starEach [] X.env)).any (·.1) || (backToKw pos (keywordEach kws X.env)).any (·.1.isNone)) = false := by rfl) :
    PE X (.Call (.Name cn p) [] kws pos) (tErrG C f tk) := by
  refine ⟨fun pins s σ H Q I h => ?_⟩
  refine wpAny_Call_Name_kw (ld_glob I hg T.gC ?_ hdb)
  refine PySem.W.callWith_KW0 (h₀ := X.base) I.ok.mod.kin T.kC hall (thn (ha.run pos pins s σ H _ I h) fun us s1 hh => ?_) hpl
  obtain ⟨vs, H1, I1, r1, v, ev, q1⟩ := hh
  subst ev
  refine ⟨I1.kIn, ?_⟩
  rw [hks]
  cases r1 with
  | cons rv rn =>
    cases rn
    exact err_run T hr (.inr ⟨rfl, rfl⟩) I1 rv fun a d h1 h2 h3 => q1 a d _ h1 upd_same (by rw [upd_ne h3.symm]; exact upd_same) (fun b o e => by
      rw [upd_ne (ne_of_none e h1), upd_ne (ne_of_none e h2)]; exact e)
end
end My

namespace My
open PySem PySem.Spec PyProof.Rows L2
/-! ### the mathematics of formats with dollars, over lists of code points -/
def LET : List Nat := (Str.ofString "abcdefghijklmnopqrstuvwxyzABCDEFGHIJKLMNOPQRSTUVWXYZ").cps.toList
def DIG : List Nat := (Str.ofString "0123456789").cps.toList
def wordc (c : Nat) : Bool := decide (c ∈ LET) || (decide (c ∈ DIG) || decide (c = 95))
def leadN : List Nat → List Nat
  | [] => []
  | c :: r => if c ∈ DIG then [] else (c :: r).takeWhile wordc
/-- behind a dollar: the name, or none; and what is left -/
def dname (r : List Nat) : List Nat × List Nat :=
  if r.head? ≠ some 123 then (leadN r, r.drop (leadN r).length)
  else if (r.tail.drop (leadN r.tail).length).head? ≠ some 125 then ([], r.tail.drop (leadN r.tail).length)
  else (leadN r.tail, (r.tail.drop (leadN r.tail).length).tail)
inductive Pc where
  | txt (l : List Nat)
  | fld (n : List Nat)
def nms : List Pc → List (List Nat)
  | [] => []
  | .txt _ :: r => nms r
  | .fld n :: r => n :: nms r
theorem nms_app : ∀ (a b : List Pc), nms (a ++ b) = nms a ++ nms b
  | [], b => rfl
  | .txt _ :: r, b => nms_app r b
  | .fld n :: r, b => congrArg (n :: ·) (nms_app r b)
/-- what the reader makes of a format: its pieces, or a refusal -/
inductive Dp : List Nat → Option (List Pc) → Prop
  | nil : Dp [] (some [])
  | chr {c : Nat} {r : List Nat} {o : Option (List Pc)} : c ≠ 36 → Dp r o → Dp (c :: r) (o.map (Pc.txt [c] :: ·))
  | two {r : List Nat} {o : Option (List Pc)} : Dp r o → Dp (36 :: 36 :: r) (o.map (Pc.txt [36] :: ·))
  | bad {r : List Nat} : r.head? ≠ some 36 → (dname r).1 = [] → Dp (36 :: r) none
  | fld {r : List Nat} {o : Option (List Pc)} : r.head? ≠ some 36 → (dname r).1 ≠ [] → Dp (dname r).2 o → Dp (36 :: r) (o.map (Pc.fld (dname r).1 :: ·))
/-- a name of a field -/
structure Nm (n : List Nat) : Prop where
  ne : n ≠ []
  all : ∀ c ∈ n, wordc c = true
  hd : ∀ c, n.head? = some c → c ∉ DIG
/-- what begins with no sign of names -/
def Stop (r : List Nat) : Prop := ∀ c, r.head? = some c → wordc c = false
theorem takeW_app {n r : List Nat} (h : ∀ c ∈ n, wordc c = true) (s : Stop r) : (n ++ r).takeWhile wordc = n := by
  rw [List.takeWhile_append_of_pos h]
  cases r with
  | nil => simp
  | cons c r => rw [List.takeWhile_cons_of_neg (by rw [s c rfl]; decide)]; simp
theorem leadN_app {n r : List Nat} (h : Nm n) (s : Stop r) : leadN (n ++ r) = n := by
  cases n with
  | nil => exact absurd rfl h.ne
  | cons c n =>
    show (if c ∈ DIG then [] else (c :: (n ++ r)).takeWhile wordc) = _
    rw [if_neg (h.hd c rfl)]
    exact takeW_app (n := c :: n) h.all s
theorem word_ne {c : Nat} (h : wordc c = true) : c ≠ 36 ∧ c ≠ 123 ∧ c ≠ 125 := by
  refine ⟨?_, ?_, ?_⟩ <;> · intro e; subst e; revert h; decide +kernel
theorem Nm.head {n : List Nat} (h : Nm n) (r : List Nat) : ∃ c t, n ++ r = c :: t ∧ wordc c = true := by
  cases n with
  | nil => exact absurd rfl h.ne
  | cons c n => exact ⟨c, n ++ r, rfl, h.all c List.mem_cons_self⟩
theorem dname_plain {n r : List Nat} (h : Nm n) (s : Stop r) : dname (n ++ r) = (n, r) ∧ (n ++ r).head? ≠ some 36 := by
  obtain ⟨c, t, e, hw⟩ := h.head r
  have h1 : (n ++ r).head? ≠ some 123 := by rw [e]; intro q; exact (word_ne hw).2.1 (Option.some.inj q)
  refine ⟨?_, by rw [e]; intro q; exact (word_ne hw).1 (Option.some.inj q)⟩
  unfold dname
  rw [if_pos h1, leadN_app h s, List.drop_left]
theorem stop_brace {r : List Nat} : Stop (125 :: r) := fun c h => by
  have : 125 = c := Option.some.inj h
  subst this; decide +kernel
theorem stop_dollar {r : List Nat} : Stop (36 :: r) := fun c h => by
  have : 36 = c := Option.some.inj h
  subst this; decide +kernel
theorem stop_nil : Stop [] := fun _ h => nomatch h
theorem dname_brace {n r : List Nat} (h : Nm n) : dname (123 :: (n ++ 125 :: r)) = (n, r) := by
  unfold dname
  have e : (123 :: (n ++ 125 :: r) : List Nat).tail = n ++ 125 :: r := rfl
  rw [if_neg (fun q => q rfl), e, leadN_app h stop_brace, List.drop_left]
  rw [if_neg (fun q => q rfl)]
  rfl
/-- what is written rightly, with the names of its fields -/
inductive WF : List Nat → List (List Nat) → Prop
  | nil : WF [] []
  | chr {c : Nat} {r : List Nat} {ns : List (List Nat)} : c ≠ 36 → WF r ns → WF (c :: r) ns
  | two {r : List Nat} {ns : List (List Nat)} : WF r ns → WF (36 :: 36 :: r) ns
  | plain {n r : List Nat} {ns : List (List Nat)} : Nm n → Stop r → WF r ns → WF (36 :: (n ++ r)) (n :: ns)
  | brace {n r : List Nat} {ns : List (List Nat)} : Nm n → WF r ns → WF (36 :: 123 :: (n ++ 125 :: r)) (n :: ns)
theorem stop_app {x r : List Nat} (h1 : Stop x) (h2 : Stop r) : Stop (x ++ r) := by
  cases x with
  | nil => exact h2
  | cons c x => exact fun d hd => h1 d hd
theorem WF.app {x : List Nat} {ns : List (List Nat)} (h : WF x ns) {r : List Nat} {o : Option (List Pc)} (s : Stop r) (d : Dp r o) : ∃ ps, Dp (x ++ r) (o.map (ps ++ ·)) ∧ nms ps = ns := by
  induction h with
  | nil => exact ⟨[], by simpa using d, rfl⟩
  | @chr c r' ns hc _ ih =>
    obtain ⟨ps, q, e⟩ := ih
    refine ⟨.txt [c] :: ps, ?_, e⟩
    have := Dp.chr hc q
    simpa [Option.map_map, Function.comp_def] using this
  | @two r' ns _ ih =>
    obtain ⟨ps, q, e⟩ := ih
    refine ⟨.txt [36] :: ps, ?_, e⟩
    have := Dp.two q
    simpa [Option.map_map, Function.comp_def] using this
  | @plain n r' ns hn hs _ ih =>
    obtain ⟨ps, q, e⟩ := ih
    obtain ⟨q1, q2⟩ := dname_plain hn (stop_app hs s)
    refine ⟨.fld n :: ps, ?_, by show n :: nms ps = _; rw [e]⟩
    have z := Dp.fld (r := n ++ (r' ++ r)) q2 (by rw [q1]; exact hn.ne) (by rw [q1]; exact q)
    rw [q1] at z
    simpa [Option.map_map, Function.comp_def] using z
  | @brace n r' ns hn _ ih =>
    obtain ⟨ps, q, e⟩ := ih
    have q1 := dname_brace (r := r' ++ r) hn
    refine ⟨.fld n :: ps, ?_, by show n :: nms ps = _; rw [e]⟩
    have z := Dp.fld (r := 123 :: (n ++ 125 :: (r' ++ r))) (by intro q; cases q) (by rw [q1]; exact hn.ne) (by rw [q1]; exact q)
    rw [q1] at z
    simpa [Option.map_map, Function.comp_def] using z
/-- the signs of names ahead are texts -/
theorem WF.cut {y : List Nat} {ms : List (List Nat)} (h : WF y ms) : ∃ w y', y = w ++ y' ∧ (∀ c ∈ w, wordc c = true) ∧ Stop y' ∧ WF y' ms := by
  induction h with
  | nil => exact ⟨[], [], rfl, (fun _ h => nomatch h), stop_nil, .nil⟩
  | @chr c r ns hc hr ih =>
    by_cases hw : wordc c = true
    · obtain ⟨w, y', rfl, h1, h2, h3⟩ := ih
      exact ⟨c :: w, y', rfl, fun d hd => by rcases List.mem_cons.mp hd with rfl | hd; exact hw; exact h1 d hd, h2, h3⟩
    · exact ⟨[], c :: r, rfl, (fun _ h => nomatch h), fun d hd => by
        have : c = d := Option.some.inj hd
        subst this; simpa using hw, .chr hc hr⟩
  | two hr _ => exact ⟨[], _, rfl, (fun _ h => nomatch h), stop_dollar, .two hr⟩
  | plain hn hs hr _ => exact ⟨[], _, rfl, (fun _ h => nomatch h), stop_dollar, .plain hn hs hr⟩
  | brace hn hr _ => exact ⟨[], _, rfl, (fun _ h => nomatch h), stop_dollar, .brace hn hr⟩
/-- two of them one behind the other, then something that is refused -/
theorem WF.glue {x : List Nat} {ns : List (List Nat)} (h : WF x ns) {y : List Nat} {ms : List (List Nat)} (hy : WF y ms) {r : List Nat} (s : Stop r) (d : Dp r none) : Dp (x ++ (y ++ r)) none := by
  induction h with
  | nil =>
    obtain ⟨ps, q, _⟩ := hy.app s d
    simpa using q
  | chr hc _ ih => simpa using Dp.chr hc ih
  | two _ ih => simpa using Dp.two ih
  | @plain n r' ns hn hs hr ih =>
    cases r' with
    | cons c r' =>
      obtain ⟨q1, q2⟩ := dname_plain (r := (c :: r') ++ (y ++ r)) hn (fun d hd => hs d hd)
      have z := Dp.fld (r := n ++ ((c :: r') ++ (y ++ r))) (o := none) q2 (by rw [q1]; exact hn.ne) (by rw [q1]; exact ih)
      simpa using z
    | nil =>
      obtain ⟨w, y', rfl, h1, h2, h3⟩ := hy.cut
      have hn2 : Nm (n ++ w) := ⟨fun e => hn.ne (List.append_eq_nil_iff.mp e).1, fun c hc => by
        rcases List.mem_append.mp hc with hc | hc
        · exact hn.all c hc
        · exact h1 c hc, fun c hc => hn.hd c (by
        cases n with
        | nil => exact absurd rfl hn.ne
        | cons a n => exact hc)⟩
      obtain ⟨q1, q2⟩ := dname_plain (r := y' ++ r) hn2 (stop_app h2 s)
      obtain ⟨ps, q, _⟩ := h3.app s d
      have z := Dp.fld (r := (n ++ w) ++ (y' ++ r)) (o := none) q2 (by rw [q1]; exact hn2.ne) (by rw [q1]; simpa using q)
      simpa using z
  | @brace n r' ns hn _ ih =>
    have q1 := dname_brace (r := r' ++ (y ++ r)) hn
    have z := Dp.fld (r := 123 :: (n ++ 125 :: (r' ++ (y ++ r)))) (o := none) (by intro q; cases q) (by rw [q1]; exact hn.ne) (by rw [q1]; exact ih)
    simpa using z
end My

namespace My
open PySem PySem.Spec PyProof.Rows L2
def top (i : Nat) : Stmt := PySem.Challenge.pw_recordyard_k10_formats_with_dollars_refu.main.body.getD i (.Pass ⟨0, 0, 0, 0⟩)
abbrev s__wall : Stmt := top 0
abbrev s_BadField___init__ : Stmt := inClass (top 3) 0
abbrev s_BadFormat___init__ : Stmt := inClass (top 4) 0
abbrev s_BadStyle___init__ : Stmt := inClass (top 5) 0
abbrev s_is_word_sign : Stmt := top 9
abbrev s_leading_name : Stmt := top 10
abbrev s_own_copy : Stmt := top 11
abbrev s_is_style : Stmt := top 14
abbrev s_Field___init__ : Stmt := inClass (top 15) 0
abbrev s_Field_written : Stmt := inClass (top 15) 1
abbrev s_brace_pieces : Stmt := top 16
abbrev s_brace_field : Stmt := top 17
abbrev s_split_spec : Stmt := top 18
abbrev s_is_width : Stmt := top 19
abbrev s_dollar_pieces : Stmt := top 20
abbrev s_dollar_name : Stmt := top 21
abbrev s_joined : Stmt := top 22
abbrev s_first_day : Stmt := top 27
abbrev s_month_days : Stmt := top 28
abbrev s_date_of : Stmt := top 29
abbrev s_date_text : Stmt := top 30
abbrev s_hours_text : Stmt := top 31
abbrev s_time_text : Stmt := top 32
abbrev s_Formatter___init__ : Stmt := inClass (top 34) 0
abbrev s_Formatter_formatted : Stmt := inClass (top 34) 1
abbrev s_Formatter_value : Stmt := inClass (top 34) 2
abbrev s_Formatter_uses_time : Stmt := inClass (top 34) 3
abbrev s_Formatter_fields : Stmt := inClass (top 34) 4
abbrev s_pieces_of : Stmt := top 35
abbrev s__law_draw : Stmt := top 37
abbrev s__law_pick : Stmt := top 38
abbrev s__law_text : Stmt := top 39
abbrev s__law_same : Stmt := top 40
abbrev s__law_formatter_told : Stmt := top 41
abbrev s__law_dollared : Stmt := top 42
abbrev s__law_plain_parts : Stmt := top 43
abbrev s__law_odd_dollar : Stmt := top 44
abbrev s__law_made_alone : Stmt := top 45
abbrev s_law : Stmt := top 46
theorem sc__wall : FnScope ["k"] ["k"] (defScope s__wall) := ⟨rfl, rfl, rfl, by decide +kernel, rfl, by decide +kernel, by decide +kernel⟩
theorem sc_BadField___init__ : FnScope ["self", "name"] ["self", "name"] (defScope s_BadField___init__) := ⟨rfl, rfl, rfl, by decide +kernel, rfl, by decide +kernel, by decide +kernel⟩
theorem sc_BadFormat___init__ : FnScope ["self", "fmt"] ["self", "fmt"] (defScope s_BadFormat___init__) := ⟨rfl, rfl, rfl, by decide +kernel, rfl, by decide +kernel, by decide +kernel⟩
theorem sc_BadStyle___init__ : FnScope ["self", "style"] ["self", "style"] (defScope s_BadStyle___init__) := ⟨rfl, rfl, rfl, by decide +kernel, rfl, by decide +kernel, by decide +kernel⟩
theorem sc_is_word_sign : FnScope ["sign"] ["sign"] (defScope s_is_word_sign) := ⟨rfl, rfl, rfl, by decide +kernel, rfl, by decide +kernel, by decide +kernel⟩
theorem sc_leading_name : FnScope ["text", "end"] ["text"] (defScope s_leading_name) := ⟨rfl, rfl, rfl, by decide +kernel, rfl, by decide +kernel, by decide +kernel⟩
theorem sc_own_copy : FnScope ["thing", "table", "key", "row", "item"] ["thing"] (defScope s_own_copy) := ⟨rfl, rfl, rfl, by decide +kernel, rfl, by decide +kernel, by decide +kernel⟩
theorem sc_is_style : FnScope ["thing"] ["thing"] (defScope s_is_style) := ⟨rfl, rfl, rfl, by decide +kernel, rfl, by decide +kernel, by decide +kernel⟩
theorem sc_Field___init__ : FnScope ["self", "name", "way", "fill", "align", "width"] ["self", "name", "way", "fill", "align", "width"] (defScope s_Field___init__) := ⟨rfl, rfl, rfl, by decide +kernel, rfl, by decide +kernel, by decide +kernel⟩
theorem sc_Field_written : FnScope ["self", "value"] ["self", "value"] (defScope s_Field_written) := ⟨rfl, rfl, rfl, by decide +kernel, rfl, by decide +kernel, by decide +kernel⟩
theorem sc_brace_pieces : FnScope ["fmt", "pieces", "at", "pair", "end", "field"] ["fmt"] (defScope s_brace_pieces) := ⟨rfl, rfl, rfl, by decide +kernel, rfl, by decide +kernel, by decide +kernel⟩
theorem sc_brace_field : FnScope ["inner", "name", "rest", "way", "fill", "align", "digits"] ["inner"] (defScope s_brace_field) := ⟨rfl, rfl, rfl, by decide +kernel, rfl, by decide +kernel, by decide +kernel⟩
theorem sc_split_spec : FnScope ["spec"] ["spec"] (defScope s_split_spec) := ⟨rfl, rfl, rfl, by decide +kernel, rfl, by decide +kernel, by decide +kernel⟩
theorem sc_is_width : FnScope ["digits", "sign"] ["digits"] (defScope s_is_width) := ⟨rfl, rfl, rfl, by decide +kernel, rfl, by decide +kernel, by decide +kernel⟩
theorem sc_dollar_pieces : FnScope ["fmt", "pieces", "at", "name"] ["fmt"] (defScope s_dollar_pieces) := ⟨rfl, rfl, rfl, by decide +kernel, rfl, by decide +kernel, by decide +kernel⟩
theorem sc_dollar_name : FnScope ["fmt", "start", "name", "end"] ["fmt", "start"] (defScope s_dollar_name) := ⟨rfl, rfl, rfl, by decide +kernel, rfl, by decide +kernel, by decide +kernel⟩
theorem sc_joined : FnScope ["pieces", "out", "piece"] ["pieces"] (defScope s_joined) := ⟨rfl, rfl, rfl, by decide +kernel, rfl, by decide +kernel, by decide +kernel⟩
theorem sc_first_day : FnScope ["year", "past"] ["year"] (defScope s_first_day) := ⟨rfl, rfl, rfl, by decide +kernel, rfl, by decide +kernel, by decide +kernel⟩
theorem sc_month_days : FnScope ["year", "month", "leap"] ["year", "month"] (defScope s_month_days) := ⟨rfl, rfl, rfl, by decide +kernel, rfl, by decide +kernel, by decide +kernel⟩
theorem sc_date_of : FnScope ["day", "year", "month", "left"] ["day"] (defScope s_date_of) := ⟨rfl, rfl, rfl, by decide +kernel, rfl, by decide +kernel, by decide +kernel⟩
theorem sc_date_text : FnScope ["seconds", "year", "month", "day"] ["seconds"] (defScope s_date_text) := ⟨rfl, rfl, rfl, by decide +kernel, rfl, by decide +kernel, by decide +kernel⟩
theorem sc_hours_text : FnScope ["seconds", "sign", "hour", "minute", "second"] ["seconds", "sign"] (defScope s_hours_text) := ⟨rfl, rfl, rfl, by decide +kernel, rfl, by decide +kernel, by decide +kernel⟩
theorem sc_time_text : FnScope ["milliseconds", "seconds", "hours", "beyond"] ["milliseconds"] (defScope s_time_text) := ⟨rfl, rfl, rfl, by decide +kernel, rfl, by decide +kernel, by decide +kernel⟩
theorem sc_Formatter___init__ : FnScope ["self", "fmt", "style", "validate", "defaults"] ["self", "fmt", "style", "validate", "defaults"] (defScope s_Formatter___init__) := ⟨rfl, rfl, rfl, by decide +kernel, rfl, by decide +kernel, by decide +kernel⟩
theorem sc_Formatter_formatted : FnScope ["self", "record"] ["self", "record"] (defScope s_Formatter_formatted) := ⟨rfl, rfl, rfl, by decide +kernel, rfl, by decide +kernel, by decide +kernel⟩
theorem sc_Formatter_value : FnScope ["self", "record", "name"] ["self", "record", "name"] (defScope s_Formatter_value) := ⟨rfl, rfl, rfl, by decide +kernel, rfl, by decide +kernel, by decide +kernel⟩
theorem sc_Formatter_uses_time : FnScope ["self"] ["self"] (defScope s_Formatter_uses_time) := ⟨rfl, rfl, rfl, by decide +kernel, rfl, by decide +kernel, by decide +kernel⟩
theorem sc_Formatter_fields : FnScope ["self", "piece"] ["self"] (defScope s_Formatter_fields) := ⟨rfl, rfl, rfl, by decide +kernel, rfl, by decide +kernel, by decide +kernel⟩
theorem sc_pieces_of : FnScope ["fmt", "style"] ["fmt", "style"] (defScope s_pieces_of) := ⟨rfl, rfl, rfl, by decide +kernel, rfl, by decide +kernel, by decide +kernel⟩
theorem sc__law_draw : FnScope ["_law_stream", "_law_many", "_law_digit", "_law_mixed", "_law_last"] ["_law_stream", "_law_many"] (defScope s__law_draw) := ⟨rfl, rfl, rfl, by decide +kernel, rfl, by decide +kernel, by decide +kernel⟩
theorem sc__law_pick : FnScope ["_law_stream", "_law_some"] ["_law_stream", "_law_some"] (defScope s__law_pick) := ⟨rfl, rfl, rfl, by decide +kernel, rfl, by decide +kernel, by decide +kernel⟩
theorem sc__law_text : FnScope ["_law_stream", "_law_signs", "_law_most", "_law_k"] ["_law_stream", "_law_signs", "_law_most"] (defScope s__law_text) := ⟨rfl, rfl, rfl, by decide +kernel, rfl, by decide +kernel, by decide +kernel⟩
theorem sc__law_same : FnScope ["_law_found", "_law_due", "_law_key", "_law_one", "_law_other"] ["_law_found", "_law_due"] (defScope s__law_same) := ⟨rfl, rfl, rfl, by decide +kernel, rfl, by decide +kernel, by decide +kernel⟩
theorem sc__law_formatter_told : FnScope ["_law_form", "_law_sign", "_law_firm", "e"] ["_law_form", "_law_sign", "_law_firm"] (defScope s__law_formatter_told) := ⟨rfl, rfl, rfl, by decide +kernel, rfl, by decide +kernel, by decide +kernel⟩
theorem sc__law_dollared : FnScope ["_law_stream", "_law_parts", "_law_found", "_law_letters", "_law_part"] ["_law_stream", "_law_parts"] (defScope s__law_dollared) := ⟨rfl, rfl, rfl, by decide +kernel, rfl, by decide +kernel, by decide +kernel⟩
theorem sc__law_plain_parts : FnScope ["_law_stream", "_law_most", "_law_keys", "_law_found", "_law_k"] ["_law_stream", "_law_most", "_law_keys"] (defScope s__law_plain_parts) := ⟨rfl, rfl, rfl, by decide +kernel, rfl, by decide +kernel, by decide +kernel⟩
theorem sc__law_odd_dollar : FnScope ["_law_stream", "_law_some"] ["_law_stream"] (defScope s__law_odd_dollar) := ⟨rfl, rfl, rfl, by decide +kernel, rfl, by decide +kernel, by decide +kernel⟩
theorem sc__law_made_alone : FnScope ["_law_form", "_law_sign", "e"] ["_law_form", "_law_sign"] (defScope s__law_made_alone) := ⟨rfl, rfl, rfl, by decide +kernel, rfl, by decide +kernel, by decide +kernel⟩
theorem sc_law : FnScope ["_law_script", "_law_stream", "_law_turn", "_law_parts", "_law_at", "_law_firm", "_law_ahead", "_law_behind", "_law_broken", "_law_bare", "_law_due", "_law_found", "_law_part"] ["_law_script"] (defScope s_law) := ⟨rfl, rfl, rfl, by decide +kernel, rfl, by decide +kernel, by decide +kernel⟩
structure Dfn (K : PySem.W.Frag) (mg : Str → Option Value) (x qual : Str) (st : Stmt) (ps : List Str) (f : Addr) (fd : FuncData) : Prop where
  F : Fun K x qual st f fd
  g : mg x = some (.ref f)
  b : Binds K fd ps []
structure Blt (mg : Str → Option Value) : Prop where
  n_all : mg "all" = none
  n_bool : mg "bool" = none
  n_dict : mg "dict" = none
  n_int : mg "int" = none
  n_isinstance : mg "isinstance" = none
  n_len : mg "len" = none
  n_list : mg "list" = none
  n_range : mg "range" = none
  n_sorted : mg "sorted" = none
  n_str : mg "str" = none
  n_tuple : mg "tuple" = none
  n_zip : mg "zip" = none
structure Txt (K : PySem.W.Frag) (mg : Str → Option Value) where
  B : Blt mg
  f__wall : Addr
  fd__wall : FuncData
  D__wall : Dfn K mg "_wall" "_wall" s__wall ["k"] f__wall fd__wall
  f_is_word_sign : Addr
  fd_is_word_sign : FuncData
  D_is_word_sign : Dfn K mg "is_word_sign" "is_word_sign" s_is_word_sign ["sign"] f_is_word_sign fd_is_word_sign
  f_leading_name : Addr
  fd_leading_name : FuncData
  D_leading_name : Dfn K mg "leading_name" "leading_name" s_leading_name ["text"] f_leading_name fd_leading_name
  f_own_copy : Addr
  fd_own_copy : FuncData
  D_own_copy : Dfn K mg "own_copy" "own_copy" s_own_copy ["thing"] f_own_copy fd_own_copy
  f_is_style : Addr
  fd_is_style : FuncData
  D_is_style : Dfn K mg "is_style" "is_style" s_is_style ["thing"] f_is_style fd_is_style
  f_brace_pieces : Addr
  fd_brace_pieces : FuncData
  D_brace_pieces : Dfn K mg "brace_pieces" "brace_pieces" s_brace_pieces ["fmt"] f_brace_pieces fd_brace_pieces
  f_brace_field : Addr
  fd_brace_field : FuncData
  D_brace_field : Dfn K mg "brace_field" "brace_field" s_brace_field ["inner"] f_brace_field fd_brace_field
  f_split_spec : Addr
  fd_split_spec : FuncData
  D_split_spec : Dfn K mg "split_spec" "split_spec" s_split_spec ["spec"] f_split_spec fd_split_spec
  f_is_width : Addr
  fd_is_width : FuncData
  D_is_width : Dfn K mg "is_width" "is_width" s_is_width ["digits"] f_is_width fd_is_width
  f_dollar_pieces : Addr
  fd_dollar_pieces : FuncData
  D_dollar_pieces : Dfn K mg "dollar_pieces" "dollar_pieces" s_dollar_pieces ["fmt"] f_dollar_pieces fd_dollar_pieces
  f_dollar_name : Addr
  fd_dollar_name : FuncData
  D_dollar_name : Dfn K mg "dollar_name" "dollar_name" s_dollar_name ["fmt", "start"] f_dollar_name fd_dollar_name
  f_joined : Addr
  fd_joined : FuncData
  D_joined : Dfn K mg "joined" "joined" s_joined ["pieces"] f_joined fd_joined
  f_first_day : Addr
  fd_first_day : FuncData
  D_first_day : Dfn K mg "first_day" "first_day" s_first_day ["year"] f_first_day fd_first_day
  f_month_days : Addr
  fd_month_days : FuncData
  D_month_days : Dfn K mg "month_days" "month_days" s_month_days ["year", "month"] f_month_days fd_month_days
  f_date_of : Addr
  fd_date_of : FuncData
  D_date_of : Dfn K mg "date_of" "date_of" s_date_of ["day"] f_date_of fd_date_of
  f_date_text : Addr
  fd_date_text : FuncData
  D_date_text : Dfn K mg "date_text" "date_text" s_date_text ["seconds"] f_date_text fd_date_text
  f_hours_text : Addr
  fd_hours_text : FuncData
  D_hours_text : Dfn K mg "hours_text" "hours_text" s_hours_text ["seconds", "sign"] f_hours_text fd_hours_text
  f_time_text : Addr
  fd_time_text : FuncData
  D_time_text : Dfn K mg "time_text" "time_text" s_time_text ["milliseconds"] f_time_text fd_time_text
  f_pieces_of : Addr
  fd_pieces_of : FuncData
  D_pieces_of : Dfn K mg "pieces_of" "pieces_of" s_pieces_of ["fmt", "style"] f_pieces_of fd_pieces_of
  f__law_draw : Addr
  fd__law_draw : FuncData
  D__law_draw : Dfn K mg "_law_draw" "_law_draw" s__law_draw ["_law_stream", "_law_many"] f__law_draw fd__law_draw
  f__law_pick : Addr
  fd__law_pick : FuncData
  D__law_pick : Dfn K mg "_law_pick" "_law_pick" s__law_pick ["_law_stream", "_law_some"] f__law_pick fd__law_pick
  f__law_text : Addr
  fd__law_text : FuncData
  D__law_text : Dfn K mg "_law_text" "_law_text" s__law_text ["_law_stream", "_law_signs", "_law_most"] f__law_text fd__law_text
  f__law_same : Addr
  fd__law_same : FuncData
  D__law_same : Dfn K mg "_law_same" "_law_same" s__law_same ["_law_found", "_law_due"] f__law_same fd__law_same
  f__law_formatter_told : Addr
  fd__law_formatter_told : FuncData
  D__law_formatter_told : Dfn K mg "_law_formatter_told" "_law_formatter_told" s__law_formatter_told ["_law_form", "_law_sign", "_law_firm"] f__law_formatter_told fd__law_formatter_told
  f__law_dollared : Addr
  fd__law_dollared : FuncData
  D__law_dollared : Dfn K mg "_law_dollared" "_law_dollared" s__law_dollared ["_law_stream", "_law_parts"] f__law_dollared fd__law_dollared
  f__law_plain_parts : Addr
  fd__law_plain_parts : FuncData
  D__law_plain_parts : Dfn K mg "_law_plain_parts" "_law_plain_parts" s__law_plain_parts ["_law_stream", "_law_most", "_law_keys"] f__law_plain_parts fd__law_plain_parts
  f__law_odd_dollar : Addr
  fd__law_odd_dollar : FuncData
  D__law_odd_dollar : Dfn K mg "_law_odd_dollar" "_law_odd_dollar" s__law_odd_dollar ["_law_stream"] f__law_odd_dollar fd__law_odd_dollar
  f__law_made_alone : Addr
  fd__law_made_alone : FuncData
  D__law_made_alone : Dfn K mg "_law_made_alone" "_law_made_alone" s__law_made_alone ["_law_form", "_law_sign"] f__law_made_alone fd__law_made_alone
  f_law : Addr
  fd_law : FuncData
  D_law : Dfn K mg "law" "law" s_law ["_law_script"] f_law fd_law
  C_Field : Addr
  c_BadField : Addr
  c_BadFormat : Addr
  c_BadStyle : Addr
  i_BadField : Addr
  i_BadFormat : Addr
  i_BadStyle : Addr
  E_BadField : ErrTxt K mg "BadField" "name" c_BadField i_BadField
  E_BadFormat : ErrTxt K mg "BadFormat" "fmt" c_BadFormat i_BadFormat
  E_BadStyle : ErrTxt K mg "BadStyle" "style" c_BadStyle i_BadStyle
  i_Field : Addr
  fdi_Field : FuncData
  F_Field : FunD K "__init__" "Field.__init__" (defArgs s_Field___init__) (defBody s_Field___init__) (defScope s_Field___init__) [.str (SX.S []), .str (SX.S [32]), .str (SX.S []), .int 0] [] i_Field fdi_Field
  M_Field : Mk K C_Field i_Field
  g_Field : mg "Field" = some (.ref C_Field)
  I_Field : C8.InsC K C_Field
  kFS : PySem.W.kitOne K (.ref C_Field) (.type "str") = some false
  kSF : PySem.W.kitOne K (.type "str") (.ref C_Field) = some false
  C_Formatter : Addr
  i_Formatter : Addr
  fdi_Formatter : FuncData
  F_Formatter : FunD K "__init__" "Formatter.__init__" (defArgs s_Formatter___init__) (defBody s_Formatter___init__) (defScope s_Formatter___init__) [.non, .str (SX.S [123]), .bl true, .non] [] i_Formatter fdi_Formatter
  M_Formatter : Mk K C_Formatter i_Formatter
  g_Formatter : mg "Formatter" = some (.ref C_Formatter)
  cl_Formatter : Cls K C_Formatter
  na_pieces : NoAttr K C_Formatter "pieces"
  na_defaults : NoAttr K C_Formatter "defaults"
  m_fields : Addr
  fdm_fields : FuncData
  Me_fields : Meth K C_Formatter "fields" m_fields
  F_fields : Fun K "fields" "Formatter.fields" s_Formatter_fields m_fields fdm_fields
  b_fields : Binds K fdm_fields ["self"] []
  na_name : NoAttr K C_Field "name"
  na_way : NoAttr K C_Field "way"
  na_fill : NoAttr K C_Field "fill"
  na_align : NoAttr K C_Field "align"
  na_width : NoAttr K C_Field "width"
  exm : PySem.W.exmOne K (.ref c_BadFormat) (.ref c_BadFormat) = some true
  k_LETTERS : ∃ u, mg "LETTERS" = some u ∧ RelV (.str (SX.S LET)) u
  k_DIGITS : ∃ u, mg "DIGITS" = some u ∧ RelV (.str (SX.S DIG)) u
local macro_rules | `(tactic| walk_at "hp") => `(tactic| first | assumption | exact upd_same | (refine Eq.trans (upd_ne (by first | assumption | (apply Ne.symm; assumption))) ?_; walk_at "hp"))
local macro_rules | `(tactic| walk_at "ixl") => `(tactic| (refine' ⟨_, ?xs, _, ?vv, rfl, rfl, SqL.of ?hh, ?aa, ?qq⟩; (case hh => walk_at "hp"); (case aa => rfl)))
local macro_rules | `(tactic| walk_at "setl") => `(tactic| (refine' ⟨_, ?xs, _, ?jj, rfl, rfl, ?hh, ?aa, ?qq⟩; (case hh => walk_at "hp"); (case aa => rfl)))
local macro_rules | `(tactic| walk_at "cond") => `(tactic| first | exact Nat.le_of_lt (small1000 (Nat.le_of_ble_eq_true rfl)) | decide | omega | (dsimp only; omega) | exact ⟨by decide, by decide⟩ | exact Or.inr ⟨by decide, by decide⟩ | exact Or.inl ⟨by decide, by decide⟩ | exact ⟨by decide, by decide, by decide⟩ | exact ⟨by omega, by omega⟩ | exact ⟨by omega, by omega, by omega⟩)
local macro_rules | `(tactic| walk_at "st") => `(tactic| repeat (first | refine ⟨_, rfl, ?_⟩ | refine ⟨_, _, rfl, rfl, ?_⟩ | walk_at "ixl" | walk_at "setl" | refine ⟨rfl, ?_⟩ | refine Or.inl ⟨_, rfl, ?_⟩ | refine And.intro (by walk_at "cond") ?_))
/-- what the stepper does not open -/
inductive Hd (p : Prop) : Prop where
  | a (h : p)
  | b (h : p)
theorem Hd.out {p : Prop} (h : Hd p) : p := by
  cases h <;> assumption
/-! ### the stream of draws -/
structure StmA (H : Hp) (p q : Addr) (n : Int) (cs : List Int) (a c : Int) : Prop where
  hp : H p = some (.lst [.ref q, .int a, .int n, .int c])
  hq : H q = some (.lst (cs.map V.int))
  a0 : 0 ≤ a
  c0 : 0 ≤ c
  c1 : c < 2147483647
structure Stm (H : Hp) (p q : Addr) (n : Int) : Prop where
  ex : ∃ (cs : List Int) (a c : Int), StmA H p q n cs a c
  n0 : 0 ≤ n
  n1 : n ≤ 100000
theorem StmA.ne {H : Hp} {p q : Addr} {a n c : Int} {cs : List Int} (S : StmA H p q n cs a c) : p ≠ q := by
  intro e
  have h2 := S.hq
  rw [← e, S.hp] at h2
  cases cs with
  | nil => cases h2
  | cons x r => simp at h2
/-- all but the stream's two lists -/
def off (H : Hp) (p q : Addr) : Hp := fun b => if b = p ∨ b = q then none else H b
theorem off_p {H : Hp} {p q : Addr} {o : HO} : off (upd H p o) p q = off H p q := by
  funext b
  unfold off
  by_cases h : b = p ∨ b = q
  · rw [if_pos h, if_pos h]
  · rw [if_neg h, if_neg h, upd_ne (fun e => h (.inl e))]
theorem off_q {H : Hp} {p q : Addr} {o : HO} : off (upd H q o) p q = off H p q := by
  funext b
  unfold off
  by_cases h : b = p ∨ b = q
  · rw [if_pos h, if_pos h]
  · rw [if_neg h, if_neg h, upd_ne (fun e => h (.inr e))]
/-- something new -/
theorem off_new {H : Hp} {p q x : Addr} {o : HO} (hx : H x = none) : Same (off H p q) (off (upd H x o) p q) := by
  intro b u e
  unfold off at e ⊢
  by_cases h : b = p ∨ b = q
  · rw [if_pos h] at e; cases e
  · rw [if_neg h] at e ⊢
    rw [upd_ne (ne_of_none e hx)]
    exact e
def spDraw : Sp := fun vs H Q _ => Hd (∃ (p q : Addr) (n m : Int), vs = [.ref p, .int m] ∧ Stm H p q n ∧ n + 1 ≤ 100000 ∧ 0 < m ∧ m < 1000000 ∧
  ∀ (d n' : Int) (H' : Hp), 0 ≤ d → d < m → n' ≤ n + 1 → Stm H' p q n' → Same (off H p q) (off H' p q) → Q (.int d) H')
theorem if_true_of {c : Bool} {A B : Prop} (hc : c = true) (h : A) : if c = true then A else B := by
  rw [if_pos hc]
  exact h
theorem if_false_of {c : Bool} {A B : Prop} (hc : c = false) (h : B) : if c = true then A else B := by
  rw [hc, if_neg Bool.false_ne_true]
  exact h
theorem eqvAll_nil (cs : List Int) : PyData.eqv (.list (cs.map PyData.int)) (.list []) = cs.isEmpty := by
  cases cs with
  | nil => rfl
  | cons x r => rfl
theorem canLay_ints : ∀ (cs : List Int), PyData.canLayAll0 (cs.map PyData.int) = true
  | [] => rfl
  | x :: r => by
    show (PyData.canLay0 (.int x) && PyData.canLayAll0 (r.map PyData.int)) = true
    rw [canLay_ints r]
    rfl
theorem depth_ints : ∀ (cs : List Int), PyData.depthAll (cs.map PyData.int) = 0
  | [] => rfl
  | x :: r => by
    show max (PyData.depth (.int x)) (PyData.depthAll (r.map PyData.int)) = 0
    rw [depth_ints r]
    rfl
theorem shaped_ints (cs : List Int) : SeqAt.shaped (.list (cs.map PyData.int)) = true := by
  show (PyData.canLayAll0 (cs.map PyData.int) && decide (PyData.depthAll (cs.map PyData.int) + 1 ≤ 64)) = true
  rw [canLay_ints, depth_ints]
  rfl
theorem dpAll_ints {K : PySem.W.Frag} {H : Hp} : ∀ (cs : List Int), DpAll K H (cs.map V.int) (cs.map PyData.int)
  | [] => .nil
  | x :: r => .cons (.int x) (dpAll_ints r)
theorem while_ex {c : TT} {tb : TS} {D : Ends} {σ : L2.St} {H : Hp} (Pv : Nat → L2.St → Hp → Prop) (Ex : L2.St → Hp → Prop) (h0 : ∃ m, Pv m σ H) (hfin : ∀ σ H, Ex σ H → D.nx σ H)
    (hs : ∀ (R : L2.St → Hp → Prop), (∀ σ H, Ex σ H → R σ H) → ∀ m σ H, Pv m σ H → ∀ NW : L2.St → Hp → Prop, NW = (fun σ' H' => Hd (∃ m', m' < m ∧ Pv m' σ' H')) →
      c σ H fun b H1 => if b = true then ∃ N : L2.St → Hp → Prop, (∀ σ' H', N σ' H' → ∃ m', m' < m ∧ Pv m' σ' H') ∧ tb { D with nx := N, ct := N, bk := R } σ H1 else R σ H1) : tWhile c tb D σ H :=
  ⟨Pv, h0, fun m σ H hp => hs D.nx hfin m σ H hp _ rfl⟩
theorem seqIndex0 {n : Nat} : seqIndex? 0 (n + 1) = some 0 := by
  unfold seqIndex?
  simp
def lenAt (H : Hp) (q : Addr) : Nat := match H q with
  | some (.lst xs) => xs.length
  | _ => 0
theorem lenAt_of {H : Hp} {q : Addr} {xs : List V} (h : H q = some (.lst xs)) : lenAt H q = xs.length := by
  unfold lenAt; rw [h]
/-! ### from the object's file: heaps -/
theorem off_same {H : Hp} {p q : Addr} : Same (off H p q) H := fun b o e => by
  unfold off at e
  by_cases h : b = p ∨ b = q
  · rw [if_pos h] at e; cases e
  · rw [if_neg h] at e; exact e
theorem off_mono {H H' : Hp} {p q : Addr} (h : Same H H') : Same (off H p q) (off H' p q) := fun b o e => by
  unfold off at e ⊢
  by_cases c : b = p ∨ b = q
  · rw [if_pos c] at e; cases e
  · rw [if_neg c] at e ⊢
    exact h _ _ e
theorem same_new {H : Hp} {x : Addr} {o : HO} (hx : H x = none) : Same H (upd H x o) := fun b u e => by
  rw [upd_ne (ne_of_none e hx)]
  exact e
theorem Stm.same {H H' : Hp} {p q : Addr} {n : Int} (S : Stm H p q n) (h : Same H H') : Stm H' p q n := by
  obtain ⟨⟨cs, a, c, SA⟩, n0, n1⟩ := S
  exact ⟨⟨cs, a, c, ⟨h _ _ SA.hp, h _ _ SA.hq, SA.a0, SA.c0, SA.c1⟩⟩, n0, n1⟩
/-- what is new since H0 -/
def nw (H0 H : Hp) : Hp := fun b => if (H0 b).isNone = true then H b else none
theorem nw_none {H0 H : Hp} {b : Addr} (h : H0 b = none) : nw H0 H b = H b := by
  unfold nw
  rw [h]
  rfl
theorem nw_some {H0 H : Hp} {b : Addr} {o : HO} (h : nw H0 H b = some o) : H0 b = none ∧ H b = some o := by
  unfold nw at h
  cases e : H0 b with
  | none => rw [e] at h; exact ⟨rfl, h⟩
  | some u => rw [e] at h; cases h
theorem nw_same {H0 H : Hp} : Same (nw H0 H) H := fun b o e => (nw_some e).2
/-- all but the stream stands, and what stood is there -/
structure Xt (H H' : Hp) (p q : Addr) : Prop where
  fr : Same (off H p q) (off H' p q)
  dm : ∀ b, H' b = none → H b = none
theorem Xt.refl {H : Hp} {p q : Addr} : Xt H H p q := ⟨Same.refl _, fun _ h => h⟩
theorem Xt.trans {H H1 H2 : Hp} {p q : Addr} (a : Xt H H1 p q) (b : Xt H1 H2 p q) : Xt H H2 p q := ⟨a.fr.trans b.fr, fun c h => a.dm c (b.dm c h)⟩
theorem Xt.new {H : Hp} {p q x : Addr} {o : HO} (hx : H x = none) : Xt H (upd H x o) p q := ⟨off_new hx, fun b h => by
  by_cases e : b = x
  · rw [e]; exact hx
  · rw [upd_ne e] at h; exact h⟩
theorem Xt.same {H H' : Hp} {p q : Addr} (h : Same H H') : Xt H H' p q := ⟨off_mono h, fun b e => h.free e⟩
/-- what is written at a place that is new since H -/
theorem Xt.put {H H' : Hp} {p q x : Addr} {o : HO} (a : Xt H H' p q) (hx : H x = none) : Xt H (upd H' x o) p q := ⟨fun b u e => by
  have hb : b ≠ x := fun z => by
    have := off_same _ _ e
    rw [z, hx] at this; cases this
  have q1 := a.fr _ _ e
  unfold off at q1 ⊢
  by_cases c : b = p ∨ b = q
  · rw [if_pos c] at q1; cases q1
  · rw [if_neg c] at q1 ⊢
    rw [upd_ne hb]; exact q1, fun b h => by
  by_cases e : b = x
  · rw [e]; exact hx
  · rw [upd_ne e] at h; exact a.dm b h⟩
theorem Xt.of {H H' : Hp} {p q : Addr} {n n' : Int} (S' : Stm H' p q n') (fr : Same (off H p q) (off H' p q)) : Xt H H' p q := ⟨fr, fun b h => by
  obtain ⟨⟨cs, a, c, SA⟩, _, _⟩ := S'
  cases e : H b with
  | none => rfl
  | some o =>
    by_cases z : b = p ∨ b = q
    · rcases z with rfl | rfl
      · rw [SA.hp] at h; cases h
      · rw [SA.hq] at h; cases h
    · have q1 : off H' p q b = some o := fr b o (by unfold off; rw [if_neg z]; exact e)
      rw [off_same _ _ q1] at h; cases h⟩
theorem Stm.there {H : Hp} {p q : Addr} {n : Int} (S : Stm H p q n) : H p ≠ none ∧ H q ≠ none := by
  obtain ⟨⟨cs, a, c, SA⟩, _, _⟩ := S
  exact ⟨by rw [SA.hp]; exact (fun z => nomatch z), by rw [SA.hq]; exact (fun z => nomatch z)⟩
/-- what is new stays behind draws -/
theorem nw_mono {H0 H H' : Hp} {p q : Addr} (hp : H0 p ≠ none) (hq : H0 q ≠ none) (fr : Same (off H p q) (off H' p q)) : Same (nw H0 H) (nw H0 H') := fun b o e => by
  obtain ⟨h0, h1⟩ := nw_some e
  rw [nw_none h0]
  have z : ¬ (b = p ∨ b = q) := fun z => by
    rcases z with rfl | rfl
    · exact hp h0
    · exact hq h0
  exact off_same _ _ (fr b o (by unfold off; rw [if_neg z]; exact h1))
/-- new since later, new since earlier -/
theorem nw_low {H0 H1 H : Hp} (dm : ∀ b, H1 b = none → H0 b = none) : Same (nw H1 H) (nw H0 H) := fun b o e => by
  obtain ⟨h0, h1⟩ := nw_some e
  rw [nw_none (dm b h0)]
  exact h1
theorem Xt.at {H H' : Hp} {p q b : Addr} {o : HO} (x : Xt H H' p q) (h : H b = some o) (hp : b ≠ p) (hq : b ≠ q) : H' b = some o :=
  off_same _ _ (x.fr b o (by unfold off; rw [if_neg (fun z => z.elim hp hq)]; exact h))
theorem Stm.put {H : Hp} {p q x : Addr} {n : Int} {o : HO} (S : Stm H p q n) (hp : x ≠ p) (hq : x ≠ q) : Stm (upd H x o) p q n := by
  obtain ⟨⟨cs, a, c, SA⟩, n0, n1⟩ := S
  exact ⟨⟨cs, a, c, ⟨by rw [upd_ne hp.symm]; exact SA.hp, by rw [upd_ne hq.symm]; exact SA.hq, SA.a0, SA.c0, SA.c1⟩⟩, n0, n1⟩
theorem nw_put {H0 H : Hp} {x : Addr} {o : HO} (hx : H0 x ≠ none) : nw H0 (upd H x o) = nw H0 H := by
  funext b
  unfold nw
  cases e : H0 b with
  | none =>
    have hb : b ≠ x := fun z => hx (by rw [← z]; exact e)
    simp [upd_ne hb]
  | some u => rfl
theorem off_at {H : Hp} {p q x : Addr} {n : Int} {o : HO} (S : Stm H p q n) (hx : H x = none) : off (upd H x o) p q x = some o := by
  obtain ⟨⟨cs, a, c, SA⟩, _, _⟩ := S
  unfold off
  rw [if_neg (fun h => by
    rcases h with rfl | rfl
    · rw [SA.hp] at hx; cases hx
    · rw [SA.hq] at hx; cases hx)]
  exact upd_same
theorem take_snoc {α : Type} {l : List α} {i : Nat} {x : α} (h : l[i]? = some x) : l.take (i + 1) = l.take i ++ [x] := by
  obtain ⟨h1, h2⟩ := List.getElem?_eq_some_iff.mp h
  rw [← h2, List.take_append_getElem h1]
theorem same_put {H H' : Hp} {x : Addr} {o : HO} (h : Same H H') (hx : H x = none) : Same H (upd H' x o) := fun b u e => by
  rw [upd_ne (ne_of_none e hx)]
  exact h _ _ e
theorem nw_step {H0 H H' : Hp} (h : Same H H') : Same (nw H0 H) (nw H0 H') := fun b o e => by
  obtain ⟨e1, e2⟩ := nw_some e
  rw [nw_none e1]
  exact h _ _ e2
end My

namespace My
open PySem PySem.Spec PyProof.Rows L2
local macro_rules | `(tactic| walk_at "hp") => `(tactic| first | assumption | exact upd_same | (refine Eq.trans (upd_ne (by first | assumption | (apply Ne.symm; assumption))) ?_; walk_at "hp"))
local macro_rules | `(tactic| walk_at "ixl") => `(tactic| (refine' ⟨_, ?xs, _, ?vv, rfl, rfl, SqL.of ?hh, ?aa, ?qq⟩; (case hh => walk_at "hp"); (case aa => rfl)))
local macro_rules | `(tactic| walk_at "setl") => `(tactic| (refine' ⟨_, ?xs, _, ?jj, rfl, rfl, ?hh, ?aa, ?qq⟩; (case hh => walk_at "hp"); (case aa => rfl)))
local macro_rules | `(tactic| walk_at "cond") => `(tactic| first | exact ⟨_, rfl⟩ | exact Nat.le_of_lt (small1000 (Nat.le_of_ble_eq_true rfl)) | decide | omega | (dsimp only; omega) | exact ⟨by decide, by decide⟩ | exact Or.inr ⟨by decide, by decide⟩ | exact Or.inl ⟨by decide, by decide⟩ | exact ⟨by decide, by decide, by decide⟩ | exact ⟨by omega, by omega⟩ | exact ⟨by omega, by omega, by omega⟩ | (simp only [List.length_cons, List.length_nil, List.length_append, List.length_take, List.length_drop]; omega) | (refine ⟨?_, ?_, ?_⟩ <;> first | decide | omega | (simp only [List.length_cons, List.length_nil, List.length_append, List.length_take, List.length_drop, Option.getD_some, Option.getD_none]; omega)))
local macro_rules | `(tactic| walk_at "st") => `(tactic| repeat (first | refine ⟨_, rfl, ?_⟩ | refine ⟨_, _, rfl, rfl, ?_⟩ | walk_at "ixl" | walk_at "setl" | refine ⟨rfl, ?_⟩ | refine Or.inl ⟨_, rfl, ?_⟩ | refine And.intro (by walk_at "cond") ?_))
section
variable {P : Program} {w : World} {K : PySem.W.Frag} {mg : Str → Option Value} {base : Heap}
def spWord : Sp := fun vs H Q _ => Hd (∃ c, vs = [.str (SX.S [c])] ∧ Q (.bl (wordc c)) H)
theorem ok_word (T : Txt K mg) : FnOk P w K mg base CX0 1 T.f_is_word_sign T.fd_is_word_sign ["sign"] spWord := by
  refine T.D_is_word_sign.F.ok sc_is_word_sign (fun vs H Q E h => ?_) (fun cdv A outer s H vs Q E hr h => ?_)
  · obtain ⟨c, rfl, _⟩ := h.out
    rfl
  · obtain ⟨c, rfl, k⟩ := h.out
    refine ⟨_, (pss_one (ps_ret (pe_or (pe_cmpR SL.op_inL (pv 0) (C8.pe_gc rfl T.k_LETTERS) rfl) (pe_or (pe_cmpR SL.op_inL (pv 0) (C8.pe_gc rfl T.k_DIGITS) rfl) (pe_one (pe_cmpR SL.op_eqL (pv 0) (SL.pe_strL [95] (by decide +kernel)) (nomark _))))))), ?_⟩
    walk_at "st"
    have e1 : SL.inL [c] LET = decide (c ∈ LET) := rfl
    have e2 : SL.inL [c] DIG = decide (c ∈ DIG) := rfl
    unfold wordc at k
    by_cases h1 : c ∈ LET
    · refine if_true_of (by rw [e1, decide_eq_true h1]) ?_
      rw [decide_eq_true h1] at k
      exact k
    · refine if_false_of (by rw [e1, decide_eq_false h1]) ?_
      rw [decide_eq_false h1] at k
      walk_at "st"
      by_cases h2 : c ∈ DIG
      · refine if_true_of (by rw [e2, decide_eq_true h2]) ?_
        rw [decide_eq_true h2] at k
        exact k
      · refine if_false_of (by rw [e2, decide_eq_false h2]) ?_
        rw [decide_eq_false h2] at k
        walk_at "st"
        have e3 : decide ([c] = [95]) = decide (c = 95) := by simp
        rw [e3]
        exact k
end
end My

namespace My
open PySem PySem.Spec PyProof.Rows L2
local macro_rules | `(tactic| walk_at "hp") => `(tactic| first | assumption | exact upd_same | (refine Eq.trans (upd_ne (by first | assumption | (apply Ne.symm; assumption))) ?_; walk_at "hp"))
local macro_rules | `(tactic| walk_at "ixl") => `(tactic| (refine' ⟨_, ?xs, _, ?vv, rfl, rfl, SqL.of ?hh, ?aa, ?qq⟩; (case hh => walk_at "hp"); (case aa => rfl)))
local macro_rules | `(tactic| walk_at "setl") => `(tactic| (refine' ⟨_, ?xs, _, ?jj, rfl, rfl, ?hh, ?aa, ?qq⟩; (case hh => walk_at "hp"); (case aa => rfl)))
local macro_rules | `(tactic| walk_at "cond") => `(tactic| first | exact ⟨_, rfl⟩ | exact Nat.le_of_lt (small1000 (Nat.le_of_ble_eq_true rfl)) | decide | omega | (dsimp only; omega) | exact ⟨by decide, by decide⟩ | exact Or.inr ⟨by decide, by decide⟩ | exact Or.inl ⟨by decide, by decide⟩ | exact ⟨by decide, by decide, by decide⟩ | exact ⟨by omega, by omega⟩ | exact ⟨by omega, by omega, by omega⟩ | (simp only [List.length_cons, List.length_nil, List.length_append, List.length_take, List.length_drop]; omega) | (refine ⟨?_, ?_, ?_⟩ <;> first | decide | omega | (simp only [List.length_cons, List.length_nil, List.length_append, List.length_take, List.length_drop, Option.getD_some, Option.getD_none]; omega)))
local macro_rules | `(tactic| walk_at "st") => `(tactic| repeat (first | refine ⟨_, rfl, ?_⟩ | refine ⟨_, _, rfl, rfl, ?_⟩ | walk_at "ixl" | walk_at "setl" | refine ⟨rfl, ?_⟩ | refine Or.inl ⟨_, rfl, ?_⟩ | refine And.intro (by walk_at "cond") ?_))
section
variable {P : Program} {w : World} {K : PySem.W.Frag} {mg : Str → Option Value} {base : Heap}
theorem takeW_at : ∀ {l : List Nat} {e : Nat}, (∀ i c, i < e → l[i]? = some c → wordc c = true) → (∀ c, l[e]? = some c → wordc c = false) → l.take e = l.takeWhile wordc
  | [], e, _, _ => by simp
  | c :: r, 0, _, h => by
    rw [List.takeWhile_cons_of_neg (by rw [h c rfl]; decide)]; rfl
  | c :: r, e + 1, h1, h2 => by
    rw [List.takeWhile_cons_of_pos (h1 0 c (Nat.succ_pos _) rfl), List.take_succ_cons]
    exact congrArg (c :: ·) (takeW_at (fun i d hi hd => h1 (i + 1) d (Nat.succ_lt_succ hi) hd) h2)
def spLead : Sp := fun vs H Q _ => Hd (∃ l, vs = [.str (SX.S l)] ∧ l.length ≤ 100000 ∧ Q (.str (SX.S (leadN l))) H)
theorem ok_lead (T : Txt K mg) : FnOk P w K mg base CX0 2 T.f_leading_name T.fd_leading_name ["text"] spLead := by
  have G_is_word_sign : FnOk P w K mg base CX0 1 _ _ _ spWord := ok_word T
  refine T.D_leading_name.F.ok sc_leading_name (fun vs H Q E h => ?_) (fun cdv A outer s H vs Q E hr h => ?_)
  · obtain ⟨l, rfl, _⟩ := h.out
    rfl
  · obtain ⟨l, rfl, hz, k⟩ := h.out
    refine ⟨_, (pss_cons (ps_set (i := 1) sc_leading_name.nd rfl (by first | exact Or.inl rfl | exact Or.inr rfl) pe_int)
  (pss_cons (ps_while PassesOwn.never (PW.pt (pw_and (pt_cmpR op_lt (pv 1) (pe_callB SL.call_lenL (by rfl) T.B.n_len (by decide +kernel) (pa_cons (pv 0) pa_nil)) (nomark _)) (pw_and1 (pt_val (pe_call G_is_word_sign (hr.mono (by first | decide | omega)) rfl T.D_is_word_sign.g T.D_is_word_sign.F.kp T.D_is_word_sign.b .nil pass0 (pa_cons (pe_ix SL.ix_strL (pv 0) (pv 1) (fun _ _ => rfl)) pa_nil))))))
    (pss_one (ps_aug (i := 1) sc_leading_name.nd rfl (by first | exact Or.inl rfl | exact Or.inr rfl) pe_int ip_add)))
  (pss_one (ps_ret (pe_ifExp (pt_cmpR SL.op_inL (pe_slice SL.sl_L (pv 0) po_none (po_some pe_int)) (C8.pe_gc rfl T.k_DIGITS) rfl) (SL.pe_strL [] (by decide +kernel)) (pe_slice SL.sl_L (pv 0) po_none (po_some (pv 1)))))))), ?_⟩
    walk_at "st"
    refine while_ex (fun m σ H1 => ∃ e : Nat, m = l.length - e ∧ e ≤ l.length ∧ σ = [some (.str (SX.S l)), some (.int e)] ∧ H1 = H ∧ ∀ i c, i < e → l[i]? = some c → wordc c = true)
      (fun σ H1 => ∃ e : Nat, σ = [some (.str (SX.S l)), some (.int e)] ∧ H1 = H ∧ l.take e = l.takeWhile wordc) ⟨_, 0, rfl, Nat.zero_le _, rfl, rfl, fun i c hi => absurd hi (Nat.not_lt_zero _)⟩ ?_ ?_
    · rintro σ H1 ⟨e, rfl, rfl, he⟩
      walk_at "st"
      have hc : (SL.cutL l none (some 1)).length ≤ 1 := by
        show ((l.take 1).drop 0).length ≤ 1
        rw [List.drop_zero, List.length_take]; omega
      refine ⟨hc, ?_⟩
      walk_at "st"
      cases l with
      | nil =>
        refine if_true_of rfl ?_
        exact k
      | cons c r =>
        have e1 : SL.inL (SL.cutL (c :: r) none (some 1)) DIG = decide (c ∈ DIG) := rfl
        have e2 : leadN (c :: r) = if c ∈ DIG then [] else (c :: r).takeWhile wordc := rfl
        by_cases hd : c ∈ DIG
        · rw [e2, if_pos hd] at k
          exact if_true_of (by rw [e1, decide_eq_true hd]) k
        · rw [e2, if_neg hd] at k
          refine if_false_of (by rw [e1, decide_eq_false hd]) ?_
          walk_at "st"
          have e3 : SL.cutL (c :: r) none (some (e : Int)) = (c :: r).takeWhile wordc := by rw [← he]; rfl
          rw [e3]
          exact k
    · rintro R fin m σ H1 ⟨e, rfl, he, rfl, rfl, hw⟩ NW hNW
      walk_at "st"
      by_cases h1 : e < l.length
      · refine if_true_of (decide_eq_true (by omega)) ?_
        walk_at "st"
        intro c hc
        rw [Int.toNat_natCast] at hc
        refine .a ⟨c, rfl, ?_⟩
        walk_at "st"
        cases hwc : wordc c with
        | true =>
          refine if_true_of rfl ⟨NW, by rw [hNW]; exact fun _ _ => Hd.out, ?_⟩
          walk_at "st"
          rw [hNW]
          refine .a ⟨l.length - (e + 1), by omega, e + 1, rfl, by omega, rfl, rfl, fun i d hi hd => ?_⟩
          by_cases hie : i = e
          · subst hie; rw [hc] at hd; rw [← Option.some.inj hd]; exact hwc
          · exact hw i d (by omega) hd
        | false =>
          refine if_false_of rfl ?_
          exact fin _ _ ⟨e, rfl, rfl, takeW_at hw fun d hd => by rw [hc] at hd; rw [← Option.some.inj hd]; exact hwc⟩
      · refine if_false_of (decide_eq_false (by omega)) ?_
        refine if_false_of rfl ?_
        exact fin _ _ ⟨e, rfl, rfl, takeW_at hw fun d hd => absurd (List.getElem?_eq_some_iff.mp hd).1 h1⟩
end
end My

namespace My
open PySem PySem.Spec PyProof.Rows L2
local macro_rules | `(tactic| walk_at "hp") => `(tactic| first | assumption | exact upd_same | (refine Eq.trans (upd_ne (by first | assumption | (apply Ne.symm; assumption))) ?_; walk_at "hp"))
local macro_rules | `(tactic| walk_at "ixl") => `(tactic| (refine' ⟨_, ?xs, _, ?vv, rfl, rfl, SqL.of ?hh, ?aa, ?qq⟩; (case hh => walk_at "hp"); (case aa => rfl)))
local macro_rules | `(tactic| walk_at "setl") => `(tactic| (refine' ⟨_, ?xs, _, ?jj, rfl, rfl, ?hh, ?aa, ?qq⟩; (case hh => walk_at "hp"); (case aa => rfl)))
local macro_rules | `(tactic| walk_at "cond") => `(tactic| first | exact ⟨_, rfl⟩ | exact Nat.le_of_lt (small1000 (Nat.le_of_ble_eq_true rfl)) | decide | omega | (dsimp only; omega) | exact ⟨by decide, by decide⟩ | exact Or.inr ⟨by decide, by decide⟩ | exact Or.inl ⟨by decide, by decide⟩ | exact ⟨by decide, by decide, by decide⟩ | exact ⟨by omega, by omega⟩ | exact ⟨by omega, by omega, by omega⟩ | (simp only [List.length_cons, List.length_nil, List.length_append, List.length_take, List.length_drop]; omega) | (refine ⟨?_, ?_, ?_⟩ <;> first | decide | omega | (simp only [List.length_cons, List.length_nil, List.length_append, List.length_take, List.length_drop, Option.getD_some, Option.getD_none]; omega)))
local macro_rules | `(tactic| walk_at "st") => `(tactic| repeat (first | refine ⟨_, rfl, ?_⟩ | refine ⟨_, _, rfl, rfl, ?_⟩ | walk_at "ixl" | walk_at "setl" | refine ⟨rfl, ?_⟩ | refine Or.inl ⟨_, rfl, ?_⟩ | refine And.intro (by walk_at "cond") ?_))
section
variable {P : Program} {w : World} {K : PySem.W.Frag} {mg : Str → Option Value} {base : Heap}
theorem cut_one {l : List Nat} {n : Nat} {i : Int} (h : i = (n : Int) + 1) : SL.cutL l (some (n : Int)) (some i) = (l.drop n).take 1 := by
  subst h
  show (l.take ((n : Int) + 1).toNat).drop (n : Int).toNat = _
  rw [show ((n : Int) + 1).toNat = n + 1 by omega, Int.toNat_natCast, List.drop_take, show n + 1 - n = 1 by omega]
theorem take1_eq {l : List Nat} {c : Nat} : l.take 1 = [c] ↔ l.head? = some c := by
  cases l with
  | nil => simp
  | cons d r => simp
theorem cut_from {l : List Nat} {n : Nat} {i : Int} (h : i = (n : Int)) : SL.cutL l (some i) none = l.drop n := by
  subst h
  show l.drop (n : Int).toNat = _
  rw [Int.toNat_natCast]
theorem leadN_le : ∀ (l : List Nat), (leadN l).length ≤ l.length
  | [] => Nat.zero_le _
  | c :: r => by
    show (if c ∈ DIG then [] else (c :: r).takeWhile wordc).length ≤ _
    by_cases h : c ∈ DIG
    · rw [if_pos h]; exact Nat.zero_le _
    · rw [if_neg h]; exact (List.takeWhile_sublist _).length_le
def spDName : Sp := fun vs H Q _ => Hd (∃ (l : List Nat) (n : Nat), vs = [.str (SX.S l), .int n] ∧ l.length ≤ 100000 ∧ n ≤ 100000 ∧
  ∀ (p : Addr) (m : Nat), H p = none → n ≤ m → l.drop m = (dname (l.drop n)).2 → Q (.ref p) (upd H p (.tup [.str (SX.S (dname (l.drop n)).1), .int m])))
theorem ok_dname (T : Txt K mg) : FnOk P w K mg base CX0 3 T.f_dollar_name T.fd_dollar_name ["fmt", "start"] spDName := by
  have G_leading_name : FnOk P w K mg base CX0 2 _ _ _ spLead := ok_lead T
  refine T.D_dollar_name.F.ok sc_dollar_name (fun vs H Q E h => ?_) (fun cdv A outer s H vs Q E hr h => ?_)
  · obtain ⟨l, n, rfl, _⟩ := h.out
    rfl
  · obtain ⟨l, n, rfl, hz, hn, k⟩ := h.out
    refine ⟨_, (pss_cons (ps_if (pt_cmpR SL.op_neL (pe_slice SL.sl_L (pv 0) (po_some (pv 1)) (po_some (pe_op op_add (pv 1) pe_int))) (SL.pe_strL [123] (by decide +kernel)) (nomark _))
    (pss_cons (ps_set (i := 2) sc_dollar_name.nd rfl (by first | exact Or.inl rfl | exact Or.inr rfl) (pe_call G_leading_name (hr.mono (by first | decide | omega)) rfl T.D_leading_name.g T.D_leading_name.F.kp T.D_leading_name.b .nil pass0 (pa_cons (pe_slice SL.sl_L (pv 0) (po_some (pv 1)) po_none) pa_nil)))
  (pss_one (ps_ret (pe_tup (pa_cons (pv 2) (pa_cons (pe_op op_add (pv 1) (pe_callB SL.call_lenL (by rfl) T.B.n_len (by decide +kernel) (pa_cons (pv 2) pa_nil))) pa_nil))))))
    pss_nil)
  (pss_cons (ps_set (i := 2) sc_dollar_name.nd rfl (by first | exact Or.inl rfl | exact Or.inr rfl) (pe_call G_leading_name (hr.mono (by first | decide | omega)) rfl T.D_leading_name.g T.D_leading_name.F.kp T.D_leading_name.b .nil pass0 (pa_cons (pe_slice SL.sl_L (pv 0) (po_some (pe_op op_add (pv 1) pe_int)) po_none) pa_nil)))
  (pss_cons (ps_set (i := 3) sc_dollar_name.nd rfl (by first | exact Or.inl rfl | exact Or.inr rfl) (pe_op op_add (pe_op op_add (pv 1) pe_int) (pe_callB SL.call_lenL (by rfl) T.B.n_len (by decide +kernel) (pa_cons (pv 2) pa_nil))))
  (pss_cons (ps_if (pt_cmpR SL.op_neL (pe_slice SL.sl_L (pv 0) (po_some (pv 3)) (po_some (pe_op op_add (pv 3) pe_int))) (SL.pe_strL [125] (by decide +kernel)) (nomark _))
    (pss_one (ps_ret (pe_tup (pa_cons (SL.pe_strL [] (by decide +kernel)) (pa_cons (pv 3) pa_nil)))))
    pss_nil)
  (pss_one (ps_ret (pe_tup (pa_cons (pv 2) (pa_cons (pe_op op_add (pv 3) pe_int) pa_nil))))))))), ?_⟩
    walk_at "st"
    have c1 : SL.cutL l (some (n : Int)) (some ((n : Int) + 1)) = (l.drop n).take 1 := cut_one rfl
    rw [c1]
    by_cases h1 : (l.drop n).head? = some 123
    · refine if_false_of (by rw [decide_eq_true (take1_eq.mpr h1)]; rfl) ?_
      walk_at "st"
      have c2 : SL.cutL l (some ((n : Int) + 1)) none = l.drop (n + 1) := cut_from (by omega)
      rw [c2]
      have e2 : (l.drop n).tail = l.drop (n + 1) := by rw [List.tail_drop]
      have hl : (leadN (l.drop (n + 1))).length ≤ 100000 := Nat.le_trans (leadN_le _) (by rw [List.length_drop]; omega)
      refine .a ⟨l.drop (n + 1), rfl, by rw [List.length_drop]; omega, ?_⟩
      walk_at "st"
      have e3 : ((n : Int) + 1 + ((leadN (l.drop (n + 1))).length : Int)) = ((n + 1 + (leadN (l.drop (n + 1))).length : Nat) : Int) := by omega
      have c3 : SL.cutL l (some ((n : Int) + 1 + ((leadN (l.drop (n + 1))).length : Int))) (some ((n : Int) + 1 + ((leadN (l.drop (n + 1))).length : Int) + 1)) = (l.drop (n + 1 + (leadN (l.drop (n + 1))).length)).take 1 := by
        rw [e3]
        exact cut_one rfl
      rw [c3]
      have e4 : (dname (l.drop n)) = if (l.drop (n + 1 + (leadN (l.drop (n + 1))).length)).head? ≠ some 125 then ([], l.drop (n + 1 + (leadN (l.drop (n + 1))).length)) else (leadN (l.drop (n + 1)), l.drop (n + 1 + (leadN (l.drop (n + 1))).length + 1)) := by
        unfold dname
        rw [if_neg (fun z => z h1), e2, List.drop_drop, List.tail_drop]
      by_cases h2 : (l.drop (n + 1 + (leadN (l.drop (n + 1))).length)).head? = some 125
      · refine if_false_of (by rw [decide_eq_true (take1_eq.mpr h2)]; rfl) ?_
        rw [if_neg (fun z => z h2)] at e4
        walk_at "st"
        intro p hp
        have q := k p (n + 1 + (leadN (l.drop (n + 1))).length + 1) hp (by omega) (by rw [e4])
        rw [e4] at q
        have e5 : ((n : Int) + 1 + ((leadN (l.drop (n + 1))).length : Int) + 1) = ((n + 1 + (leadN (l.drop (n + 1))).length + 1 : Nat) : Int) := by omega
        rw [← e5] at q
        exact q
      · refine if_true_of (by rw [decide_eq_false (fun e => h2 (take1_eq.mp e))]; rfl) ?_
        rw [if_pos h2] at e4
        walk_at "st"
        intro p hp
        have q := k p (n + 1 + (leadN (l.drop (n + 1))).length) hp (by omega) (by rw [e4])
        rw [e4] at q
        rw [← e3] at q
        exact q
    · refine if_true_of (by rw [decide_eq_false (fun e => h1 (take1_eq.mp e))]; rfl) ?_
      walk_at "st"
      have c2 : SL.cutL l (some (n : Int)) none = l.drop n := cut_from rfl
      rw [c2]
      have hl : (leadN (l.drop n)).length ≤ 100000 := Nat.le_trans (leadN_le _) (by rw [List.length_drop]; omega)
      have e4 : dname (l.drop n) = (leadN (l.drop n), l.drop (n + (leadN (l.drop n)).length)) := by
        unfold dname
        rw [if_pos h1, List.drop_drop]
      refine .a ⟨l.drop n, rfl, by rw [List.length_drop]; omega, ?_⟩
      walk_at "st"
      intro p hp
      have q := k p (n + (leadN (l.drop n)).length) hp (by omega) (by rw [e4])
      rw [e4] at q
      have e5 : ((n : Int) + ((leadN (l.drop n)).length : Int)) = ((n + (leadN (l.drop n)).length : Nat) : Int) := by omega
      rw [← e5] at q
      exact q
end
end My

namespace My
open PySem PySem.Spec PyProof.Rows L2
local macro_rules | `(tactic| walk_at "hp") => `(tactic| first | assumption | exact upd_same | (refine Eq.trans (upd_ne (by first | assumption | (apply Ne.symm; assumption))) ?_; walk_at "hp"))
local macro_rules | `(tactic| walk_at "ixl") => `(tactic| (refine' ⟨_, ?xs, _, ?vv, rfl, rfl, SqL.of ?hh, ?aa, ?qq⟩; (case hh => walk_at "hp"); (case aa => rfl)))
local macro_rules | `(tactic| walk_at "setl") => `(tactic| (refine' ⟨_, ?xs, _, ?jj, rfl, rfl, ?hh, ?aa, ?qq⟩; (case hh => walk_at "hp"); (case aa => rfl)))
local macro_rules | `(tactic| walk_at "cond") => `(tactic| first | exact ⟨_, rfl⟩ | exact Nat.le_of_lt (small1000 (Nat.le_of_ble_eq_true rfl)) | decide | omega | (dsimp only; omega) | exact ⟨by decide, by decide⟩ | exact Or.inr ⟨by decide, by decide⟩ | exact Or.inl ⟨by decide, by decide⟩ | exact ⟨by decide, by decide, by decide⟩ | exact ⟨by omega, by omega⟩ | exact ⟨by omega, by omega, by omega⟩ | (simp only [List.length_cons, List.length_nil, List.length_append, List.length_take, List.length_drop]; omega) | (refine ⟨?_, ?_, ?_⟩ <;> first | decide | omega | (simp only [List.length_cons, List.length_nil, List.length_append, List.length_take, List.length_drop, Option.getD_some, Option.getD_none]; omega)))
local macro_rules | `(tactic| walk_at "st") => `(tactic| repeat (first | refine ⟨_, rfl, ?_⟩ | refine ⟨_, _, rfl, rfl, ?_⟩ | walk_at "ixl" | walk_at "setl" | refine ⟨rfl, ?_⟩ | refine Or.inl ⟨_, rfl, ?_⟩ | refine And.intro (by walk_at "cond") ?_))
section
variable {P : Program} {w : World} {K : PySem.W.Frag} {mg : Str → Option Value} {base : Heap}
def fldF (n : List Nat) : List (Str × V) := [("name", .str (SX.S n)), ("way", .str (SX.S [])), ("fill", .str (SX.S [32])), ("align", .str (SX.S [])), ("width", .int 0)]
def spFld (C : Addr) : Sp := fun vs H Q _ => Hd (∃ (x dx : Addr) (n : List Nat), vs = [.ref x, .str (SX.S n), .str (SX.S []), .str (SX.S [32]), .str (SX.S []), .int 0] ∧ H x = some (.ins C dx []) ∧
  ∀ H' : Hp, H' x = some (.ins C dx (fldF n)) → (∀ b, b ≠ x → H' b = H b) → Q .non H')
theorem ok_Field (T : Txt K mg) : FnOk P w K mg base CX0 1 T.i_Field T.fdi_Field ["self", "name", "way", "fill", "align", "width"] (spFld T.C_Field) := by
  refine T.F_Field.ok sc_Field___init__ (fun vs H Q E h => ?_) (fun cdv A outer s H vs Q E hr h => ?_)
  · obtain ⟨x, dx, n, rfl, _⟩ := h.out
    rfl
  · obtain ⟨x, dx, n, rfl, hx, k⟩ := h.out
    refine ⟨_, (pss_cons (ps_fld (pv 0) (pv 1) rfl)
  (pss_cons (ps_fld (pv 0) (pv 2) rfl)
  (pss_cons (ps_fld (pv 0) (pv 3) rfl)
  (pss_cons (ps_fld (pv 0) (pv 4) rfl)
  (pss_one (ps_fld (pv 0) (pv 5) rfl)))))), ?_⟩
    walk_at "st"
    refine ⟨x, T.C_Field, dx, _, rfl, hx, T.I_Field.cl, T.na_name, Nat.le_of_ble_eq_true rfl, ?_⟩
    walk_at "st"
    refine ⟨x, T.C_Field, dx, _, rfl, upd_same, T.I_Field.cl, T.na_way, Nat.le_of_ble_eq_true rfl, ?_⟩
    walk_at "st"
    refine ⟨x, T.C_Field, dx, _, rfl, upd_same, T.I_Field.cl, T.na_fill, Nat.le_of_ble_eq_true rfl, ?_⟩
    walk_at "st"
    refine ⟨x, T.C_Field, dx, _, rfl, upd_same, T.I_Field.cl, T.na_align, Nat.le_of_ble_eq_true rfl, ?_⟩
    walk_at "st"
    refine ⟨x, T.C_Field, dx, _, rfl, upd_same, T.I_Field.cl, T.na_width, Nat.le_of_ble_eq_true rfl, ?_⟩
    walk_at "st"
    exact k _ upd_same fun b hb => by rw [upd_ne hb, upd_ne hb, upd_ne hb, upd_ne hb, upd_ne hb]
theorem bi_Field (T : Txt K mg) : ∃ ds, Vals [.str (SX.S []), .str (SX.S [32]), .str (SX.S []), .int 0] ds ∧ Binds K T.fdi_Field ["self", "name", "way", "fill", "align", "width"] ds :=
  T.F_Field.binds1 2 0 (by decide) rfl fun T kV doc pm an cdv ct us its l1 l2 => by
    match us, its, l1, l2 with
    | [a, b], [c, d, e, f], _, _ => exact ⟨_, rfl, rfl⟩
end
end My

namespace My
open PySem PySem.Spec PyProof.Rows L2
local macro_rules | `(tactic| walk_at "hp") => `(tactic| first | assumption | exact upd_same | (refine Eq.trans (upd_ne (by first | assumption | (apply Ne.symm; assumption))) ?_; walk_at "hp"))
local macro_rules | `(tactic| walk_at "ixl") => `(tactic| (refine' ⟨_, ?xs, _, ?vv, rfl, rfl, SqL.of ?hh, ?aa, ?qq⟩; (case hh => walk_at "hp"); (case aa => rfl)))
local macro_rules | `(tactic| walk_at "setl") => `(tactic| (refine' ⟨_, ?xs, _, ?jj, rfl, rfl, ?hh, ?aa, ?qq⟩; (case hh => walk_at "hp"); (case aa => rfl)))
local macro_rules | `(tactic| walk_at "cond") => `(tactic| first | exact ⟨_, rfl⟩ | exact Nat.le_of_lt (small1000 (Nat.le_of_ble_eq_true rfl)) | decide | omega | (dsimp only; omega) | exact ⟨by decide, by decide⟩ | exact Or.inr ⟨by decide, by decide⟩ | exact Or.inl ⟨by decide, by decide⟩ | exact ⟨by decide, by decide, by decide⟩ | exact ⟨by omega, by omega⟩ | exact ⟨by omega, by omega, by omega⟩ | (simp only [List.length_cons, List.length_nil, List.length_append, List.length_take, List.length_drop]; omega) | (refine ⟨?_, ?_, ?_⟩ <;> first | decide | omega | (simp only [List.length_cons, List.length_nil, List.length_append, List.length_take, List.length_drop, Option.getD_some, Option.getD_none]; omega)))
local macro_rules | `(tactic| walk_at "st") => `(tactic| repeat (first | refine ⟨_, rfl, ?_⟩ | refine ⟨_, _, rfl, rfl, ?_⟩ | walk_at "ixl" | walk_at "setl" | refine ⟨rfl, ?_⟩ | refine Or.inl ⟨_, rfl, ?_⟩ | refine And.intro (by walk_at "cond") ?_))
theorem Dp.inv_nil {o : Option (List Pc)} (h : Dp [] o) : o = some [] := by
  cases h; rfl
theorem Dp.inv_chr {c : Nat} {r : List Nat} {o : Option (List Pc)} (h : Dp (c :: r) o) (hc : c ≠ 36) : ∃ o', Dp r o' ∧ o = o'.map (Pc.txt [c] :: ·) := by
  cases h with
  | chr _ d => exact ⟨_, d, rfl⟩
  | two d => exact absurd rfl hc
  | bad _ _ => exact absurd rfl hc
  | fld _ _ _ => exact absurd rfl hc
theorem Dp.inv_two {r : List Nat} {o : Option (List Pc)} (h : Dp (36 :: r) o) (hr : r.head? = some 36) : ∃ o', Dp r.tail o' ∧ o = o'.map (Pc.txt [36] :: ·) := by
  cases h with
  | chr hc d => exact absurd rfl hc
  | two d => exact ⟨_, d, rfl⟩
  | bad z _ => exact absurd hr z
  | fld z _ _ => exact absurd hr z
theorem Dp.inv_bad {r : List Nat} {o : Option (List Pc)} (h : Dp (36 :: r) o) (hr : r.head? ≠ some 36) (hn : (dname r).1 = []) : o = none := by
  cases h with
  | chr hc d => exact absurd rfl hc
  | two d => exact absurd rfl hr
  | bad z _ => rfl
  | fld z y _ => exact absurd hn y
theorem Dp.inv_fld {r : List Nat} {o : Option (List Pc)} (h : Dp (36 :: r) o) (hr : r.head? ≠ some 36) (hn : (dname r).1 ≠ []) : ∃ o', Dp (dname r).2 o' ∧ o = o'.map (Pc.fld (dname r).1 :: ·) := by
  cases h with
  | chr hc d => exact absurd rfl hc
  | two d => exact absurd rfl hr
  | bad z y => exact absurd y hn
  | fld z y d => exact ⟨_, d, rfl⟩
theorem map_snoc {o : Option (List Pc)} {ps : List Pc} {p : Pc} : (o.map (p :: ·)).map (ps ++ ·) = o.map ((ps ++ [p]) ++ ·) := by
  cases o with
  | none => rfl
  | some x => simp
def PcV (C : Addr) (H : Hp) (v : V) : Pc → Prop
  | .txt l => v = .str (SX.S l)
  | .fld n => ∃ x dx, v = .ref x ∧ H x = some (.ins C dx (fldF n))
inductive PcsV (C : Addr) (H : Hp) : List V → List Pc → Prop
  | nil : PcsV C H [] []
  | cons {v : V} {p : Pc} {vs : List V} {ps : List Pc} : PcV C H v p → PcsV C H vs ps → PcsV C H (v :: vs) (p :: ps)
theorem PcV.mono {C : Addr} {H H' : Hp} {v : V} : ∀ {p : Pc}, PcV C H v p → Same H H' → PcV C H' v p
  | .txt _, h, _ => h
  | .fld _, ⟨x, dx, e, h⟩, s => ⟨x, dx, e, s _ _ h⟩
theorem PcV.keep {C : Addr} {H H' : Hp} {v : V} {q : Addr} {xs : List V} (hq : H q = some (.lst xs)) (s : ∀ b, b ≠ q → ∀ o, H b = some o → H' b = some o) : ∀ {p : Pc}, PcV C H v p → PcV C H' v p
  | .txt _, h => h
  | .fld _, ⟨x, dx, e, h⟩ => ⟨x, dx, e, s _ (fun z => by rw [z, hq] at h; cases h) _ h⟩
theorem PcsV.keep {C : Addr} {H H' : Hp} {q : Addr} {xs : List V} (hq : H q = some (.lst xs)) (s : ∀ b, b ≠ q → ∀ o, H b = some o → H' b = some o) {vs : List V} {ps : List Pc} (h : PcsV C H vs ps) : PcsV C H' vs ps := by
  induction h with
  | nil => exact .nil
  | cons h _ ih => exact .cons (h.keep hq s) ih
theorem PcsV.mono {C : Addr} {H H' : Hp} {vs : List V} {ps : List Pc} (h : PcsV C H vs ps) (s : Same H H') : PcsV C H' vs ps := by
  induction h with
  | nil => exact .nil
  | cons h _ ih => exact .cons (h.mono s) ih
theorem PcsV.snoc {C : Addr} {H : Hp} {vs : List V} {ps : List Pc} {v : V} {p : Pc} (h : PcsV C H vs ps) (h2 : PcV C H v p) : PcsV C H (vs ++ [v]) (ps ++ [p]) := by
  induction h with
  | nil => exact .cons h2 .nil
  | cons h _ ih => exact .cons h ih
theorem szl {n : Nat} (h : n ≤ 100000) : n < sizeLine := Nat.lt_of_le_of_lt h (by decide)
theorem keep_put {H : Hp} {p : Addr} {o : HO} : ∀ b, b ≠ p → ∀ u, H b = some u → upd H p o b = some u := fun b hb u e => by rw [upd_ne hb]; exact e
section
variable {P : Program} {w : World} {K : PySem.W.Frag} {mg : Str → Option Value} {base : Heap}
def spDP (C CB : Addr) : Sp := fun vs H Q E => Hd (∃ (l : List Nat) (o : Option (List Pc)), vs = [.str (SX.S l)] ∧ l.length ≤ 99000 ∧ Dp l o ∧
  (o = none → ∀ (d : Addr) (H' : Hp), H' d = some (.xd [("fmt", .str (SX.S l))]) → Same H H' → E (.ref CB) (some d) H') ∧
  (∀ ps, o = some ps → ∀ (p : Addr) (H' : Hp) (vs : List V), H p = none → H' p = some (.lst vs) → PcsV C H' vs ps → vs.length ≤ l.length → Same H H' → Q (.ref p) H'))
theorem ok_dpieces (T : Txt K mg) : FnOk P w K mg base (L2.CX P w) 4 T.f_dollar_pieces T.fd_dollar_pieces ["fmt"] (spDP T.C_Field T.c_BadFormat) := by
  have G_dollar_name : FnOk P w K mg base CX0 3 _ _ _ spDName := ok_dname T
  have G_Field : FnOk P w K mg base CX0 1 _ _ _ (spFld T.C_Field) := ok_Field T
  obtain ⟨dsF, hdF, hbF⟩ := bi_Field T
  refine T.D_dollar_pieces.F.okX sc_dollar_pieces (fun vs H Q E h => ?_) (fun cdv A outer s H vs Q E hr h => ?_)
  · obtain ⟨l, o, rfl, _⟩ := h.out
    rfl
  · obtain ⟨l, o, rfl, hz, hD, kE, kQ⟩ := h.out
    refine ⟨_, (pss_cons (ps_set (i := 1) sc_dollar_pieces.nd rfl (by first | exact Or.inl rfl | exact Or.inr rfl) (pe_lst pa_nil))
  (pss_cons (ps_set (i := 2) sc_dollar_pieces.nd rfl (by first | exact Or.inl rfl | exact Or.inr rfl) pe_int)
  (pss_cons (ps_while (passes_of rfl) (pt_cmpR op_lt (pv 2) (pe_callB SL.call_lenL (by rfl) T.B.n_len (by decide +kernel) (pa_cons (pv 0) pa_nil)) (nomark _))
    (pss_one (ps_if (pt_cmpR SL.op_neL (pe_ix SL.ix_strL (pv 0) (pv 2) (fun _ _ => rfl)) (SL.pe_strL [36] (by decide +kernel)) (nomark _))
    (pss_cons (ps_expr (pe_bm PySem.F.plainAttrs_list PySem.F.slot_list_append PySem.F.type_list_append mt_append (pv 1) (pa_cons (pe_ix SL.ix_strL (pv 0) (pv 2) (fun _ _ => rfl)) pa_nil)))
  (pss_one (ps_aug (i := 2) sc_dollar_pieces.nd rfl (by first | exact Or.inl rfl | exact Or.inr rfl) pe_int ip_add)))
    (pss_one (ps_if (pt_cmpR SL.op_eqL (pe_slice SL.sl_L (pv 0) (po_some (pe_op op_add (pv 2) pe_int)) (po_some (pe_op op_add (pv 2) pe_int))) (SL.pe_strL [36] (by decide +kernel)) (nomark _))
    (pss_cons (ps_expr (pe_bm PySem.F.plainAttrs_list PySem.F.slot_list_append PySem.F.type_list_append mt_append (pv 1) (pa_cons (SL.pe_strL [36] (by decide +kernel)) pa_nil)))
  (pss_one (ps_aug (i := 2) sc_dollar_pieces.nd rfl (by first | exact Or.inl rfl | exact Or.inr rfl) pe_int ip_add)))
    (pss_cons (ps_asg (pe_call G_dollar_name (hr.mono (by first | decide | omega)) rfl T.D_dollar_name.g T.D_dollar_name.F.kp T.D_dollar_name.b .nil pass0 (pa_cons (pv 0) (pa_cons (pe_op op_add (pv 2) pe_int) pa_nil))) (pg_tup rfl (pgs_cons (pg_name (i := 3) sc_dollar_pieces.nd rfl (by first | exact Or.inl rfl | exact Or.inr rfl)) (pgs_cons (pg_name (i := 2) sc_dollar_pieces.nd rfl (by first | exact Or.inl rfl | exact Or.inr rfl)) pgs_nil))))
  (pss_cons (ps_if (pt_cmpR SL.op_eqL (pv 3) (SL.pe_strL [] (by decide +kernel)) (nomark _))
    (pss_one (ps_raise rfl (takes_of rfl rfl rfl rfl) (pmk_err T.E_BadFormat hr (pa_cons (pv 0) pa_nil) rfl)))
    pss_nil)
  (pss_one (ps_expr (pe_bm PySem.F.plainAttrs_list PySem.F.slot_list_append PySem.F.type_list_append mt_append (pv 1) (pa_cons (pe_make T.M_Field G_Field (hr.mono (by first | decide | omega)) rfl T.g_Field hbF hdF pass0 (pa_cons (pv 3) pa_nil)) pa_nil)))))))))))
  (pss_one (ps_ret (pv 1)))))), ?_⟩
    walk_at "st"
    intro p hp
    walk_at "st"
    refine while_ex (fun m σ H1 => ∃ (k : Nat) (vs : List V) (ps : List Pc) (o' : Option (List Pc)) (nm : Option V), m = l.length + 1 - k ∧ (vs.length ≤ k ∧ vs.length ≤ l.length) ∧ σ = [some (.str (SX.S l)), some (.ref p), some (.int k), nm] ∧ H1 p = some (.lst vs) ∧ PcsV T.C_Field H1 vs ps ∧ Same H H1 ∧ Dp (l.drop k) o' ∧ o = o'.map (ps ++ ·))
      (fun σ H1 => ∃ (vs : List V) (ps : List Pc) (k : V) (nm : Option V), σ = [some (.str (SX.S l)), some (.ref p), some k, nm] ∧ H1 p = some (.lst vs) ∧ PcsV T.C_Field H1 vs ps ∧ Same H H1 ∧ o = some ps ∧ vs.length ≤ l.length) ⟨_, 0, [], [], o, none, rfl, ⟨Nat.zero_le _, Nat.zero_le _⟩, rfl, upd_same, .nil, same_new hp, hD, by cases o <;> rfl⟩ ?_ ?_
    · rintro σ H1 ⟨vs, ps, k, nm, rfl, h1, h2, h3, h4, h5⟩
      walk_at "st"
      exact kQ ps h4 p H1 vs hp h1 h2 h5 h3
    · rintro R fin m σ H1 ⟨k, vs, ps, o', nm, rfl, ⟨hvk, hvl⟩, rfl, h1, h2, h3, h4, h5⟩ NW hNW
      walk_at "st"
      by_cases hk : k < l.length
      · refine if_true_of (decide_eq_true (by omega)) ⟨NW, by rw [hNW]; exact fun _ _ => Hd.out, ?_⟩
        have ec : l[k]? = some l[k] := List.getElem?_eq_getElem hk
        have ed : l.drop k = l[k] :: l.drop (k + 1) := List.drop_eq_getElem_cons hk
        walk_at "st"
        intro c hc
        rw [Int.toNat_natCast, ec] at hc
        have hc' : l[k] = c := Option.some.inj hc
        rw [ed, hc'] at h4
        walk_at "st"
        by_cases h36 : c = 36
        · subst h36
          refine if_false_of rfl ?_
          walk_at "st"
          have c1 : SL.cutL l (some ((k : Int) + 1)) (some ((k : Int) + 2)) = (l.drop (k + 1)).take 1 := cut_one (n := k + 1) (by omega)
          rw [c1]
          by_cases h2d : (l.drop (k + 1)).head? = some 36
          · obtain ⟨o2, d2, e2⟩ := h4.inv_two h2d
            refine if_true_of (decide_eq_true (take1_eq.mpr h2d)) ?_
            walk_at "st"
            refine ⟨.inl ⟨rfl, _, SqL.of h1⟩, ?_⟩
            walk_at "st"
            refine ⟨_, _, _, rfl, rfl, h1, szl (by omega), ?_⟩
            walk_at "st"
            rw [hNW]
            have hk2 : k + 2 ≤ l.length := by
              cases hh : l.drop (k + 1) with
              | nil => rw [hh] at h2d; cases h2d
              | cons x r =>
                have := congrArg List.length hh
                rw [List.length_drop, List.length_cons] at this; omega
            refine .a ⟨l.length + 1 - (k + 2), by omega, k + 2, _, ps ++ [.txt [36]], o2, nm, rfl, ?_, rfl, upd_same, (h2.keep h1 keep_put).snoc (show PcV _ _ _ (.txt [36]) from rfl), same_put h3 hp, ?_, ?_⟩
            · rw [List.length_append, List.length_singleton]; exact ⟨by omega, by omega⟩
            · rw [List.tail_drop] at d2; exact d2
            · rw [h5, e2, map_snoc]
          · refine if_false_of (decide_eq_false fun e => h2d (take1_eq.mp e)) ?_
            walk_at "st"
            refine .a ⟨l, k + 1, rfl, by omega, by omega, fun q m hq hm e3 => ?_⟩
            have qp : q ≠ p := fun z => by rw [z, h1] at hq; cases hq
            have hq2 : (upd H1 q (.tup [.str (SX.S (dname (l.drop (k + 1))).1), .int m])) q = some (.tup [.str (SX.S (dname (l.drop (k + 1))).1), .int m]) := upd_same
            have hp2 : (upd H1 q (.tup [.str (SX.S (dname (l.drop (k + 1))).1), .int m])) p = some (.lst vs) := by rw [upd_ne qp.symm]; exact h1
            have hS2 : Same H1 (upd H1 q (.tup [.str (SX.S (dname (l.drop (k + 1))).1), .int m])) := same_new hq
            generalize upd H1 q (.tup [.str (SX.S (dname (l.drop (k + 1))).1), .int m]) = H2 at hq2 hp2 hS2 ⊢
            refine ⟨q, _, rfl, SqT.of hq2, rfl, _, _, rfl, _, _, rfl, rfl, ?_⟩
            walk_at "st"
            by_cases hn : (dname (l.drop (k + 1))).1 = []
            · refine if_true_of (decide_eq_true hn) ?_
              walk_at "st"
              intro d hd
              refine kE ?_ d _ upd_same ((h3.trans hS2).trans (same_new hd))
              rw [h5, h4.inv_bad h2d hn]; rfl
            · obtain ⟨o2, d2, e2⟩ := h4.inv_fld h2d hn
              refine if_false_of (decide_eq_false hn) ?_
              walk_at "st"
              refine ⟨.inl ⟨rfl, _, SqL.of hp2⟩, ?_⟩
              walk_at "st"
              intro x dx hx hdx hxd
              have xp : p ≠ x := fun z => by rw [z, hx] at hp2; cases hp2
              have dp : p ≠ dx := fun z => by rw [z, hdx] at hp2; cases hp2
              refine .a ⟨x, dx, _, rfl, upd_same, fun H3 hx3 hk3 => ⟨rfl, ?_⟩⟩
              have hS3 : Same H2 H3 := fun b o e => by
                have b1 : b ≠ x := fun z => by rw [z, hx] at e; cases e
                have b2 : b ≠ dx := fun z => by rw [z, hdx] at e; cases e
                rw [hk3 b b1, upd_ne b1, upd_ne b2]; exact e
              walk_at "st"
              refine ⟨_, _, _, rfl, rfl, hS3 _ _ hp2, szl (by omega), ?_⟩
              walk_at "st"
              rw [hNW]
              have hx4 : (upd H3 p (.lst (vs ++ [.ref x]))) x = some (.ins T.C_Field dx (fldF (dname (l.drop (k + 1))).1)) := by rw [upd_ne xp.symm]; exact hx3
              refine .a ⟨l.length + 1 - m, by omega, m, _, ps ++ [.fld (dname (l.drop (k + 1))).1], o2, _, rfl, ?_, rfl, upd_same,
                ((h2.mono (hS2.trans hS3)).keep (hS3 _ _ hp2) keep_put).snoc (show PcV _ _ _ (.fld _) from ⟨x, dx, rfl, hx4⟩), same_put ((h3.trans hS2).trans hS3) hp, ?_, ?_⟩
              · rw [List.length_append, List.length_singleton]; exact ⟨by omega, by omega⟩
              · rw [e3]; exact d2
              · rw [h5, e2, map_snoc]
        · obtain ⟨o2, d2, e2⟩ := h4.inv_chr h36
          refine if_true_of (by simp [h36]) ?_
          walk_at "st"
          refine ⟨.inl ⟨rfl, _, SqL.of h1⟩, ?_⟩
          walk_at "st"
          intro c2 hc2
          rw [Int.toNat_natCast, ec, hc'] at hc2
          have ecc : c = c2 := Option.some.inj hc2
          subst ecc
          walk_at "st"
          refine ⟨_, _, _, rfl, rfl, h1, szl (by omega), ?_⟩
          walk_at "st"
          rw [hNW]
          refine .a ⟨l.length + 1 - (k + 1), by omega, k + 1, _, ps ++ [.txt [c]], o2, nm, rfl, ?_, rfl, upd_same, (h2.keep h1 keep_put).snoc (show PcV _ _ _ (.txt [c]) from rfl), same_put h3 hp, d2, ?_⟩
          · rw [List.length_append, List.length_singleton]; exact ⟨by omega, by omega⟩
          · rw [h5, e2, map_snoc]
      · refine if_false_of (decide_eq_false (by omega)) ?_
        rw [List.drop_eq_nil_of_le (by omega)] at h4
        have e2 := h4.inv_nil
        subst e2
        refine fin _ _ ⟨vs, ps, _, nm, rfl, h1, h2, h3, by rw [h5]; simp, hvl⟩
end
end My

namespace My
open PySem PySem.Spec PyProof.Rows L2
local macro_rules | `(tactic| walk_at "hp") => `(tactic| first | assumption | exact upd_same | (refine Eq.trans (upd_ne (by first | assumption | (apply Ne.symm; assumption))) ?_; walk_at "hp"))
local macro_rules | `(tactic| walk_at "ixl") => `(tactic| (refine' ⟨_, ?xs, _, ?vv, rfl, rfl, SqL.of ?hh, ?aa, ?qq⟩; (case hh => walk_at "hp"); (case aa => rfl)))
local macro_rules | `(tactic| walk_at "setl") => `(tactic| (refine' ⟨_, ?xs, _, ?jj, rfl, rfl, ?hh, ?aa, ?qq⟩; (case hh => walk_at "hp"); (case aa => rfl)))
local macro_rules | `(tactic| walk_at "cond") => `(tactic| first | exact ⟨_, rfl⟩ | exact Nat.le_of_lt (small1000 (Nat.le_of_ble_eq_true rfl)) | decide | omega | (dsimp only; omega) | exact ⟨by decide, by decide⟩ | exact Or.inr ⟨by decide, by decide⟩ | exact Or.inl ⟨by decide, by decide⟩ | exact ⟨by decide, by decide, by decide⟩ | exact ⟨by omega, by omega⟩ | exact ⟨by omega, by omega, by omega⟩ | (simp only [List.length_cons, List.length_nil, List.length_append, List.length_take, List.length_drop]; omega) | (refine ⟨?_, ?_, ?_⟩ <;> first | decide | omega | (simp only [List.length_cons, List.length_nil, List.length_append, List.length_take, List.length_drop, Option.getD_some, Option.getD_none]; omega)))
local macro_rules | `(tactic| walk_at "st") => `(tactic| repeat (first | refine ⟨_, rfl, ?_⟩ | refine ⟨_, _, rfl, rfl, ?_⟩ | walk_at "ixl" | walk_at "setl" | refine ⟨rfl, ?_⟩ | refine Or.inl ⟨_, rfl, ?_⟩ | refine And.intro (by walk_at "cond") ?_))
/-- a walk over a list that stands -/
theorem for_list {K : PySem.W.Frag} {a : Addr} {xs : List V} {g : TG} {tb : TS} {D : Ends} {σ : L2.St} {H : Hp} (W : Nat → L2.St → Hp → Prop) (hst : ∀ i σ H, W i σ H → H a = some (.lst xs)) (h0 : W 0 σ H) (hend : ∀ σ H, W xs.length σ H → D.nx σ H)
    (hs : ∀ (R : L2.St → Hp → Prop) (i : Nat) σ H x, W i σ H → xs[i]? = some x → ∀ N : L2.St → Hp → Prop, N = (fun σ' H' => Hd (W (i + 1) σ' H')) → g x σ H fun σ2 H2 => tb { D with nx := N, ct := N, bk := D.nx } σ2 H2) :
    ∃ W : Nat → Nat → L2.St → Hp → Prop, (∃ m, W 0 m σ H) ∧ ∀ i m σ H, W i m σ H →
      ((Itl K a).stop i H ∧ D.nx σ H) ∨ ((Itl K a).go i H ∧ ∃ N : L2.St → Hp → Prop, (∀ σ' H', N σ' H' → ∃ m', m' < m ∧ W (i + 1) m' σ' H') ∧ ∀ x H', (Itl K a).yld i H x H' → g x σ H' fun σ2 H2 => tb { D with nx := N, ct := N, bk := D.nx } σ2 H2) := by
  refine ⟨fun i m σ H => W i σ H ∧ m = xs.length - i ∧ i ≤ xs.length, ⟨_, h0, rfl, Nat.zero_le _⟩, ?_⟩
  rintro i m σ H ⟨hw, rfl, hi⟩
  have hl := hst i σ H hw
  by_cases hlt : i < xs.length
  · refine .inr ⟨⟨xs, xs[i], SqL.of hl, List.getElem?_eq_getElem hlt⟩, fun σ' H' => Hd (W (i + 1) σ' H'), fun σ' H' z => ⟨xs.length - (i + 1), by omega, z.out, rfl, by omega⟩, ?_⟩
    rintro x H' ⟨rfl, hx⟩
    exact hs D.nx i σ H' x hw (hx xs (SqL.of hl)) _ rfl
  · have e : i = xs.length := by omega
    subst e
    exact .inl ⟨⟨xs, SqL.of hl, Nat.le_refl _⟩, hend σ H hw⟩
theorem PcsV.get {C : Addr} {H : Hp} {vs : List V} {ps : List Pc} (h : PcsV C H vs ps) : ∀ {i : Nat} {v : V}, vs[i]? = some v → ∃ pc, ps[i]? = some pc ∧ PcV C H v pc := by
  induction h with
  | nil => intro i v e; simp at e
  | cons h _ ih =>
    intro i v e
    cases i with
    | zero => exact ⟨_, rfl, by rw [← Option.some.inj e]; exact h⟩
    | succ i => exact ih (i := i) e
theorem PcsV.len {C : Addr} {H : Hp} {vs : List V} {ps : List Pc} (h : PcsV C H vs ps) : vs.length = ps.length := by
  induction h with
  | nil => rfl
  | cons _ _ ih => exact congrArg Nat.succ ih
theorem PcsV.unsnoc {C : Addr} {H : Hp} : ∀ {us : List V} {v : V} {qs : List Pc}, PcsV C H (us ++ [v]) qs → ∃ qs' pc, qs = qs' ++ [pc] ∧ PcsV C H us qs' ∧ PcV C H v pc
  | [], v, _, h => by
    cases h with
    | cons h1 h2 =>
      cases h2
      exact ⟨[], _, rfl, .nil, h1⟩
  | u :: us, v, _, h => by
    cases h with
    | cons h1 h2 =>
      obtain ⟨qs', pc, e, h3, h4⟩ := PcsV.unsnoc (us := us) (v := v) h2
      exact ⟨_ :: qs', pc, by rw [e]; rfl, .cons h1 h3, h4⟩
/-- the signs of all texts -/
def tlen : List Pc → Nat
  | [] => 0
  | .txt l :: r => l.length + tlen r
  | .fld _ :: r => tlen r
theorem tlen_app : ∀ (a b : List Pc), tlen (a ++ b) = tlen a + tlen b
  | [], b => by show tlen b = 0 + tlen b; omega
  | .txt l :: r, b => by show l.length + tlen (r ++ b) = l.length + tlen r + tlen b; rw [tlen_app r b]; omega
  | .fld n :: r, b => tlen_app r b
theorem tlen_take (ps : List Pc) (i : Nat) : tlen (ps.take i) ≤ tlen ps := by
  have := tlen_app (ps.take i) (ps.drop i)
  rw [List.take_append_drop] at this; omega
theorem dname_len (r : List Nat) : (dname r).2.length ≤ r.length := by
  unfold dname
  split
  · show (r.drop _).length ≤ _; rw [List.length_drop]; omega
  · split
    · show (r.tail.drop _).length ≤ _; rw [List.length_drop, List.length_tail]; omega
    · show (r.tail.drop _).tail.length ≤ _; rw [List.length_tail, List.length_drop, List.length_tail]; omega
theorem Dp.tlen_le {l : List Nat} {o : Option (List Pc)} (h : Dp l o) : ∀ ps, o = some ps → tlen ps ≤ l.length := by
  induction h with
  | nil => intro ps e; cases e; exact Nat.le_refl _
  | @chr c r o _ _ ih =>
    intro ps e
    cases o with
    | none => cases e
    | some x =>
      have := ih x rfl
      obtain rfl : Pc.txt [c] :: x = ps := Option.some.inj e
      show 1 + tlen x ≤ r.length + 1; omega
  | @two r o _ ih =>
    intro ps e
    cases o with
    | none => cases e
    | some x =>
      have := ih x rfl
      obtain rfl : Pc.txt [36] :: x = ps := Option.some.inj e
      show 1 + tlen x ≤ r.length + 2; omega
  | bad _ _ => intro ps e; cases e
  | @fld r o _ _ _ ih =>
    intro ps e
    cases o with
    | none => cases e
    | some x =>
      have := ih x rfl
      obtain rfl : Pc.fld _ :: x = ps := Option.some.inj e
      have := dname_len r
      show tlen x ≤ r.length + 1; omega
section
variable {P : Program} {w : World} {K : PySem.W.Frag} {mg : Str → Option Value} {base : Heap}
def isT : Pc → Bool
  | .txt _ => true
  | .fld _ => false
theorem isi_pc (T : Txt K mg) {H : Hp} {v : V} {pc : Pc} (h : PcV T.C_Field H v pc) : ∃ t, TyX K H v t ∧ PySem.W.kitOne K t (.type "str") = some (isT pc) ∧
    PySem.W.kitOne K t (.ref T.C_Field) = some (!isT pc) := by
  cases pc with
  | txt l =>
    obtain rfl : v = .str (SX.S l) := h
    exact ⟨_, .base (.str _), kit_ty (r := true) (by decide +kernel), T.kSF⟩
  | fld n =>
    obtain ⟨x, dx, rfl, hx⟩ := h
    exact ⟨_, .base (.ins hx T.I_Field.cl T.I_Field.ha T.I_Field.hn T.I_Field.htk T.I_Field.hm), T.kFS, T.I_Field.me⟩
def spJoin (C : Addr) : Sp := fun vs H Q _ => Hd (∃ (a : Addr) (xs : List V) (ps : List Pc), vs = [.ref a] ∧ H a = some (.lst xs) ∧ PcsV C H xs ps ∧ tlen ps ≤ 99000 ∧ xs.length ≤ 99000 ∧
  ∀ (q : Addr) (H' : Hp) (us : List V) (qs : List Pc), H q = none → H' q = some (.lst us) → PcsV C H' us qs → nms qs = nms ps → us.length ≤ xs.length → Same H H' → Q (.ref q) H')
theorem ok_joined (T : Txt K mg) : FnOk P w K mg base CX0 1 T.f_joined T.fd_joined ["pieces"] (spJoin T.C_Field) := by
  refine T.D_joined.F.ok sc_joined (fun vs H Q E h => ?_) (fun cdv A outer s H vs Q E hr h => ?_)
  · obtain ⟨a, xs, ps, rfl, _⟩ := h.out
    rfl
  · obtain ⟨a, xs, ps, rfl, ha, hps, ht, hl, k⟩ := h.out
    refine ⟨_, (pss_cons (ps_set (i := 1) sc_joined.nd rfl (by first | exact Or.inl rfl | exact Or.inr rfl) (pe_lst pa_nil))
  (pss_cons (ps_for PassesOwn.never rfl (pi_list (pv 0)) (pg_name (i := 2) sc_joined.nd rfl (by first | exact Or.inl rfl | exact Or.inr rfl))
    (pss_one (ps_if (PW.pt (pw_and (pt_val (pe_callB call_isi (by rfl) T.B.n_isinstance (by decide +kernel) (pa_cons (pv 2) (pa_cons (pe_bltn (v := .ty "str") (u := .type "str") (by rfl) T.B.n_str (by decide +kernel) rfl) pa_nil)))) (pw_and (pt_truth (pv 1) (fun _ => rfl)) (pw_and1 (pt_val (pe_callB call_isi (by rfl) T.B.n_isinstance (by decide +kernel) (pa_cons (pe_ix ix_list (pv 1) (pe_un un_neg pe_int) (fun _ _ => rfl)) (pa_cons (pe_bltn (v := .ty "str") (u := .type "str") (by rfl) T.B.n_str (by decide +kernel) rfl) pa_nil))))))))
    (pss_one (ps_asg (pe_op SL.op_addL (pe_ix ix_list (pv 1) (pe_un un_neg pe_int) (fun _ _ => rfl)) (pv 2)) (pg_sub (pv 1) (pe_un un_neg pe_int) set_list (fun _ => rfl))))
    (pss_one (ps_expr (pe_bm PySem.F.plainAttrs_list PySem.F.slot_list_append PySem.F.type_list_append mt_append (pv 1) (pa_cons (pv 2) pa_nil)))))))
  (pss_one (ps_ret (pv 1))))), ?_⟩
    walk_at "st"
    intro q hq
    walk_at "st"
    have qa : a ≠ q := fun z => by rw [z, hq] at ha; cases ha
    refine ⟨⟨_, SqL.of (by rw [upd_ne qa]; exact ha)⟩, ?_⟩
    refine for_list (xs := xs) (fun i σ H1 => ∃ (us : List V) (qs : List Pc) (y : Option V), σ = [some (.ref a), some (.ref q), y] ∧ H1 q = some (.lst us) ∧ PcsV T.C_Field H1 us qs ∧ nms qs = nms (ps.take i) ∧ tlen qs = tlen (ps.take i) ∧ us.length ≤ i ∧ us.length ≤ xs.length ∧ Same H H1) ?_ ⟨[], [], none, rfl, upd_same, .nil, rfl, rfl, Nat.zero_le _, Nat.zero_le _, same_new hq⟩ ?_ ?_
    · rintro i σ H1 ⟨us, qs, y, rfl, h1, h2, h3, h4, h5, h6, h7⟩
      exact h7 _ _ ha
    · rintro σ H1 ⟨us, qs, y, rfl, h1, h2, h3, h4, h5, h6, h7⟩
      walk_at "st"
      rw [hps.len, List.take_length] at h3
      exact k q H1 us qs hq h1 h2 h3 h6 h7
    · rintro R i σ H1 x ⟨us, qs, y, rfl, h1, h2, h3, h4, h5, h6, h7⟩ hx N hN
      obtain ⟨pc, hpc, hv⟩ := hps.get hx
      have hv1 : PcV T.C_Field H1 x pc := hv.mono h7
      obtain ⟨t, t1, t2, _⟩ := isi_pc T hv1
      have hil : i < xs.length := (List.getElem?_eq_some_iff.mp hx).1
      have htk : ps.take (i + 1) = ps.take i ++ [pc] := take_snoc hpc
      have hlim := tlen_take ps i
      have hlim2 := tlen_take ps (i + 1)
      walk_at "st"
      refine ⟨x, _, t, _, _, rfl, .ty "str", t1, t2, ?_⟩
      walk_at "st"
      have happ : ∀ D : Ends, D.nx = N → tDrop (tBM K "list" rAppend (tVar 1) (tCons (tVar 2) tNil)) D [some (.ref a), some (.ref q), some x] H1 := fun D hD => by
        walk_at "st"
        refine ⟨.inl ⟨rfl, _, SqL.of h1⟩, ?_⟩
        walk_at "st"
        refine ⟨_, _, _, rfl, rfl, h1, szl (by omega), ?_⟩
        rw [hD, hN]
        refine .a ⟨us ++ [x], qs ++ [pc], _, rfl, upd_same, (h2.keep h1 keep_put).snoc (hv1.keep h1 keep_put), ?_, ?_, ?_, ?_, same_put h7 hq⟩
        · rw [htk, nms_app, nms_app, h3]
        · rw [htk, tlen_app, tlen_app, h4]
        · rw [List.length_append, List.length_singleton]; omega
        · rw [List.length_append, List.length_singleton]; omega
      cases pc with
      | fld n =>
        refine if_false_of rfl ?_
        refine if_false_of rfl ?_
        exact happ _ rfl
      | txt l =>
        refine if_true_of rfl ?_
        obtain rfl : x = .str (SX.S l) := hv1
        refine ⟨_, rfl, !us.isEmpty, .inl ⟨us, SqL.of h1, rfl⟩, ?_⟩
        rcases List.eq_nil_or_concat us with rfl | ⟨us', v, e⟩
        · refine if_false_of rfl ?_
          refine if_false_of rfl ?_
          exact happ _ rfl
        · have e2 : us = us' ++ [v] := by rw [e, List.concat_eq_append]
          subst e2
          obtain ⟨qs', pc, rfl, h8, h9⟩ := h2.unsnoc
          obtain ⟨t', t1', t2', _⟩ := isi_pc T h9
          refine if_true_of (by simp) ?_
          walk_at "st"
          refine ⟨_, _, _, v, rfl, rfl, SqL.of h1, atI_last us' v, ?_⟩
          walk_at "st"
          refine ⟨v, _, t', _, _, rfl, .ty "str", t1', t2', ?_⟩
          walk_at "st"
          cases pc with
          | fld n =>
            refine if_false_of rfl ?_
            exact happ _ rfl
          | txt l' =>
            obtain rfl : v = .str (SX.S l') := h9
            refine if_true_of rfl ?_
            walk_at "st"
            refine ⟨_, _, _, _, rfl, rfl, SqL.of h1, atI_last us' _, ?_⟩
            walk_at "st"
            have b1 : tlen qs' + l'.length = tlen (ps.take i) := by rw [← h4, tlen_app]; show _ = tlen qs' + (l'.length + 0); omega
            have b2 : tlen (ps.take i) + l.length = tlen (ps.take (i + 1)) := by rw [htk, tlen_app]; show _ = tlen (ps.take i) + (l.length + 0); omega
            refine ⟨by omega, ?_⟩
            walk_at "st"
            refine ⟨_, _, _, us'.length, rfl, rfl, h1, ?_, ?_⟩
            · unfold ixN
              rw [List.length_append, List.length_singleton]
              rw [if_neg (by decide), if_pos (by omega)]
              simp
              omega
            · rw [hN]
              have es : (us' ++ [V.str (SX.S l')]).set us'.length (V.str (SX.S (l' ++ l))) = us' ++ [V.str (SX.S (l' ++ l))] := by simp
              rw [es]
              refine .a ⟨us' ++ [.str (SX.S (l' ++ l))], qs' ++ [.txt (l' ++ l)], _, rfl, upd_same, (h8.keep h1 keep_put).snoc (show PcV _ _ _ (.txt _) from rfl), ?_, ?_, ?_, ?_, same_put h7 hq⟩
              · rw [htk, nms_app, nms_app, ← h3, nms_app]; simp [nms]
              · rw [← b2, ← b1, tlen_app]; show tlen qs' + ((l' ++ l).length + 0) = _; rw [List.length_append]; omega
              · rw [List.length_append, List.length_singleton] at h5 ⊢; omega
              · rw [List.length_append, List.length_singleton] at h6 ⊢; omega
end
end My

namespace My
open PySem PySem.Spec PyProof.Rows L2
local macro_rules | `(tactic| walk_at "hp") => `(tactic| first | assumption | exact upd_same | (refine Eq.trans (upd_ne (by first | assumption | (apply Ne.symm; assumption))) ?_; walk_at "hp"))
local macro_rules | `(tactic| walk_at "ixl") => `(tactic| (refine' ⟨_, ?xs, _, ?vv, rfl, rfl, SqL.of ?hh, ?aa, ?qq⟩; (case hh => walk_at "hp"); (case aa => rfl)))
local macro_rules | `(tactic| walk_at "setl") => `(tactic| (refine' ⟨_, ?xs, _, ?jj, rfl, rfl, ?hh, ?aa, ?qq⟩; (case hh => walk_at "hp"); (case aa => rfl)))
local macro_rules | `(tactic| walk_at "cond") => `(tactic| first | exact ⟨_, rfl⟩ | exact Nat.le_of_lt (small1000 (Nat.le_of_ble_eq_true rfl)) | decide | omega | (dsimp only; omega) | exact ⟨by decide, by decide⟩ | exact Or.inr ⟨by decide, by decide⟩ | exact Or.inl ⟨by decide, by decide⟩ | exact ⟨by decide, by decide, by decide⟩ | exact ⟨by omega, by omega⟩ | exact ⟨by omega, by omega, by omega⟩ | (simp only [List.length_cons, List.length_nil, List.length_append, List.length_take, List.length_drop]; omega) | (refine ⟨?_, ?_, ?_⟩ <;> first | decide | omega | (simp only [List.length_cons, List.length_nil, List.length_append, List.length_take, List.length_drop, Option.getD_some, Option.getD_none]; omega)))
local macro_rules | `(tactic| walk_at "st") => `(tactic| repeat (first | refine ⟨_, rfl, ?_⟩ | refine ⟨_, _, rfl, rfl, ?_⟩ | walk_at "ixl" | walk_at "setl" | refine ⟨rfl, ?_⟩ | refine Or.inl ⟨_, rfl, ?_⟩ | refine And.intro (by walk_at "cond") ?_))
section
variable {P : Program} {w : World} {K : PySem.W.Frag} {mg : Str → Option Value} {base : Heap}
/-- what is never called -/
def spNo : Sp := fun _ _ _ _ => False
theorem ok_no {x qual : Str} {st : Stmt} {f : Addr} {fd : FuncData} {N ps : List Str} (F : Fun K x qual st f fd) (S : FnScope N ps (defScope st)) : FnOk P w K mg base CX0 1 f fd ps spNo :=
  F.ok (k := 0) S (fun _ _ _ _ h => h.elim) fun _ _ _ _ _ _ _ _ _ h => h.elim
def spPO (C CB : Addr) : Sp := fun vs H Q E => Hd (∃ (l : List Nat) (o : Option (List Pc)), vs = [.str (SX.S l), .str (SX.S [36])] ∧ l.length ≤ 99000 ∧ Dp l o ∧
  (o = none → ∀ (d : Addr) (H' : Hp), H' d = some (.xd [("fmt", .str (SX.S l))]) → Same H H' → E (.ref CB) (some d) H') ∧
  (∀ ps, o = some ps → ∀ (p : Addr) (H' : Hp) (vs : List V) (qs : List Pc), H p = none → H' p = some (.lst vs) → PcsV C H' vs qs → nms qs = nms ps → vs.length ≤ l.length → Same H H' → Q (.ref p) H'))
theorem ok_piecesof (T : Txt K mg) : FnOk P w K mg base (L2.CX P w) 5 T.f_pieces_of T.fd_pieces_of ["fmt", "style"] (spPO T.C_Field T.c_BadFormat) := by
  have G_dollar_pieces : FnOk P w K mg base (L2.CX P w) 4 _ _ _ (spDP T.C_Field T.c_BadFormat) := ok_dpieces T
  have G_joined : FnOk P w K mg base CX0 1 _ _ _ (spJoin T.C_Field) := ok_joined T
  have G_brace_pieces : FnOk P w K mg base CX0 1 _ _ ["fmt"] spNo := ok_no T.D_brace_pieces.F sc_brace_pieces
  have G_Field : FnOk P w K mg base CX0 1 _ _ _ (spFld T.C_Field) := ok_Field T
  obtain ⟨dsF, hdF, hbF⟩ := bi_Field T
  refine T.D_pieces_of.F.okX sc_pieces_of (fun vs H Q E h => ?_) (fun cdv A outer s H vs Q E hr h => ?_)
  · obtain ⟨l, o, rfl, _⟩ := h.out
    rfl
  · obtain ⟨l, o, rfl, hz, hD, kE, kQ⟩ := h.out
    refine ⟨_, (pss_cons (ps_if (pt_cmpR op_isN (pv 0) pe_non (nomark _))
    (pss_one (ps_ret (pe_lst (pa_cons (pe_make T.M_Field G_Field (hr.mono (by first | decide | omega)) rfl T.g_Field hbF hdF pass0 (pa_cons (SL.pe_strL [109, 101, 115, 115, 97, 103, 101] (by decide +kernel)) pa_nil)) pa_nil))))
    pss_nil)
  (pss_cons (ps_if (pt_not (pt_val (pe_callB call_isi (by rfl) T.B.n_isinstance (by decide +kernel) (pa_cons (pv 0) (pa_cons (pe_bltn (v := .ty "str") (u := .type "str") (by rfl) T.B.n_str (by decide +kernel) rfl) pa_nil)))))
    (pss_one (ps_raise rfl (takes_of rfl rfl rfl rfl) (pmk_err T.E_BadFormat hr (pa_cons (pv 0) pa_nil) rfl)))
    pss_nil)
  (pss_cons (ps_if (pt_cmpR SL.op_eqL (pv 1) (SL.pe_strL [123] (by decide +kernel)) (nomark _))
    (pss_one (ps_ret (pe_call G_joined (hr.mono (by first | decide | omega)) rfl T.D_joined.g T.D_joined.F.kp T.D_joined.b .nil pass0 (pa_cons (pe_call G_brace_pieces (hr.mono (by first | decide | omega)) rfl T.D_brace_pieces.g T.D_brace_pieces.F.kp T.D_brace_pieces.b .nil pass0 (pa_cons (pv 0) pa_nil)) pa_nil))))
    pss_nil)
  (pss_one (ps_ret (pe_call G_joined (hr.mono (by first | decide | omega)) rfl T.D_joined.g T.D_joined.F.kp T.D_joined.b .nil pass0 (pa_cons (pe_call G_dollar_pieces (hr.mono (by first | decide | omega)) rfl T.D_dollar_pieces.g T.D_dollar_pieces.F.kp T.D_dollar_pieces.b .nil (passes_call (takes_of rfl rfl rfl rfl) (fun _ _ _ _ h => h)) (pa_cons (pv 0) pa_nil)) pa_nil))))))), ?_⟩
    walk_at "st"
    refine ⟨_, _, _, _, true, rfl, .ty "str", .base (.str _), kit_ty (by decide +kernel), ?_⟩
    walk_at "st"
    refine .a ⟨l, o, rfl, hz, hD, fun e d H' hd hS => kE e d H' hd hS, fun ps e p H1 vs hp h1 h2 h3 h4 => ?_⟩
    walk_at "st"
    have ht := hD.tlen_le ps e
    refine .a ⟨p, vs, ps, rfl, h1, h2, by omega, by omega, fun q H2 us qs hq g1 g2 g3 g4 g5 => ?_⟩
    walk_at "st"
    exact kQ ps e q H2 us qs (h4.free hq) g1 g2 g3 (by omega) (h4.trans g5)
end
end My

namespace My
open PySem PySem.Spec PyProof.Rows L2
local macro_rules | `(tactic| walk_at "hp") => `(tactic| first | assumption | exact upd_same | (refine Eq.trans (upd_ne (by first | assumption | (apply Ne.symm; assumption))) ?_; walk_at "hp"))
local macro_rules | `(tactic| walk_at "ixl") => `(tactic| (refine' ⟨_, ?xs, _, ?vv, rfl, rfl, SqL.of ?hh, ?aa, ?qq⟩; (case hh => walk_at "hp"); (case aa => rfl)))
local macro_rules | `(tactic| walk_at "setl") => `(tactic| (refine' ⟨_, ?xs, _, ?jj, rfl, rfl, ?hh, ?aa, ?qq⟩; (case hh => walk_at "hp"); (case aa => rfl)))
local macro_rules | `(tactic| walk_at "cond") => `(tactic| first | exact ⟨_, rfl⟩ | exact Nat.le_of_lt (small1000 (Nat.le_of_ble_eq_true rfl)) | decide | omega | (dsimp only; omega) | exact ⟨by decide, by decide⟩ | exact Or.inr ⟨by decide, by decide⟩ | exact Or.inl ⟨by decide, by decide⟩ | exact ⟨by decide, by decide, by decide⟩ | exact ⟨by omega, by omega⟩ | exact ⟨by omega, by omega, by omega⟩ | (simp only [List.length_cons, List.length_nil, List.length_append, List.length_take, List.length_drop]; omega) | (refine ⟨?_, ?_, ?_⟩ <;> first | decide | omega | (simp only [List.length_cons, List.length_nil, List.length_append, List.length_take, List.length_drop, Option.getD_some, Option.getD_none]; omega)))
local macro_rules | `(tactic| walk_at "st") => `(tactic| repeat (first | refine ⟨_, rfl, ?_⟩ | refine ⟨_, _, rfl, rfl, ?_⟩ | walk_at "ixl" | walk_at "setl" | refine ⟨rfl, ?_⟩ | refine Or.inl ⟨_, rfl, ?_⟩ | refine And.intro (by walk_at "cond") ?_))
theorem isiK {X : Cx} {K : PySem.W.Frag} (h : X.K = K) : CallR X (.builtin "isinstance") (rIsi K) := by
  subst h
  exact call_isi
theorem fldK {X : Cx} {K : PySem.W.Frag} {e : Expr} {f : Str} {pos : Pos} {ta : TE} (h : X.K = K) (he : PE X e ta) (hb : attributeBase e f X.env (eval e X.env) = eval e X.env) : PE X (.Attribute e f pos) (tFld K ta f) := by
  subst h
  exact pe_fld he hb
/-- a comprehension over a list that stands -/
theorem comp_list {K : PySem.W.Frag} {a D : Addr} {xs : List V} {g : TG} {tt : TT} {te : TE} {σ : L2.St} {vs : List Nat} {H1 : Hp} {Q : Hp → Prop} (W : Nat → Hp → Prop) (hst : ∀ i H, W i H → H a = some (.lst xs)) (h0 : W 0 (upd H1 D (.lst []))) (hend : ∀ H, W xs.length H → Q H)
    (hs : ∀ (i : Nat) H x, W i H → xs[i]? = some x → ∀ N : Hp → Prop, N = (fun H' => Hd (W (i + 1) H')) → g x (wipe σ vs) H fun σ2 H2 => wipe σ2 vs = wipe σ vs ∧ tt σ2 H2 fun b H3 => if b = true then te σ2 H3 fun y H4 => ∃ acc, H4 D = some (.lst acc) ∧ acc.length < sizeLine ∧ N (upd H4 D (.lst (acc ++ [y]))) else N H3) :
    ∃ W : Nat → Nat → Hp → Prop, (∃ m, W 0 m (upd H1 D (.lst []))) ∧ ∀ i m H, W i m H → ((Itl K a).stop i H ∧ Q H) ∨ ((Itl K a).go i H ∧ ∃ Nx : Hp → Prop, (∀ H', Nx H' → ∃ m', m' < m ∧ W (i + 1) m' H') ∧
      ∀ x H', (Itl K a).yld i H x H' → g x (wipe σ vs) H' fun σ2 H2 => wipe σ2 vs = wipe σ vs ∧ tt σ2 H2 fun b H3 => if b = true then te σ2 H3 fun y H4 => ∃ acc, H4 D = some (.lst acc) ∧ acc.length < sizeLine ∧ Nx (upd H4 D (.lst (acc ++ [y]))) else Nx H3) := by
  refine ⟨fun i m H => W i H ∧ m = xs.length - i ∧ i ≤ xs.length, ⟨_, h0, rfl, Nat.zero_le _⟩, ?_⟩
  rintro i m H ⟨hw, rfl, hi⟩
  have hl := hst i H hw
  by_cases hlt : i < xs.length
  · refine .inr ⟨⟨xs, xs[i], SqL.of hl, List.getElem?_eq_getElem hlt⟩, fun H' => Hd (W (i + 1) H'), fun H' z => ⟨xs.length - (i + 1), by omega, z.out, rfl, by omega⟩, ?_⟩
    rintro x H' ⟨rfl, hx⟩
    exact hs i H' x hw (hx xs (SqL.of hl)) _ rfl
  · have e : i = xs.length := by omega
    subst e
    exact .inl ⟨⟨xs, SqL.of hl, Nat.le_refl _⟩, hend H hw⟩
section
variable {P : Program} {w : World} {K : PySem.W.Frag} {mg : Str → Option Value} {base : Heap}
theorem nms_len : ∀ ps : List Pc, (nms ps).length ≤ ps.length
  | [] => Nat.le_refl _
  | .txt _ :: r => Nat.le_succ_of_le (nms_len r)
  | .fld _ :: r => Nat.succ_le_succ (nms_len r)
def txV (ns : List (List Nat)) : List V := ns.map fun n => .str (SX.S n)
def spFields (C CF : Addr) : Sp := fun vs H Q _ => Hd (∃ (x dx a : Addr) (fs : List (Str × V)) (us : List V) (qs : List Pc), vs = [.ref x] ∧ H x = some (.ins CF dx fs) ∧ fs.lookup ("pieces" : Str) = some (V.ref a) ∧ H a = some (.lst us) ∧ PcsV C H us qs ∧ us.length ≤ 99000 ∧
  ∀ (t : Addr) (H' : Hp), H t = none → H' t = some (.tup (txV (nms qs))) → Same H H' → Q (.ref t) H')
theorem ok_fields (T : Txt K mg) : FnOk P w K mg base CX0 1 T.m_fields T.fdm_fields ["self"] (spFields T.C_Field T.C_Formatter) := by
  refine T.F_fields.ok sc_Formatter_fields (fun vs H Q E h => ?_) (fun cdv A outer s H vs Q E hr h => ?_)
  · obtain ⟨x, dx, a, fs, us, qs, rfl, _⟩ := h.out
    rfl
  · obtain ⟨x, dx, a, fs, us, qs, rfl, hx, hf, ha, hq, hl, k⟩ := h.out
    refine ⟨_, (pss_one (ps_ret (pe_callTy call_tuple_of (by rfl) T.B.n_tuple (by decide +kernel) (pa_cons (pe_lc (own := [("piece", 1)]) (g := gName 1) rfl sc_Formatter_fields.nd (pi_list (pe_fld (pv 0) rfl)) (blkOk_by (N := ["self", "piece"]) (sc := defScope s_Formatter_fields) (by decide +kernel)) (fun _ _ _ _ _ => (pg_name (i := 1) sc_Formatter_fields.nd rfl (by first | exact Or.inl rfl | exact Or.inr rfl))) (fun _ _ _ _ _ => (pts_one (pt_val (pe_callB (isiK (K := K) rfl) (by rfl) T.B.n_isinstance (by decide +kernel) (pa_cons (pv 1) (pa_cons (pe_glob (v := .ref (T.C_Field)) (u := .ref (T.C_Field)) rfl T.g_Field rfl) pa_nil)))))) (fun _ _ _ _ _ => (fldK (K := K) rfl (pv 1) rfl))) pa_nil)))), ?_⟩
    walk_at "st"
    refine ⟨x, T.C_Formatter, dx, fs, .ref a, rfl, hx, T.cl_Formatter, T.na_pieces, hf, ?_⟩
    walk_at "st"
    refine ⟨⟨us, SqL.of ha⟩, ?_⟩
    intro D hD
    have Da : a ≠ D := fun z => by rw [z, hD] at ha; cases ha
    refine comp_list (xs := us) (fun i H1 => H1 D = some (.lst (txV (nms (qs.take i)))) ∧ Same H H1) ?_ ⟨upd_same, same_new hD⟩ ?_ ?_
    · rintro i H1 ⟨h1, h2⟩
      exact h2 _ _ ha
    · rintro H1 ⟨h1, h2⟩
      walk_at "st"
      refine ⟨D, _, rfl, .inl ⟨SqL.of h1, fun l hl => ?_⟩⟩
      refine k l _ (h2.free hl) ?_ (same_put h2 (h2.free hl))
      rw [hq.len, List.take_length]
      exact upd_same
    · rintro i H1 v ⟨h1, h2⟩ hv N hN
      obtain ⟨pc, hpc, hv0⟩ := hq.get hv
      have hv1 : PcV T.C_Field H1 v pc := hv0.mono h2
      obtain ⟨t, t1, _, t3⟩ := isi_pc T hv1
      have htk : qs.take (i + 1) = qs.take i ++ [pc] := take_snoc hpc
      have hil : i < us.length := (List.getElem?_eq_some_iff.mp hv).1
      walk_at "st"
      refine ⟨v, _, t, _, _, rfl, .own T.C_Field, t1, t3, ?_⟩
      walk_at "st"
      cases pc with
      | txt l =>
        refine if_false_of rfl ?_
        rw [hN]
        refine .a ⟨?_, h2⟩
        rw [htk, nms_app]
        show H1 D = some (.lst (txV (nms (qs.take i) ++ [])))
        rw [List.append_nil]
        exact h1
      | fld n =>
        obtain ⟨y, dy, rfl, hy⟩ := hv1
        refine if_true_of rfl ?_
        walk_at "st"
        refine ⟨y, T.C_Field, dy, fldF n, _, rfl, hy, T.I_Field.cl, T.na_name, rfl, ?_⟩
        refine ⟨_, h1, szl ?_, ?_⟩
        · have : (nms (qs.take i)).length ≤ (qs.take i).length := nms_len _
          have e : (txV (nms (qs.take i))).length = (nms (qs.take i)).length := List.length_map ..
          rw [e]
          rw [List.length_take] at this; omega
        · rw [hN]
          refine .a ⟨?_, same_put h2 hD⟩
          rw [htk, nms_app]
          show _ = some (HO.lst (txV (nms (qs.take i) ++ [n])))
          unfold txV
          rw [List.map_append]
          exact upd_same
end
end My

namespace My
open PySem PySem.Spec PyProof.Rows L2
local macro_rules | `(tactic| walk_at "hp") => `(tactic| first | assumption | exact upd_same | (refine Eq.trans (upd_ne (by first | assumption | (apply Ne.symm; assumption))) ?_; walk_at "hp"))
local macro_rules | `(tactic| walk_at "ixl") => `(tactic| (refine' ⟨_, ?xs, _, ?vv, rfl, rfl, SqL.of ?hh, ?aa, ?qq⟩; (case hh => walk_at "hp"); (case aa => rfl)))
local macro_rules | `(tactic| walk_at "setl") => `(tactic| (refine' ⟨_, ?xs, _, ?jj, rfl, rfl, ?hh, ?aa, ?qq⟩; (case hh => walk_at "hp"); (case aa => rfl)))
local macro_rules | `(tactic| walk_at "cond") => `(tactic| first | exact ⟨_, rfl⟩ | exact Nat.le_of_lt (small1000 (Nat.le_of_ble_eq_true rfl)) | decide | omega | (dsimp only; omega) | exact ⟨by decide, by decide⟩ | exact Or.inr ⟨by decide, by decide⟩ | exact Or.inl ⟨by decide, by decide⟩ | exact ⟨by decide, by decide, by decide⟩ | exact ⟨by omega, by omega⟩ | exact ⟨by omega, by omega, by omega⟩ | (simp only [List.length_cons, List.length_nil, List.length_append, List.length_take, List.length_drop]; omega) | (refine ⟨?_, ?_, ?_⟩ <;> first | decide | omega | (simp only [List.length_cons, List.length_nil, List.length_append, List.length_take, List.length_drop, Option.getD_some, Option.getD_none]; omega)))
local macro_rules | `(tactic| walk_at "st") => `(tactic| repeat (first | refine ⟨_, rfl, ?_⟩ | refine ⟨_, _, rfl, rfl, ?_⟩ | walk_at "ixl" | walk_at "setl" | refine ⟨rfl, ?_⟩ | refine Or.inl ⟨_, rfl, ?_⟩ | refine And.intro (by walk_at "cond") ?_))
/-- all but x stands -/
def SameX (x : Addr) (H H' : Hp) : Prop := ∀ c u, c ≠ x → H c = some u → H' c = some u
theorem PcV.keepX {C CF x : Addr} {dx : Addr} {fs : List (Str × V)} {H H' : Hp} {v : V} (hx : H x = some (.ins CF dx fs)) (hf : ∀ n, fs ≠ fldF n) (s : SameX x H H') : ∀ {p : Pc}, PcV C H v p → PcV C H' v p
  | .txt _, h => h
  | .fld n, ⟨y, dy, e, h⟩ => ⟨y, dy, e, s _ _ (fun z => by
    rw [z, hx] at h
    injection h with h
    injection h with _ _ h
    exact hf n h) h⟩
theorem PcsV.keepX {C CF x : Addr} {dx : Addr} {fs : List (Str × V)} {H H' : Hp} {vs : List V} {ps : List Pc} (hx : H x = some (.ins CF dx fs)) (hf : ∀ n, fs ≠ fldF n) (h : PcsV C H vs ps) (s : SameX x H H') : PcsV C H' vs ps := by
  induction h with
  | nil => exact .nil
  | cons h _ ih => exact .cons (h.keepX hx hf s) ih
section
variable {P : Program} {w : World} {K : PySem.W.Frag} {mg : Str → Option Value} {base : Heap}
def fmF (a dd : Addr) : List (Str × V) := [("pieces", .ref a), ("defaults", .ref dd)]
/-- a made formatter -/
structure FmAt (C CF : Addr) (H : Hp) (x : Addr) (ns : List (List Nat)) (N : Nat) : Prop where
  ex : ∃ (dx a dd : Addr) (us : List V) (qs : List Pc), H x = some (.ins CF dx (fmF a dd)) ∧ H a = some (.lst us) ∧ PcsV C H us qs ∧ nms qs = ns ∧ us.length ≤ N
def spFm (C CF CB : Addr) : Sp := fun vs H Q E => Hd (∃ (x dx : Addr) (l : List Nat) (b : Bool) (o : Option (List Pc)), vs = [.ref x, .str (SX.S l), .str (SX.S [36]), .bl b, .non] ∧ H x = some (.ins CF dx []) ∧ l.length ≤ 99000 ∧ Dp l o ∧
  ((o = none ∨ ∃ ps, o = some ps ∧ nms ps = [] ∧ b = true) → ∀ (d : Addr) (H' : Hp), H' d = some (.xd [("fmt", .str (SX.S l))]) → SameX x H H' → E (.ref CB) (some d) H') ∧
  (∀ ps, o = some ps → (nms ps ≠ [] ∨ b = false) → ∀ H', FmAt C CF H' x (nms ps) l.length → SameX x H H' → Q .non H'))
def spStyle : Sp := fun vs H Q _ => Hd (vs = [.str (SX.S [36])] ∧ Q (.bl true) H)
theorem ok_style (T : Txt K mg) : FnOk P w K mg base CX0 1 T.f_is_style T.fd_is_style ["thing"] spStyle := by
  refine T.D_is_style.F.ok sc_is_style (fun vs H Q E h => ?_) (fun cdv A outer s H vs Q E hr h => ?_)
  · obtain ⟨rfl, _⟩ := h.out
    rfl
  · obtain ⟨rfl, k⟩ := h.out
    refine ⟨_, (pss_one (ps_ret (pe_or (pe_cmpR SL.op_eqL (pv 0) (SL.pe_strL [123] (by decide +kernel)) (nomark _)) (pe_one (pe_cmpR SL.op_eqL (pv 0) (SL.pe_strL [36] (by decide +kernel)) (nomark _)))))), ?_⟩
    walk_at "st"
    exact k
theorem ok_init (T : Txt K mg) : FnOk P w K mg base (L2.CX P w) 6 T.i_Formatter T.fdi_Formatter ["self", "fmt", "style", "validate", "defaults"] (spFm T.C_Field T.C_Formatter T.c_BadFormat) := by
  have G_pieces_of : FnOk P w K mg base (L2.CX P w) 5 _ _ _ (spPO T.C_Field T.c_BadFormat) := ok_piecesof T
  have G_is_style : FnOk P w K mg base CX0 1 _ _ _ spStyle := ok_style T
  have G_fields : FnOk P w K mg base CX0 1 _ _ _ (spFields T.C_Field T.C_Formatter) := ok_fields T
  have G_own_copy : FnOk P w K mg base CX0 1 _ _ ["thing"] spNo := ok_no T.D_own_copy.F sc_own_copy
  refine T.F_Formatter.ok (CX := L2.CX P w) sc_Formatter___init__ (fun vs H Q E h => ?_) (fun cdv A outer s H vs Q E hr h => ?_)
  · obtain ⟨x, dx, l, b, o, rfl, _⟩ := h.out
    rfl
  · obtain ⟨x, dx, l, b, o, rfl, hx, hz, hD, kE, kQ⟩ := h.out
    refine ⟨_, (pss_cons (ps_if (pt_not (pt_val (pe_call G_is_style (hr.mono (by first | decide | omega)) rfl T.D_is_style.g T.D_is_style.F.kp T.D_is_style.b .nil pass0 (pa_cons (pv 2) pa_nil))))
    (pss_one (ps_raise rfl (takes_of rfl rfl rfl rfl) (pmk_err T.E_BadStyle hr (pa_cons (pv 2) pa_nil) rfl)))
    pss_nil)
  (pss_cons (ps_fld (pv 0) (pe_call G_pieces_of (hr.mono (by first | decide | omega)) rfl T.D_pieces_of.g T.D_pieces_of.F.kp T.D_pieces_of.b .nil (passes_call (takes_of rfl rfl rfl rfl) (fun _ _ _ _ h => h)) (pa_cons (pv 1) (pa_cons (pv 2) pa_nil))) rfl)
  (pss_cons (ps_fld (pv 0) (pe_ifExp (pt_cmpR op_isN (pv 4) pe_non (nomark _)) pe_dnewK (pe_call G_own_copy (hr.mono (by first | decide | omega)) rfl T.D_own_copy.g T.D_own_copy.F.kp T.D_own_copy.b .nil pass0 (pa_cons (pv 4) pa_nil))) rfl)
  (pss_one (ps_if (PW.pt (pw_and (pt_val (pv 3)) (pw_and1 (pt_not (pt_truth (pe_meth0 (pv 0) T.cl_Formatter T.Me_fields G_fields (hr.mono (by first | decide | omega)) T.b_fields .nil pass0) (fun _ => rfl))))))
    (pss_one (ps_raise rfl (takes_of rfl rfl rfl rfl) (pmk_err T.E_BadFormat hr (pa_cons (pv 1) pa_nil) rfl)))
    pss_nil))))), ?_⟩
    walk_at "st"
    refine .a ⟨rfl, ?_⟩
    refine ⟨true, rfl, ?_⟩
    show if (!true) = true then _ else _
    refine if_false_of rfl ?_
    walk_at "st"
    refine .a ⟨l, o, rfl, hz, hD, fun e d H' hd hS => kE (.inl e) d H' hd (fun c u _ q => hS c u q), fun ps e a H1 us qs ha h1 h2 h3 h4 h5 => ?_⟩
    have hx1 := h5 _ _ hx
    have ax : a ≠ x := fun z => by rw [z, hx1] at h1; cases h1
    walk_at "st"
    refine ⟨x, T.C_Formatter, dx, _, rfl, hx1, T.cl_Formatter, T.na_pieces, Nat.le_of_ble_eq_true rfl, ?_⟩
    walk_at "st"
    intro dd hdd
    have dx2 : dd ≠ x := fun z => by rw [z, upd_same] at hdd; cases hdd
    have da : dd ≠ a := fun z => by rw [z, upd_ne ax, h1] at hdd; cases hdd
    walk_at "st"
    refine ⟨x, T.C_Formatter, dx, _, rfl, by rw [upd_ne dx2.symm]; exact upd_same, T.cl_Formatter, T.na_defaults, Nat.le_of_ble_eq_true rfl, ?_⟩
    walk_at "st"
    have hd1 : H1 dd = none := by rw [upd_ne dx2] at hdd; exact hdd
    have g1 : (upd (upd (upd H1 x (.ins T.C_Formatter dx (putF "pieces" (.ref a) []))) dd (.dK [])) x (.ins T.C_Formatter dx (putF "defaults" (.ref dd) (putF "pieces" (.ref a) [])))) x = some (.ins T.C_Formatter dx (fmF a dd)) := upd_same
    have g2 : SameX x H1 (upd (upd (upd H1 x (.ins T.C_Formatter dx (putF "pieces" (.ref a) []))) dd (.dK [])) x (.ins T.C_Formatter dx (putF "defaults" (.ref dd) (putF "pieces" (.ref a) [])))) := fun c u hc hu => by
      rw [upd_ne hc, upd_ne (fun z => by rw [z, hd1] at hu; cases hu), upd_ne hc]; exact hu
    generalize upd (upd (upd H1 x (.ins T.C_Formatter dx (putF "pieces" (.ref a) []))) dd (.dK [])) x (.ins T.C_Formatter dx (putF "defaults" (.ref dd) (putF "pieces" (.ref a) []))) = H2 at g1 g2 ⊢
    have g3 : H2 a = some (.lst us) := g2 _ _ ax h1
    have g4 : PcsV T.C_Field H2 us qs := PcsV.keepX hx1 (fun n e => by cases e) h2 g2
    have g5 : SameX x H H2 := fun c u hc hu => g2 c u hc (h5 _ _ hu)
    cases b with
    | false =>
      refine if_false_of rfl ?_
      refine if_false_of rfl ?_
      walk_at "st"
      exact kQ ps e (.inr rfl) H2 ⟨dx, a, dd, us, qs, g1, g3, g4, h3, h4⟩ g5
    | true =>
      refine if_true_of rfl ?_
      walk_at "st"
      refine ⟨x, dx, _, rfl, g1, rfl, ?_⟩
      walk_at "st"
      refine .a ⟨x, dx, a, _, us, qs, rfl, g1, rfl, g3, g4, by omega, fun t H3 ht k1 k2 => ?_⟩
      refine ⟨_, .inr (.inl ⟨_, SqT.of k1, rfl⟩), ?_⟩
      have g6 : SameX x H H3 := fun c u hc hu => k2 _ _ (g5 c u hc hu)
      cases hn : nms ps with
      | nil =>
        rw [h3, hn]
        refine if_true_of rfl ?_
        walk_at "st"
        intro d hd
        refine kE (.inr ⟨ps, e, hn, rfl⟩) d _ upd_same fun c u hc hu => ?_
        have := g6 c u hc hu
        rw [upd_ne (fun z => by rw [z, hd] at this; cases this)]; exact this
      | cons n ns =>
        rw [h3, hn]
        refine if_false_of rfl ?_
        walk_at "st"
        exact kQ ps e (.inl (by rw [hn]; exact List.cons_ne_nil _ _)) H3 ⟨dx, a, dd, us, qs, k2 _ _ g1, k2 _ _ g3, g4.mono k2, h3, h4⟩ g6
end
end My

namespace My
open PySem PySem.Spec PyProof.Rows L2
local macro_rules | `(tactic| walk_at "hp") => `(tactic| first | assumption | exact upd_same | (refine Eq.trans (upd_ne (by first | assumption | (apply Ne.symm; assumption))) ?_; walk_at "hp"))
local macro_rules | `(tactic| walk_at "ixl") => `(tactic| (refine' ⟨_, ?xs, _, ?vv, rfl, rfl, SqL.of ?hh, ?aa, ?qq⟩; (case hh => walk_at "hp"); (case aa => rfl)))
local macro_rules | `(tactic| walk_at "setl") => `(tactic| (refine' ⟨_, ?xs, _, ?jj, rfl, rfl, ?hh, ?aa, ?qq⟩; (case hh => walk_at "hp"); (case aa => rfl)))
local macro_rules | `(tactic| walk_at "cond") => `(tactic| first | exact ⟨_, rfl⟩ | exact Nat.le_of_lt (small1000 (Nat.le_of_ble_eq_true rfl)) | decide | omega | (dsimp only; omega) | exact ⟨by decide, by decide⟩ | exact Or.inr ⟨by decide, by decide⟩ | exact Or.inl ⟨by decide, by decide⟩ | exact ⟨by decide, by decide, by decide⟩ | exact ⟨by omega, by omega⟩ | exact ⟨by omega, by omega, by omega⟩ | (simp only [List.length_cons, List.length_nil, List.length_append, List.length_take, List.length_drop]; omega) | (refine ⟨?_, ?_, ?_⟩ <;> first | decide | omega | (simp only [List.length_cons, List.length_nil, List.length_append, List.length_take, List.length_drop, Option.getD_some, Option.getD_none]; omega)))
local macro_rules | `(tactic| walk_at "st") => `(tactic| repeat (first | refine ⟨_, rfl, ?_⟩ | refine ⟨_, _, rfl, rfl, ?_⟩ | walk_at "ixl" | walk_at "setl" | refine ⟨rfl, ?_⟩ | refine Or.inl ⟨_, rfl, ?_⟩ | refine And.intro (by walk_at "cond") ?_))
section
variable {P : Program} {w : World} {K : PySem.W.Frag} {mg : Str → Option Value} {base : Heap}
theorem ok_draw (T : Txt K mg) : FnOk P w K mg base CX0 1 T.f__law_draw T.fd__law_draw ["_law_stream", "_law_many"] spDraw := by
  refine T.D__law_draw.F.ok sc__law_draw (fun vs H Q E h => ?_) (fun cdv A outer s H vs Q E hr h => ?_)
  · obtain ⟨p, q, n, m, rfl, _⟩ := h.out
    rfl
  · obtain ⟨p, q, n, m, rfl, S, hn, hm, hm2, k⟩ := h.out
    have hu64 := hr.units
    refine ⟨_, (pss_cons (ps_while PassesOwn.never (PW.pt (pw_and (pt_cmpR op_eq (pe_ix ix_list (pv 0) pe_int (fun _ _ => rfl)) pe_int (nomark _)) (pw_and1 (pt_cmpR (op_neD hu64) (pe_ix ix_list (pv 0) pe_int (fun _ _ => rfl)) (pe_lst pa_nil) (nomark _)))))
    (pss_cons (ps_asg (pe_bm PySem.F.plainAttrs_list PySem.F.slot_list_pop PySem.F.type_list_pop mt_popAt (pe_ix ix_list (pv 0) pe_int (fun _ _ => rfl)) (pa_cons pe_int pa_nil)) (pg_sub (pv 0) pe_int set_list (fun _ => rfl)))
  (pss_one (ps_if (pt_cmpR op_lt (pe_ix ix_list (pv 0) pe_int (fun _ _ => rfl)) (pe_op op_pow pe_int pe_int) (nomark _))
    (pss_cons (ps_asg (pe_op op_mod (pe_callTy call_int1 (by rfl) T.B.n_int (by decide +kernel) (pa_cons (pe_op op_add (pe_op op_add (pe_op op_mul (pe_ix ix_list (pv 0) pe_int (fun _ _ => rfl)) pe_int) (pe_ix ix_list (pv 0) pe_int (fun _ _ => rfl))) pe_int) pa_nil)) pe_int) (pg_sub (pv 0) pe_int set_list (fun _ => rfl)))
  (pss_one (ps_asg pe_int (pg_sub (pv 0) pe_int set_list (fun _ => rfl)))))
    pss_nil))))
  (pss_cons (ps_if (pt_cmpR op_gt (pe_ix ix_list (pv 0) pe_int (fun _ _ => rfl)) pe_int (nomark _))
    (pss_cons (ps_set (i := 2) sc__law_draw.nd rfl (by first | exact Or.inl rfl | exact Or.inr rfl) (pe_op op_mod (pe_callTy call_int1 (by rfl) T.B.n_int (by decide +kernel) (pa_cons (pe_ix ix_list (pv 0) pe_int (fun _ _ => rfl)) pa_nil)) (pv 1)))
  (pss_cons (ps_asg (pe_op op_fdiv (pe_ix ix_list (pv 0) pe_int (fun _ _ => rfl)) (pv 1)) (pg_sub (pv 0) pe_int set_list (fun _ => rfl)))
  (pss_one (ps_ret (pv 2)))))
    pss_nil)
  (pss_cons (ps_asg (pe_op op_add (pe_ix ix_list (pv 0) pe_int (fun _ _ => rfl)) pe_int) (pg_sub (pv 0) pe_int set_list (fun _ => rfl)))
  (pss_cons (ps_set (i := 3) sc__law_draw.nd rfl (by first | exact Or.inl rfl | exact Or.inr rfl) (pe_op op_mod (pe_callTy call_int1 (by rfl) T.B.n_int (by decide +kernel) (pa_cons (pe_op op_pow (pe_op op_add (pe_op op_add (pe_ix ix_list (pv 0) pe_int (fun _ _ => rfl)) (pe_op op_mul pe_int (pe_ix ix_list (pv 0) pe_int (fun _ _ => rfl)))) pe_int) pe_int) pa_nil)) pe_int))
  (pss_cons (ps_set (i := 4) sc__law_draw.nd rfl (by first | exact Or.inl rfl | exact Or.inr rfl) (pe_op op_mod (pe_callTy call_int1 (by rfl) T.B.n_int (by decide +kernel) (pa_cons (pe_op op_pow (pe_op op_add (pe_op op_add (pe_op op_mul (pv 3) pe_int) (pe_op op_mul (pe_op op_mul pe_int (pe_ix ix_list (pv 0) pe_int (fun _ _ => rfl))) (pe_ix ix_list (pv 0) pe_int (fun _ _ => rfl)))) pe_int) pe_int) pa_nil)) pe_int))
  (pss_one (ps_ret (pe_op op_mod (pe_callTy call_int1 (by rfl) T.B.n_int (by decide +kernel) (pa_cons (pv 4) pa_nil)) (pv 1))))))))), ?_⟩
    obtain ⟨⟨cs, a, c, SA⟩, n0, n1⟩ := S
    refine while_ex (fun l σ H1 => ∃ cs a c, cs.length = l ∧ σ = [some (.ref p), some (.int m), none, none, none] ∧ StmA H1 p q n cs a c ∧ Same (off H p q) (off H1 p q))
      (fun σ H1 => ∃ cs a c, σ = [some (.ref p), some (.int m), none, none, none] ∧ StmA H1 p q n cs a c ∧ Same (off H p q) (off H1 p q)) ⟨cs.length, cs, a, c, rfl, rfl, SA, Same.refl _⟩ ?_ ?_
    · rintro σ H1 ⟨cs, a, c, rfl, SA, fr⟩
      have hpq := SA.ne
      obtain ⟨hp, hq, a0, c0, c1⟩ := SA
      walk_at "st"
      by_cases ha : a > 0
      · refine if_true_of (decide_eq_true ha) ?_
        walk_at "st"
        refine k (a % m) n _ (Int.emod_nonneg _ (by omega)) (Int.emod_lt_of_pos _ hm) (by omega) ⟨⟨cs, a / m, c, ⟨upd_same, ?_, Int.ediv_nonneg a0 (by omega), c0, c1⟩⟩, n0, n1⟩ ?_
        · rw [upd_ne hpq.symm]; exact hq
        · rw [off_p]; exact fr
      · refine if_false_of (decide_eq_false ha) ?_
        walk_at "st"
        have sq0 : 0 ≤ (n + 1) * (n + 1) := Int.mul_nonneg (by omega) (by omega)
        have sq1 : (n + 1) * (n + 1) ≤ 100000 * 100000 := Int.mul_le_mul hn hn (by omega) (by omega)
        have sqe : 40503 * (n + 1) * (n + 1) = 40503 * ((n + 1) * (n + 1)) := Int.mul_assoc _ _ _
        refine ⟨Or.inr ⟨by omega, by omega⟩, ?_⟩
        walk_at "st"
        refine k _ (n + 1) _ (Int.emod_nonneg _ (by omega)) (Int.emod_lt_of_pos _ hm) (by omega) ⟨⟨cs, a, c, ⟨upd_same, ?_, a0, c0, c1⟩⟩, by omega, hn⟩ ?_
        · rw [upd_ne hpq.symm]; exact hq
        · rw [off_p]; exact fr
    · rintro R fin l σ H1 ⟨cs, a, c, rfl, rfl, SA, fr⟩ NW hNW
      have hpq := SA.ne
      obtain ⟨hp, hq, a0, c0, c1⟩ := SA
      walk_at "st"
      by_cases ha : a = 0
      · refine if_true_of (decide_eq_true (congrArg V.int ha)) ?_
        walk_at "st"
        intro x hx
        have xp : p ≠ x := ne_of_none hp hx
        have xq : q ≠ x := ne_of_none hq hx
        refine ⟨.list (cs.map PyData.int), .list [], .lst (SqL.of (by rw [upd_ne xq]; exact hq)) (dpAll_ints cs), .lst (SqL.of upd_same) .nil, shaped_ints cs, rfl, _, rfl, ?_⟩
        have fr2 : Same (off H p q) (off (upd H1 x (.lst [])) p q) := fr.trans (off_new hx)
        have hp2 : (upd H1 x (.lst [])) p = some (.lst [.ref q, .int a, .int n, .int c]) := by rw [upd_ne xp]; exact hp
        have hq2 : (upd H1 x (.lst [])) q = some (.lst (cs.map V.int)) := by rw [upd_ne xq]; exact hq
        generalize upd H1 x (.lst []) = H2 at fr2 hp2 hq2 ⊢
        cases cs with
        | nil =>
          refine if_false_of rfl ?_
          exact fin _ _ ⟨[], a, c, rfl, ⟨hp2, hq2, a0, c0, c1⟩, fr2⟩
        | cons z r =>
          refine if_true_of rfl ⟨NW, by rw [hNW]; exact fun _ _ => Hd.out, ?_⟩
          walk_at "st"
          refine ⟨.inl ⟨rfl, _, SqL.of hq2⟩, q, _, 0, 0, _, rfl, rfl, hq2, by decide, by decide, seqIndex0, rfl, ?_⟩
          walk_at "st"
          by_cases hz : z < 10 ^ 18
          · refine if_true_of (decide_eq_true hz) ?_
            walk_at "st"
            rw [hNW]; refine .a ⟨r.length, Nat.lt_succ_self _, r, 0, (c * 31 + z + 7) % 2147483647, rfl, rfl, ⟨upd_same, ?_, by decide, Int.emod_nonneg _ (by decide), Int.emod_lt_of_pos _ (by decide)⟩, ?_⟩
            · rw [upd_ne hpq.symm, upd_ne hpq.symm, upd_ne hpq.symm]; exact upd_same
            · rw [off_p, off_p, off_p, off_q]; exact fr2
          · refine if_false_of (decide_eq_false hz) ?_
            walk_at "st"
            rw [hNW]; refine .a ⟨r.length, Nat.lt_succ_self _, r, z, c, rfl, rfl, ⟨upd_same, ?_, by omega, c0, c1⟩, ?_⟩
            · rw [upd_ne hpq.symm]; exact upd_same
            · rw [off_p, off_q]; exact fr2
      · refine if_false_of (decide_eq_false fun e => ha (V.int.inj e)) ?_
        exact fin _ _ ⟨cs, a, c, rfl, ⟨hp, hq, a0, c0, c1⟩, fr⟩
def spPick : Sp := fun vs H Q _ => Hd (∃ (p q l : Addr) (n : Int) (xs : List V), vs = [.ref p, .ref l] ∧ Stm H p q n ∧ n + 1 ≤ 100000 ∧ off H p q l = some (.lst xs) ∧ 0 < xs.length ∧ xs.length < 1000 ∧
  ∀ (v : V) (n' : Int) (H' : Hp), v ∈ xs → n' ≤ n + 1 → Stm H' p q n' → Same (off H p q) (off H' p q) → Q v H')
theorem ok_pick (T : Txt K mg) : FnOk P w K mg base CX0 2 T.f__law_pick T.fd__law_pick ["_law_stream", "_law_some"] spPick := by
  have G__law_draw : FnOk P w K mg base CX0 1 T.f__law_draw T.fd__law_draw _ spDraw := ok_draw T
  refine T.D__law_pick.F.ok sc__law_pick (fun vs H Q E h => ?_) (fun cdv A outer s H vs Q E hr h => ?_)
  · obtain ⟨p, q, l, n, xs, rfl, _⟩ := h.out
    rfl
  · obtain ⟨p, q, l, n, xs, rfl, S, hn, hl, l0, l1, k⟩ := h.out
    refine ⟨_, (pss_one (ps_ret (pe_ix ix_list (pv 1) (pe_call G__law_draw (hr.mono (by first | decide | omega)) rfl T.D__law_draw.g T.D__law_draw.F.kp T.D__law_draw.b .nil pass0 (pa_cons (pv 0) (pa_cons (pe_callB call_len_seq (by rfl) T.B.n_len (by decide +kernel) (pa_cons (pv 1) pa_nil)) pa_nil))) (fun _ _ => rfl)))), ?_⟩
    have hl2 := off_same _ _ hl
    refine ⟨_, rfl, _, rfl, _, rfl, l, xs, rfl, .inl (SqL.of hl2), ?_⟩
    refine .a ⟨p, q, n, (xs.length : Int), rfl, S, hn, by omega, by omega, fun d n' H' d0 d1 hn' S' fr => ?_⟩
    obtain ⟨j, rfl⟩ : ∃ j : Nat, d = (j : Int) := ⟨d.toNat, by omega⟩
    have hj : j < xs.length := by omega
    refine ⟨l, xs, _, xs[j], rfl, rfl, SqL.of (off_same _ _ (fr _ _ hl)), atI_nat (by simp [hj]), ?_⟩
    exact k _ n' H' (List.getElem_mem hj) hn' S' fr
def spPickS : Sp := fun vs H Q _ => Hd (∃ (p q : Addr) (n : Int) (l : List Nat), vs = [.ref p, .str (SX.S l)] ∧ Stm H p q n ∧ n + 1 ≤ 100000 ∧ 0 < l.length ∧ l.length < 1000 ∧
  ∀ (c : Nat) (n' : Int) (H' : Hp), c ∈ l → n' ≤ n + 1 → Stm H' p q n' → Same (off H p q) (off H' p q) → Q (.str (SX.S [c])) H')
theorem ok_pickS (T : Txt K mg) : FnOk P w K mg base CX0 2 T.f__law_pick T.fd__law_pick ["_law_stream", "_law_some"] spPickS := by
  have G__law_draw : FnOk P w K mg base CX0 1 T.f__law_draw T.fd__law_draw _ spDraw := ok_draw T
  refine T.D__law_pick.F.ok sc__law_pick (fun vs H Q E h => ?_) (fun cdv A outer s H vs Q E hr h => ?_)
  · obtain ⟨p, q, n, l, rfl, _⟩ := h.out
    rfl
  · obtain ⟨p, q, n, l, rfl, S, hn, l0, l1, k⟩ := h.out
    refine ⟨_, (pss_one (ps_ret (pe_ix SL.ix_strL (pv 1) (pe_call G__law_draw (hr.mono (by first | decide | omega)) rfl T.D__law_draw.g T.D__law_draw.F.kp T.D__law_draw.b .nil pass0 (pa_cons (pv 0) (pa_cons (pe_callB SL.call_lenL (by rfl) T.B.n_len (by decide +kernel) (pa_cons (pv 1) pa_nil)) pa_nil))) (fun _ _ => rfl)))), ?_⟩
    walk_at "st"
    refine .a ⟨p, q, n, (l.length : Int), rfl, S, hn, by omega, by omega, fun d n' H' d0 d1 hn' S' fr => ?_⟩
    walk_at "st"
    intro c hc
    exact k c n' H' (List.mem_of_getElem? hc) hn' S' fr
end
end My

namespace My
open PySem PySem.Spec PyProof.Rows L2
local macro_rules | `(tactic| walk_at "hp") => `(tactic| first | assumption | exact upd_same | (refine Eq.trans (upd_ne (by first | assumption | (apply Ne.symm; assumption))) ?_; walk_at "hp"))
local macro_rules | `(tactic| walk_at "ixl") => `(tactic| (refine' ⟨_, ?xs, _, ?vv, rfl, rfl, SqL.of ?hh, ?aa, ?qq⟩; (case hh => walk_at "hp"); (case aa => rfl)))
local macro_rules | `(tactic| walk_at "setl") => `(tactic| (refine' ⟨_, ?xs, _, ?jj, rfl, rfl, ?hh, ?aa, ?qq⟩; (case hh => walk_at "hp"); (case aa => rfl)))
local macro_rules | `(tactic| walk_at "cond") => `(tactic| first | exact ⟨_, rfl⟩ | exact Nat.le_of_lt (small1000 (Nat.le_of_ble_eq_true rfl)) | decide | omega | (dsimp only; omega) | exact ⟨by decide, by decide⟩ | exact Or.inr ⟨by decide, by decide⟩ | exact Or.inl ⟨by decide, by decide⟩ | exact ⟨by decide, by decide, by decide⟩ | exact ⟨by omega, by omega⟩ | exact ⟨by omega, by omega, by omega⟩ | (simp only [List.length_cons, List.length_nil, List.length_append, List.length_take, List.length_drop]; omega) | (refine ⟨?_, ?_, ?_⟩ <;> first | decide | omega | (simp only [List.length_cons, List.length_nil, List.length_append, List.length_take, List.length_drop, Option.getD_some, Option.getD_none]; omega)))
local macro_rules | `(tactic| walk_at "st") => `(tactic| repeat (first | refine ⟨_, rfl, ?_⟩ | refine ⟨_, _, rfl, rfl, ?_⟩ | walk_at "ixl" | walk_at "setl" | refine ⟨rfl, ?_⟩ | refine Or.inl ⟨_, rfl, ?_⟩ | refine And.intro (by walk_at "cond") ?_))
/-- a comprehension over a range -/
theorem comp_rng {lo : Int} {n : Nat} {D : Addr} {g : TG} {tt : TT} {te : TE} {σ : L2.St} {vs : List Nat} {H1 : Hp} {Q : Hp → Prop} (W : Nat → Hp → Prop) (h0 : W 0 (upd H1 D (.lst []))) (hend : ∀ H, W n H → Q H)
    (hs : ∀ (i : Nat) H, i < n → W i H → ∀ N : Hp → Prop, N = (fun H' => Hd (W (i + 1) H')) → g (.int (lo + i)) (wipe σ vs) H fun σ2 H2 => wipe σ2 vs = wipe σ vs ∧ tt σ2 H2 fun b H3 => if b = true then te σ2 H3 fun y H4 => ∃ acc, H4 D = some (.lst acc) ∧ acc.length < sizeLine ∧ N (upd H4 D (.lst (acc ++ [y]))) else N H3) :
    ∃ W : Nat → Nat → Hp → Prop, (∃ m, W 0 m (upd H1 D (.lst []))) ∧ ∀ i m H, W i m H → ((Itr lo n).stop i H ∧ Q H) ∨ ((Itr lo n).go i H ∧ ∃ Nx : Hp → Prop, (∀ H', Nx H' → ∃ m', m' < m ∧ W (i + 1) m' H') ∧
      ∀ x H', (Itr lo n).yld i H x H' → g x (wipe σ vs) H' fun σ2 H2 => wipe σ2 vs = wipe σ vs ∧ tt σ2 H2 fun b H3 => if b = true then te σ2 H3 fun y H4 => ∃ acc, H4 D = some (.lst acc) ∧ acc.length < sizeLine ∧ Nx (upd H4 D (.lst (acc ++ [y]))) else Nx H3) := by
  refine ⟨fun i m H => W i H ∧ m = n - i ∧ i ≤ n, ⟨_, h0, rfl, Nat.zero_le _⟩, ?_⟩
  rintro i m H ⟨hw, rfl, hi⟩
  by_cases hlt : i < n
  · refine .inr ⟨hlt, fun H' => Hd (W (i + 1) H'), fun H' z => ⟨n - (i + 1), by omega, z.out, rfl, by omega⟩, ?_⟩
    rintro x H' ⟨rfl, rfl⟩
    exact hs i H' hlt hw _ rfl
  · have e : i = n := by omega
    subst e
    exact .inl ⟨Nat.le_refl _, hend H hw⟩
/-- a walk over a range -/
theorem for_rng {lo : Int} {n : Nat} {g : TG} {tb : TS} {D : Ends} {σ : L2.St} {H : Hp} (W : Nat → L2.St → Hp → Prop) (h0 : W 0 σ H) (hend : ∀ σ H, W n σ H → D.nx σ H)
    (hs : ∀ (R : L2.St → Hp → Prop) (i : Nat) σ H, i < n → W i σ H → ∀ N : L2.St → Hp → Prop, N = (fun σ' H' => Hd (W (i + 1) σ' H')) → g (.int (lo + i)) σ H fun σ2 H2 => tb { D with nx := N, ct := N, bk := D.nx } σ2 H2) :
    ∃ W : Nat → Nat → L2.St → Hp → Prop, (∃ m, W 0 m σ H) ∧ ∀ i m σ H, W i m σ H →
      ((Itr lo n).stop i H ∧ D.nx σ H) ∨ ((Itr lo n).go i H ∧ ∃ N : L2.St → Hp → Prop, (∀ σ' H', N σ' H' → ∃ m', m' < m ∧ W (i + 1) m' σ' H') ∧ ∀ x H', (Itr lo n).yld i H x H' → g x σ H' fun σ2 H2 => tb { D with nx := N, ct := N, bk := D.nx } σ2 H2) := by
  refine ⟨fun i m σ H => W i σ H ∧ m = n - i ∧ i ≤ n, ⟨_, h0, rfl, Nat.zero_le _⟩, ?_⟩
  rintro i m σ H ⟨hw, rfl, hi⟩
  by_cases hlt : i < n
  · refine .inr ⟨hlt, fun σ' H' => Hd (W (i + 1) σ' H'), fun σ' H' z => ⟨n - (i + 1), by omega, z.out, rfl, by omega⟩, ?_⟩
    rintro x H' ⟨rfl, rfl⟩
    exact hs D.nx i σ H' hlt hw _ rfl
  · have e : i = n := by omega
    subst e
    exact .inl ⟨Nat.le_refl _, hend σ H hw⟩
theorem joinL_one : ∀ l : List Nat, TL.joinL [] (l.map fun c => [c]) = l
  | [] => rfl
  | [c] => rfl
  | c :: d :: r => by
    show [c] ++ ([] ++ TL.joinL [] ((d :: r).map fun c => [c])) = _
    rw [joinL_one (d :: r)]; rfl
def sgV (l : List Nat) : List V := l.map fun c => .str (SX.S [c])
theorem sgV_str (l : List Nat) : sgV l = (l.map fun c => SX.S [c]).map V.str := by
  unfold sgV; rw [List.map_map]; rfl
theorem join_sg (l : List Nat) : Txt.join (SX.S []) (l.map fun c => SX.S [c]) = SX.S l := by
  have e : (l.map fun c => SX.S [c]) = (l.map fun c => [c]).map SX.S := by rw [List.map_map]; rfl
  rw [e, SX.join_S, joinL_one]
theorem sum_sg : ∀ l : List Nat, ((l.map fun c => SX.S [c]).map (·.length)).sum = l.length
  | [] => rfl
  | c :: r => by
    have := sum_sg r
    simp only [List.map_cons, List.sum_cons, List.length_cons] at this ⊢
    rw [this]
    show 1 + r.length = _; omega
section
variable {P : Program} {w : World} {K : PySem.W.Frag} {mg : Str → Option Value} {base : Heap}
def spText : Sp := fun vs H Q _ => Hd (∃ (p q : Addr) (n : Int) (l : List Nat) (m : Nat), vs = [.ref p, .str (SX.S l), .int m] ∧ Stm H p q n ∧ n + 1 + m ≤ 100000 ∧ 0 < l.length ∧ l.length < 1000 ∧ m ≤ 1000 ∧
  ∀ (t : List Nat) (n' : Int) (H' : Hp), (∀ c ∈ t, c ∈ l) → t.length ≤ m → n' ≤ n + 1 + m → Stm H' p q n' → Xt H H' p q → Q (.str (SX.S t)) H')
theorem ok_text (T : Txt K mg) : FnOk P w K mg base CX0 3 T.f__law_text T.fd__law_text ["_law_stream", "_law_signs", "_law_most"] spText := by
  have G__law_draw : FnOk P w K mg base CX0 1 T.f__law_draw T.fd__law_draw _ spDraw := ok_draw T
  have G__law_pick : FnOk P w K mg base CX0 2 T.f__law_pick T.fd__law_pick _ spPickS := ok_pickS T
  refine T.D__law_text.F.ok sc__law_text (fun vs H Q E h => ?_) (fun cdv A outer s H vs Q E hr h => ?_)
  · obtain ⟨p, q, n, l, m, rfl, _⟩ := h.out
    rfl
  · obtain ⟨p, q, n, l, m, rfl, S, hn, l0, l1, hm, k⟩ := h.out
    refine ⟨_, (pss_one (ps_ret (pe_join (SL.pe_strL [] (by decide +kernel)) (pe_lc (own := [("_law_k", 3)]) (g := gName 3) rfl sc__law_text.nd (pi_range1 rfl T.B.n_range (pa_cons (pe_call G__law_draw (hr.mono (by first | decide | omega)) rfl T.D__law_draw.g T.D__law_draw.F.kp T.D__law_draw.b .nil pass0 (pa_cons (pv 0) (pa_cons (pe_op op_add (pv 2) pe_int) pa_nil))) pa_nil)) (blkOk_by (N := ["_law_stream", "_law_signs", "_law_most", "_law_k"]) (sc := defScope s__law_text) (by decide +kernel)) (fun _ _ _ _ _ => (pg_name (i := 3) sc__law_text.nd rfl (by first | exact Or.inl rfl | exact Or.inr rfl))) (fun _ _ _ _ _ => pts_nil) (fun _ _ _ _ _ => (pe_call G__law_pick (hr.mono (by first | decide | omega)) rfl T.D__law_pick.g T.D__law_pick.F.kp T.D__law_pick.b .nil pass0 (pa_cons (pv 0) (pa_cons (pv 1) pa_nil)))))))), ?_⟩
    walk_at "st"
    refine .a ⟨p, q, n, (m : Int) + 1, rfl, S, by omega, by omega, by omega, fun d n1 H1 d0 d1 hn1 S1 fr1 => ?_⟩
    have X1 : Xt H H1 p q := .of (n := n) S1 fr1
    walk_at "st"
    intro D hD
    obtain ⟨hpn, hqn⟩ := S1.there
    have Dp : D ≠ p := fun z => hpn (z ▸ hD)
    have Dq : D ≠ q := fun z => hqn (z ▸ hD)
    refine comp_rng (fun i H2 => ∃ (t : List Nat) (n' : Int), H2 D = some (.lst (sgV t)) ∧ (∀ c ∈ t, c ∈ l) ∧ t.length ≤ i ∧ n' ≤ n + 1 + i ∧ Stm H2 p q n' ∧ Xt H1 H2 p q) ⟨[], n1, upd_same, (fun _ z => nomatch z), Nat.le_refl _, by omega, S1.put Dp Dq, Xt.new hD⟩ ?_ ?_
    · rintro H2 ⟨t, n', h1, h2, h3, h4, S2, X2⟩
      walk_at "st"
      refine ⟨_, D, t.map fun c => SX.S [c], rfl, rfl, .inl (SqL.of (by rw [h1, sgV_str])), ?_, ?_⟩
      · rw [sum_sg]; show _ + _ * 0 ≤ _; omega
      · have e : Txt.join (SX.S []) (t.map fun c => SX.S [c]) = SX.S t := join_sg t
        rw [e]
        exact k t n' H2 h2 (by omega) (by omega) S2 (X1.trans X2)
    · rintro i H2 hi ⟨t, n', h1, h2, h3, h4, S2, X2⟩ N hN
      walk_at "st"
      refine .a ⟨p, q, n', l, rfl, S2, by omega, l0, l1, fun c n2 H3 hc hn2 S3 fr3 => ?_⟩
      have h5 : H3 D = some (.lst (sgV t)) := (Xt.of (n := n') S3 fr3).at h1 Dp Dq
      refine ⟨_, h5, szl ?_, ?_⟩
      · have : (sgV t).length = t.length := List.length_map ..
        omega
      · rw [hN]
        refine .a ⟨t ++ [c], n2, ?_, ?_, ?_, by omega, S3.put Dp Dq, (X2.trans (.of (n := n') S3 fr3)).put hD⟩
        · unfold sgV; rw [List.map_append]; exact upd_same
        · intro b hb
          rcases List.mem_append.mp hb with hb | hb
          · exact h2 b hb
          · rw [List.mem_singleton.mp hb]; exact hc
        · rw [List.length_append, List.length_singleton]; omega
end
end My

namespace My
open PySem PySem.Spec PyProof.Rows L2
local macro_rules | `(tactic| walk_at "hp") => `(tactic| first | assumption | exact upd_same | (refine Eq.trans (upd_ne (by first | assumption | (apply Ne.symm; assumption))) ?_; walk_at "hp"))
local macro_rules | `(tactic| walk_at "ixl") => `(tactic| (refine' ⟨_, ?xs, _, ?vv, rfl, rfl, SqL.of ?hh, ?aa, ?qq⟩; (case hh => walk_at "hp"); (case aa => rfl)))
local macro_rules | `(tactic| walk_at "setl") => `(tactic| (refine' ⟨_, ?xs, _, ?jj, rfl, rfl, ?hh, ?aa, ?qq⟩; (case hh => walk_at "hp"); (case aa => rfl)))
local macro_rules | `(tactic| walk_at "cond") => `(tactic| first | exact ⟨_, rfl⟩ | exact Nat.le_of_lt (small1000 (Nat.le_of_ble_eq_true rfl)) | decide | omega | (dsimp only; omega) | exact ⟨by decide, by decide⟩ | exact Or.inr ⟨by decide, by decide⟩ | exact Or.inl ⟨by decide, by decide⟩ | exact ⟨by decide, by decide, by decide⟩ | exact ⟨by omega, by omega⟩ | exact ⟨by omega, by omega, by omega⟩ | (simp only [List.length_cons, List.length_nil, List.length_append, List.length_take, List.length_drop]; omega) | (refine ⟨?_, ?_, ?_⟩ <;> first | decide | omega | (simp only [List.length_cons, List.length_nil, List.length_append, List.length_take, List.length_drop, Option.getD_some, Option.getD_none]; omega)))
local macro_rules | `(tactic| walk_at "st") => `(tactic| repeat (first | refine ⟨_, rfl, ?_⟩ | refine ⟨_, _, rfl, rfl, ?_⟩ | walk_at "ixl" | walk_at "setl" | refine ⟨rfl, ?_⟩ | refine Or.inl ⟨_, rfl, ?_⟩ | refine And.intro (by walk_at "cond") ?_))
theorem FmAt.len {C CF : Addr} {H : Hp} {x : Addr} {ns : List (List Nat)} {N : Nat} (h : FmAt C CF H x ns N) : True := trivial
def sFormat : List Nat := [102, 111, 114, 109, 97, 116]
def sMade : List Nat := [109, 97, 100, 101]
section
variable {P : Program} {w : World} {K : PySem.W.Frag} {mg : Str → Option Value} {base : Heap}
theorem bi_Fm3 (T : Txt K mg) : ∃ ds, Vals [V.non] ds ∧ Binds K T.fdi_Formatter ["self", "fmt", "style", "validate", "defaults"] ds :=
  T.F_Formatter.binds1 4 3 (by decide) rfl fun T kV doc pm an cdv ct us its l1 l2 => by
    match us, its, l1, l2 with
    | [a, b, e, f], [c, d, g, i], _, _ => exact ⟨_, rfl, rfl⟩
theorem bi_Fm2 (T : Txt K mg) : ∃ ds, Vals [.bl true, V.non] ds ∧ Binds K T.fdi_Formatter ["self", "fmt", "style", "validate", "defaults"] ds :=
  T.F_Formatter.binds1 3 2 (by decide) rfl fun T kV doc pm an cdv ct us its l1 l2 => by
    match us, its, l1, l2 with
    | [a, b, e], [c, d, g, i], _, _ => exact ⟨_, rfl, rfl⟩
theorem bi_Fm1 (T : Txt K mg) : ∃ ds, Vals [.str (SX.S [123]), .bl true, V.non] ds ∧ Binds K T.fdi_Formatter ["self", "fmt", "style", "validate", "defaults"] ds :=
  T.F_Formatter.binds1 2 1 (by decide) rfl fun T kV doc pm an cdv ct us its l1 l2 => by
    match us, its, l1, l2 with
    | [a, b], [c, d, g, i], _, _ => exact ⟨_, rfl, rfl⟩
/-- what a try of a format tells: the refusal or that it is made -/
def told (l : List Nat) (o : Option (List Pc)) (b : Bool) : List V := match o with
  | none => [.str (SX.S sFormat), .str (SX.S l)]
  | some ps => if nms ps = [] ∧ b = true then [.str (SX.S sFormat), .str (SX.S l)] else [.str (SX.S sMade), .non]
def spTold : Sp := fun vs H Q _ => Hd (∃ (l : List Nat) (o : Option (List Pc)) (b : Bool), vs = [.str (SX.S l), .str (SX.S [36]), .bl b] ∧ l.length ≤ 99000 ∧ Dp l o ∧
  ∀ (t : Addr) (H' : Hp), H t = none → H' t = some (.tup (told l o b)) → Same H H' → Q (.ref t) H')
theorem ok_told (T : Txt K mg) : FnOk P w K mg base CX0 8 T.f__law_formatter_told T.fd__law_formatter_told ["_law_form", "_law_sign", "_law_firm"] spTold := by
  have G : FnOk P w K mg base (L2.CX P w) 6 T.i_Formatter T.fdi_Formatter _ (spFm T.C_Field T.C_Formatter T.c_BadFormat) := ok_init T
  obtain ⟨ds, hd, hb⟩ := bi_Fm3 T
  refine T.D__law_formatter_told.F.ok sc__law_formatter_told (fun vs H Q E h => ?_) (fun cdv A outer s H vs Q E hr h => ?_)
  · obtain ⟨l, o, b, rfl, _⟩ := h.out
    rfl
  · obtain ⟨l, o, b, rfl, hz, hD, k⟩ := h.out
    refine ⟨_, pss_cons (ps_try_fst (i := 3) (tb := fun W => tDrop (tMkS T.C_Formatter (spFm T.C_Field T.C_Formatter T.c_BadFormat) [V.non] (WE W) (tCons (tVar 0) (tCons (tVar 1) (tCons (tVar 2) tNil)))))
        (ts := fun a cls d => tRet (tTup (tCons (tC (.str (SX.S sFormat))) (tCons (tErrS T.c_BadFormat "fmt" a cls d (tVar 3)) tNil)))) rfl rfl sc__law_formatter_told.nd rfl rfl ⟨rfl, by decide, Or.inl T.E_BadFormat.gC⟩
        (fun W pn xe tk _ => pss_one (ps_expr (by exact (pe_mkS T.M_Formatter G hr rfl T.g_Formatter hb hd (fun σ => passAt tk σ) (by exact (pa_cons (pv 0) (pa_cons (pv 1) (pa_cons (pv 2) pa_nil))))))))
        (fun a oe cls d pn hz hf => pss_one (ps_ret (pe_tup (pa_cons (SL.pe_strL sFormat (by decide +kernel)) (pa_cons (pe_errS T.E_BadFormat hz hf (pv 3)) pa_nil))))))
      (pss_one (ps_ret (pe_tup (pa_cons (SL.pe_strL sMade (by decide +kernel)) (pa_cons pe_non pa_nil))))), ?_⟩
    walk_at "st"
    intro x dx hx hdx hxd
    have hS : ∀ {H' : Hp}, SameX x (upd (upd H dx (.own x)) x (.ins T.C_Formatter dx [])) H' → Same H H' := fun sx c u hu => by
      have cx : c ≠ x := fun z => by rw [z, hx] at hu; cases hu
      have cd : c ≠ dx := fun z => by rw [z, hdx] at hu; cases hu
      exact sx c u cx (by rw [upd_ne cx, upd_ne cd]; exact hu)
    refine .a ⟨x, dx, l, b, o, rfl, upd_same, hz, hD, fun hno d H1 hd1 sx => ⟨T.exm, fun a ha => ?_⟩, fun ps e hyes H1 _ sx => ⟨rfl, ?_⟩⟩
    · walk_at "st"
      refine ⟨d, _, rfl, hd1, ?_⟩
      walk_at "st"
      intro t ht
      refine k t _ ((hS sx).free ht) ?_ (same_put (hS sx) ((hS sx).free ht))
      have e2 : told l o b = [.str (SX.S sFormat), .str (SX.S l)] := by
        rcases hno with rfl | ⟨ps, rfl, h1, rfl⟩
        · rfl
        · exact if_pos ⟨h1, rfl⟩
      rw [e2]
      exact upd_same
    · walk_at "st"
      intro t ht
      refine k t _ ((hS sx).free ht) ?_ (same_put (hS sx) ((hS sx).free ht))
      have e2 : told l o b = [.str (SX.S sMade), .non] := by
        subst e
        refine if_neg fun z => ?_
        rcases hyes with h | h
        · exact h z.1
        · rw [z.2] at h; cases h
      rw [e2]
      exact upd_same
end
end My

namespace My
open PySem PySem.Spec PyProof.Rows L2
local macro_rules | `(tactic| walk_at "hp") => `(tactic| first | assumption | exact upd_same | (refine Eq.trans (upd_ne (by first | assumption | (apply Ne.symm; assumption))) ?_; walk_at "hp"))
local macro_rules | `(tactic| walk_at "ixl") => `(tactic| (refine' ⟨_, ?xs, _, ?vv, rfl, rfl, SqL.of ?hh, ?aa, ?qq⟩; (case hh => walk_at "hp"); (case aa => rfl)))
local macro_rules | `(tactic| walk_at "setl") => `(tactic| (refine' ⟨_, ?xs, _, ?jj, rfl, rfl, ?hh, ?aa, ?qq⟩; (case hh => walk_at "hp"); (case aa => rfl)))
local macro_rules | `(tactic| walk_at "cond") => `(tactic| first | exact ⟨_, rfl⟩ | exact Nat.le_of_lt (small1000 (Nat.le_of_ble_eq_true rfl)) | decide | omega | (dsimp only; omega) | exact ⟨by decide, by decide⟩ | exact Or.inr ⟨by decide, by decide⟩ | exact Or.inl ⟨by decide, by decide⟩ | exact ⟨by decide, by decide, by decide⟩ | exact ⟨by omega, by omega⟩ | exact ⟨by omega, by omega, by omega⟩ | (simp only [List.length_cons, List.length_nil, List.length_append, List.length_take, List.length_drop]; omega) | (refine ⟨?_, ?_, ?_⟩ <;> first | decide | omega | (simp only [List.length_cons, List.length_nil, List.length_append, List.length_take, List.length_drop, Option.getD_some, Option.getD_none]; omega)))
local macro_rules | `(tactic| walk_at "st") => `(tactic| repeat (first | refine ⟨_, rfl, ?_⟩ | refine ⟨_, _, rfl, rfl, ?_⟩ | walk_at "ixl" | walk_at "setl" | refine ⟨rfl, ?_⟩ | refine Or.inl ⟨_, rfl, ?_⟩ | refine And.intro (by walk_at "cond") ?_))
theorem vals_signs : ∀ {a : List Nat} {us : List Value}, us.length = a.length → (∀ (j : Nat) (v : Value), us[j]? = some v → ∃ (c : Nat) (u : Tok), a[j]? = some c ∧ v = Value.str ⟨#[c]⟩ u) → Vals (sgV a) us
  | [], [], _, _ => .nil
  | c :: a, u :: us, hl, h => by
    obtain ⟨d, t, hd, rfl⟩ := h 0 u rfl
    have : c = d := Option.some.inj hd
    subst this
    exact .cons ⟨t, rfl⟩ (vals_signs (Nat.succ.inj hl) fun j v hj => h (j + 1) v hj)
theorem call_listL {X : Cx} (hc : X.calm = true) : CallR X (.type "list") (fun xs H Q => ∃ a, xs = [.str (SX.S a)] ∧ a.length ≤ 100000 ∧ ∀ l, H l = none → Q (.ref l) (upd H l (.lst (sgV a)))) := by
  intro pins s σ H xs us Q I r h
  obtain ⟨a, rfl, hz, q⟩ := h
  obtain ⟨u, rfl, t, rfl⟩ := vals1 r
  refine PySem.call_list_str (I.ok.hd hc) _ t (fun h' tk acc c' kp e it => ?_) (by show a.toArray.size ≤ sizeLine; rw [List.size_toArray]; exact SL.sz hz)
  have hl : acc.toList.length = a.length := by
    have := it.1
    simpa using this
  have rv : Vals (sgV a) acc.toList := vals_signs hl fun j v hj => by
    obtain ⟨c, u, h1, h2⟩ := it.2 j v (by simpa using hj)
    exact ⟨c, u, by simpa using h1, h2⟩
  have hzz : (sgV a).length ≤ sizeLine := by
    have : (sgV a).length = a.length := List.length_map ..
    rw [this]; exact SL.sz hz
  exact ⟨.ref s.heap.objs.size, _, I.laid (t' := tk) kp (Nat.le_refl _) (show ObjOk X.prog X.w _ h' _ (.lst (sgV a)) from ⟨hzz, acc.toList, c', rv, by simpa using e⟩), rfl, q _ (I.hok.fresh (Nat.le_refl _))⟩
theorem repl_WF {ns : List (List Nat)} {d : List Nat} (h : WF d ns) : ∀ l : List Nat, WF (PySem.StrLaws.replL [36] [36, 36] l ++ d) ns
  | [] => by rw [PySem.StrLaws.replL_nil]; exact h
  | c :: r => by
    by_cases hc : c = 36
    · subst hc
      rw [PySem.StrLaws.replL_hit (by simp) rfl]
      exact .two (repl_WF h r)
    · rw [PySem.StrLaws.replL_miss (by simpa using hc)]
      exact .chr hc (repl_WF h r)
theorem repl_len : ∀ l : List Nat, (PySem.StrLaws.replL [36] [36, 36] l).length ≤ 2 * l.length
  | [] => by rw [PySem.StrLaws.replL_nil]; exact Nat.zero_le _
  | c :: r => by
    have := repl_len r
    by_cases hc : c = 36
    · subst hc
      rw [PySem.StrLaws.replL_hit (by simp) rfl]
      show ([36, 36] ++ PySem.StrLaws.replL [36] [36, 36] r).length ≤ _
      rw [List.length_append, List.length_cons]
      show 2 + _ ≤ 2 * (r.length + 1); omega
    · rw [PySem.StrLaws.replL_miss (by simpa using hc), List.length_cons, List.length_cons]; omega
def L63 : List Nat := [97, 98, 99, 100, 101, 102, 103, 104, 105, 106, 107, 108, 109, 110, 111, 112, 113, 114, 115, 116, 117, 118, 119, 120, 121, 122, 65, 66, 67, 68, 69, 70, 71, 72, 73, 74, 75, 76, 77, 78, 79, 80, 81, 82, 83, 84, 85, 86, 87, 88, 89, 90, 48, 49, 50, 51, 52, 53, 54, 55, 56, 57, 95]
theorem inV_sg1 (c : Nat) : ∀ L : List Nat, inV (.str (SX.S [c])) (sgV L) = decide (c ∈ L)
  | [] => rfl
  | x :: r => by
    show ((SX.S [x] == SX.S [c]) || inV (.str (SX.S [c])) (sgV r)) = _
    rw [SX.S_beq_eq, inV_sg1 c r]
    by_cases h : x = c
    · subst h; simp
    · have h2 : ¬ c = x := fun z => h z.symm
      simp [h, h2]
theorem inV_sg0 : ∀ L : List Nat, inV (.str (SX.S [])) (sgV L) = false
  | [] => rfl
  | x :: r => by
    show ((SX.S [x] == SX.S []) || inV (.str (SX.S [])) (sgV r)) = _
    rw [SX.S_beq_eq, inV_sg0 r]
    simp
theorem sgV_flat : ∀ L : List Nat, (sgV L).all flatV = true
  | [] => rfl
  | x :: r => by
    show (true && (sgV r).all flatV) = true
    rw [sgV_flat r]; rfl
theorem mem_L63 (c : Nat) : decide (c ∈ L63) = wordc c := by
  have e : L63 = LET ++ (DIG ++ [95]) := by decide +kernel
  rw [e, Bool.eq_iff_iff]
  unfold wordc
  simp
/-- a part: a text, or a tuple of a field -/
def fldT (n : List Nat) : List V := [.str (SX.S n), .str (SX.S []), .str (SX.S [32]), .str (SX.S []), .int 0]
def PtV (H : Hp) (v : V) : Pc → Prop
  | .txt l => v = .str (SX.S l)
  | .fld n => ∃ x, v = .ref x ∧ H x = some (.tup (fldT n))
inductive PtsV (H : Hp) : List V → List Pc → Prop
  | nil : PtsV H [] []
  | cons {v : V} {p : Pc} {vs : List V} {ps : List Pc} : PtV H v p → PtsV H vs ps → PtsV H (v :: vs) (p :: ps)
theorem PtV.mono {H H' : Hp} {v : V} : ∀ {p : Pc}, PtV H v p → Same H H' → PtV H' v p
  | .txt _, h, _ => h
  | .fld _, ⟨x, e, h⟩, s => ⟨x, e, s _ _ h⟩
theorem PtsV.mono {H H' : Hp} {vs : List V} {ps : List Pc} (h : PtsV H vs ps) (s : Same H H') : PtsV H' vs ps := by
  induction h with
  | nil => exact .nil
  | cons h _ ih => exact .cons (h.mono s) ih
theorem PtsV.len {H : Hp} {vs : List V} {ps : List Pc} (h : PtsV H vs ps) : vs.length = ps.length := by
  induction h with
  | nil => rfl
  | cons _ _ ih => exact congrArg Nat.succ ih
theorem PtsV.app {H : Hp} {vs ws : List V} {ps qs : List Pc} (h : PtsV H vs ps) (h2 : PtsV H ws qs) : PtsV H (vs ++ ws) (ps ++ qs) := by
  induction h with
  | nil => exact h2
  | cons h _ ih => exact .cons h ih
theorem PtsV.rev {H : Hp} {vs : List V} {ps : List Pc} (h : PtsV H vs ps) : PtsV H vs.reverse ps.reverse := by
  induction h with
  | nil => exact .nil
  | cons h _ ih => rw [List.reverse_cons, List.reverse_cons]; exact ih.app (.cons h .nil)
theorem PtsV.get {H : Hp} {vs : List V} {ps : List Pc} (h : PtsV H vs ps) : ∀ {i : Nat} {v : V}, vs[i]? = some v → ∃ pc, ps[i]? = some pc ∧ PtV H v pc := by
  induction h with
  | nil => intro i v e; simp at e
  | cons h _ ih =>
    intro i v e
    cases i with
    | zero => exact ⟨_, rfl, by rw [← Option.some.inj e]; exact h⟩
    | succ i => exact ih (i := i) e
theorem PtsV.take {H : Hp} {vs : List V} {ps : List Pc} (h : PtsV H vs ps) : ∀ n, PtsV H (vs.take n) (ps.take n) := by
  induction h with
  | nil => intro n; simpa using PtsV.nil
  | cons h _ ih =>
    intro n
    cases n with
    | zero => exact .nil
    | succ n => exact .cons h (ih n)
theorem PtsV.drop {H : Hp} {vs : List V} {ps : List Pc} (h : PtsV H vs ps) : ∀ n, PtsV H (vs.drop n) (ps.drop n) := by
  induction h with
  | nil => intro n; simpa using PtsV.nil
  | cons h h2 ih =>
    intro n
    cases n with
    | zero => exact .cons h h2
    | succ n => exact ih n
/-- .. of ASCII signs -/
structure Wr (d : List Nat) (ns : List (List Nat)) : Prop where
  wf : WF d ns
  lo : ∀ c ∈ d, c < 128
theorem Wr.nil : Wr [] [] := ⟨.nil, fun _ h => nomatch h⟩
theorem lo_app {a b : List Nat} (h1 : ∀ c ∈ a, c < 128) (h2 : ∀ c ∈ b, c < 128) : ∀ c ∈ a ++ b, c < 128 := fun c h => (List.mem_append.mp h).elim (h1 c) (h2 c)
theorem word_lo {c : Nat} (h : wordc c = true) : c < 128 := by
  unfold wordc at h
  have e1 : ∀ c ∈ LET, c < 128 := by decide +kernel
  have e2 : ∀ c ∈ DIG, c < 128 := by decide +kernel
  simp only [Bool.or_eq_true, decide_eq_true_eq] at h
  rcases h with h | h | h
  · exact e1 c h
  · exact e2 c h
  · omega
theorem repl_lo : ∀ l : List Nat, (∀ c ∈ l, c < 128) → ∀ c ∈ PySem.StrLaws.replL [36] [36, 36] l, c < 128
  | [], _ => by rw [PySem.StrLaws.replL_nil]; exact fun _ h => nomatch h
  | c :: r, hl => by
    have ih := repl_lo r fun d hd => hl d (List.mem_cons_of_mem _ hd)
    by_cases hc : c = 36
    · subst hc
      rw [PySem.StrLaws.replL_hit (by simp) rfl]
      exact lo_app (by decide) ih
    · rw [PySem.StrLaws.replL_miss (by simpa using hc)]
      intro d hd
      rcases List.mem_cons.mp hd with rfl | hd
      · exact hl _ List.mem_cons_self
      · exact ih d hd
theorem Wr.repl {d : List Nat} {ns : List (List Nat)} (h : Wr d ns) {l : List Nat} (hl : ∀ c ∈ l, c < 128) : Wr (PySem.StrLaws.replL [36] [36, 36] l ++ d) ns := ⟨repl_WF h.wf l, lo_app (repl_lo l hl) h.lo⟩
theorem Wr.plain {n d : List Nat} {ns : List (List Nat)} (hn : Nm n) (hs : Stop d) (h : Wr d ns) : Wr ([36] ++ n ++ d) (n :: ns) :=
  ⟨by simpa using WF.plain hn hs h.wf, lo_app (lo_app (by decide) fun c hc => word_lo (hn.all c hc)) h.lo⟩
theorem Wr.brace {n d : List Nat} {ns : List (List Nat)} (hn : Nm n) (h : Wr d ns) : Wr ([36, 123] ++ n ++ [125] ++ d) (n :: ns) :=
  ⟨by simpa using WF.brace hn h.wf, lo_app (lo_app (lo_app (by decide) fun c hc => word_lo (hn.all c hc)) (by decide)) h.lo⟩
/-- short texts, names that are names -/
def GdP : Pc → Prop
  | .txt l => l.length ≤ 10 ∧ ∀ c ∈ l, c < 128
  | .fld n => Nm n ∧ n.length ≤ 10
section
variable {P : Program} {w : World} {K : PySem.W.Frag} {mg : Str → Option Value} {base : Heap}
def spDol : Sp := fun vs H Q _ => Hd (∃ (p q a : Addr) (n : Int) (xs : List V) (ps : List Pc), vs = [.ref p, .ref a] ∧ Stm H p q n ∧ n + ps.length ≤ 90000 ∧ off H p q a = some (.lst xs) ∧ PtsV (off H p q) xs ps ∧ (∀ c ∈ ps, GdP c) ∧ ps.length ≤ 100 ∧
  ∀ (d : List Nat) (n' : Int) (H' : Hp), Wr d (nms ps) → d.length ≤ 20 * ps.length → n' ≤ n + ps.length → Stm H' p q n' → Xt H H' p q → Q (.str (SX.S d)) H')
theorem ok_dol (T : Txt K mg) : FnOk P w K mg base CX0 2 T.f__law_dollared T.fd__law_dollared ["_law_stream", "_law_parts"] spDol := by
  have G__law_draw : FnOk P w K mg base CX0 1 T.f__law_draw T.fd__law_draw _ spDraw := ok_draw T
  refine T.D__law_dollared.F.ok sc__law_dollared (fun vs H Q E h => ?_) (fun cdv A outer s H vs Q E hr h => ?_)
  · obtain ⟨p, q, a, n, xs, ps, rfl, _⟩ := h.out
    rfl
  · obtain ⟨p, q, a, n, xs, ps, rfl, S, hn, ha, hps, hg, hl, k⟩ := h.out
    refine ⟨_, (pss_tupT (x := SX.S []) (pa_cons (SL.pe_strL L63 (by decide +kernel)) pa_nil) (pg_tup rfl (pgs_cons (pg_name (i := 2) sc__law_dollared.nd rfl (by first | exact Or.inl rfl | exact Or.inr rfl)) (pgs_cons (pg_name (i := 3) sc__law_dollared.nd rfl (by first | exact Or.inl rfl | exact Or.inr rfl)) pgs_nil)))
      (psst_cons (pst_forT PassesOwn.never rfl (pi_list (pe_revL (pv 1))) (pg_name (i := 4) sc__law_dollared.nd rfl (by first | exact Or.inl rfl | exact Or.inr rfl))
        (CwR.psst_one (CwR.pst_if (pt_val (pe_callB call_isi (by rfl) T.B.n_isinstance (by decide +kernel) (pa_cons (pv 4) (pa_cons (pe_bltn (v := .ty "str") (u := .type "str") (by rfl) T.B.n_str (by decide +kernel) rfl) pa_nil))))
          (CwR.psst_one (pst_setT (i := 2) sc__law_dollared.nd rfl (by first | exact Or.inl rfl | exact Or.inr rfl) (CwR.pet_op SL.op_addL (CwR.pet_replC (pv 4)) (CwR.PET.of (pv 2)))))
          (PSsT.of (pss_one (ps_if (PW.pt (pw_and (pt_cmpR op_notIn_seq (pe_slice SL.sl_L (pv 2) po_none (po_some pe_int)) (pe_callTy (call_listL rfl) (by rfl) T.B.n_list (by decide +kernel) (pa_cons (pv 3) pa_nil)) rfl) (pw_and1 (pt_cmpR op_eq (pe_call G__law_draw (hr.mono (by first | decide | omega)) rfl T.D__law_draw.g T.D__law_draw.F.kp T.D__law_draw.b .nil pass0 (pa_cons (pv 0) (pa_cons pe_int pa_nil))) pe_int (nomark _))))) (pss_one (ps_set (i := 2) sc__law_dollared.nd rfl (by first | exact Or.inl rfl | exact Or.inr rfl) (pe_op SL.op_addL (pe_op SL.op_addL (SL.pe_strL [36] (by decide +kernel)) (pe_ix ix_tup (pv 4) pe_int (fun _ _ => rfl))) (pv 2)))) (pss_one (ps_set (i := 2) sc__law_dollared.nd rfl (by first | exact Or.inl rfl | exact Or.inr rfl) (pe_op SL.op_addL (pe_op SL.op_addL (pe_op SL.op_addL (SL.pe_strL [36, 123] (by decide +kernel)) (pe_ix ix_tup (pv 4) pe_int (fun _ _ => rfl))) (SL.pe_strL [125] (by decide +kernel))) (pv 2))))))))))
      (CwR.psst_one (PST.of (ps_ret (pv 2)))))), ?_⟩
    walk_at "st"
    intro t0 ht0
    refine ⟨t0, _, rfl, SqT.of upd_same, rfl, _, _, rfl, _, _, rfl, rfl, ?_⟩
    walk_at "st"
    have X0 : Xt H (upd H t0 (.tup [.str (SX.S []), .str (SX.S L63)])) p q := Xt.new ht0
    obtain ⟨hpn, hqn⟩ := S.there
    have S0 : Stm (upd H t0 (.tup [.str (SX.S []), .str (SX.S L63)])) p q n := S.put (fun z => hpn (z ▸ ht0)) (fun z => hqn (z ▸ ht0))
    generalize upd H t0 (.tup [.str (SX.S []), .str (SX.S L63)]) = H1 at X0 S0 ⊢
    refine ⟨a, xs, rfl, SqL.of (off_same _ _ (X0.fr _ _ ha)), fun D hD => ?_⟩
    obtain ⟨hpn1, hqn1⟩ := S0.there
    have Dp : D ≠ p := fun z => hpn1 (z ▸ hD)
    have Dq : D ≠ q := fun z => hqn1 (z ▸ hD)
    walk_at "st"
    refine ⟨⟨_, SqL.of upd_same⟩, ?_⟩
    refine for_list (xs := xs.reverse) (fun i σ Hi => ∃ (d : List Nat) (n' : Int) (y : Option V), σ = [some (.ref p), some (.ref a), some (.str (SX.S d)), some (.str (SX.S L63)), y] ∧ Wr d (nms ((ps.reverse.take i).reverse)) ∧ d.length ≤ 20 * i ∧ n' ≤ n + i ∧ Stm Hi p q n' ∧ Xt H Hi p q ∧ Hi D = some (.lst xs.reverse))
      (fun i σ Hi ⟨_, _, _, _, _, _, _, _, _, h⟩ => h) ⟨[], n, none, rfl, Wr.nil, Nat.zero_le _, by omega, S0.put Dp Dq, X0.trans (Xt.new hD), upd_same⟩ ?_ ?_
    · rintro σ Hi ⟨d, n', y, rfl, h1, h2, h3, h4, h5, h6⟩
      walk_at "st"
      rw [List.length_reverse, hps.len] at h1 h2 h3
      rw [List.take_of_length_le (by rw [List.length_reverse]; exact Nat.le_refl _), List.reverse_reverse] at h1
      exact k d n' Hi h1 h2 h3 h4 h5
    · rintro R i σ Hi x ⟨d, n', y, rfl, h1, h2, h3, h4, h5, h6⟩ hx N hN
      obtain ⟨pc, hpc, hv⟩ := hps.rev.get hx
      have hv1 : PtV Hi x pc := hv.mono (h5.fr.trans off_same)
      have hmem : pc ∈ ps := List.mem_reverse.mp (List.mem_of_getElem? hpc)
      have hgd := hg pc hmem
      have htk : (ps.reverse.take (i + 1)).reverse = pc :: (ps.reverse.take i).reverse := by rw [take_snoc hpc, List.reverse_append]; rfl
      have hil : i < ps.length := by
        have := (List.getElem?_eq_some_iff.mp hpc).1
        rwa [List.length_reverse] at this
      cases pc with
      | txt l =>
        obtain rfl : x = .str (SX.S l) := hv1
        obtain ⟨hlen, hlo⟩ : l.length ≤ 10 ∧ ∀ c ∈ l, c < 128 := hgd
        walk_at "st"
        refine ⟨_, _, _, _, true, rfl, .ty "str", .base (.str _), kit_ty (by decide +kernel), ?_⟩
        walk_at "st"
        have er : Txt.replace (SX.S l) (Str.ofString "$") (Str.ofString "$$") = SX.S (PySem.StrLaws.replL [36] [36, 36] l) := TL.ext_tl (PySem.StrLaws.replace_list (x := SX.S l) (y := Str.ofString "$") (z := Str.ofString "$$") (by decide +kernel))
        have eln : (SX.S l).length = l.length := SX.S_len l
        have el2 : (Str.ofString "$$").length = 2 := by decide +kernel
        refine ⟨by rw [eln, el2]; omega, ?_⟩
        rw [er]
        have hrl := repl_len l
        walk_at "st"
        rw [hN]
        refine .a ⟨PySem.StrLaws.replL [36] [36, 36] l ++ d, n', _, rfl, ?_, ?_, by omega, h4, h5, h6⟩
        · rw [htk]; exact h1.repl hlo
        · rw [List.length_append]; omega
      | fld nm =>
        obtain ⟨xa, rfl, hxa⟩ := hv1
        walk_at "st"
        refine ⟨_, _, _, _, false, rfl, .ty "str", .base (.tup hxa), kit_ty (by decide +kernel), ?_⟩
        walk_at "st"
        obtain ⟨hnm, hnl⟩ : Nm nm ∧ nm.length ≤ 10 := hgd
        have hbr : ∀ (Dd : Ends) (Hj : Hp) (n2 : Int), Dd.nx = N → n2 ≤ n + ((i + 1 : Nat) : Int) → Stm Hj p q n2 → Xt H Hj p q → Hj D = some (.lst xs.reverse) → Hj xa = some (.tup (fldT nm)) →
            tAsg (tOp SL.rAddL (tOp SL.rAddL (tOp SL.rAddL (tC (.str (SX.S [36, 123]))) (tOp (rIxT K) (tVar 4) (tC (.int 0)))) (tC (.str (SX.S [125])))) (tVar 2)) (gName 2) Dd [some (.ref p), some (.ref a), some (.str (SX.S d)), some (.str (SX.S L63)), some (.ref xa)] Hj := fun Dd Hj n2 e0 e1 e2 e3 e4 e5 => by
          walk_at "st"
          refine ⟨xa, _, 0, _, rfl, rfl, SqT.of e5, atI_nat (j := 0) rfl, ?_⟩
          walk_at "st"
          rw [e0, hN]
          refine .a ⟨[36, 123] ++ nm ++ [125] ++ d, n2, _, rfl, ?_, ?_, by omega, e2, e3, e4⟩
          · rw [htk]
            exact Wr.brace hnm h1
          · simp only [List.length_append, List.length_cons, List.length_nil]; omega
        intro la hla
        have l1 : la ≠ D := fun z => by rw [← z, hla] at h6; cases h6
        have l2 : la ≠ xa := fun z => by rw [← z, hla] at hxa; cases hxa
        obtain ⟨hpn2, hqn2⟩ := h4.there
        have X2 : Xt H (upd Hi la (.lst (sgV L63))) p q := h5.trans (Xt.new hla)
        have S2 : Stm (upd Hi la (.lst (sgV L63))) p q n' := h4.put (fun z => hpn2 (z ▸ hla)) (fun z => hqn2 (z ▸ hla))
        have hD2 : (upd Hi la (.lst (sgV L63))) D = some (.lst xs.reverse) := by rw [upd_ne l1.symm]; exact h6
        have hx2 : (upd Hi la (.lst (sgV L63))) xa = some (.tup (fldT nm)) := by rw [upd_ne l2.symm]; exact hxa
        refine ⟨la, sgV L63, rfl, .inl (SqL.of upd_same), rfl, sgV_flat _, ?_⟩
        generalize upd Hi la (.lst (sgV L63)) = Hj at X2 S2 hD2 hx2 ⊢
        have ec : SL.cutL d none (some 1) = d.take 1 := rfl
        rw [ec]
        walk_at "st"
        by_cases hs : ∀ c, d.head? = some c → wordc c = false
        · have e1 : inV (.str (SX.S (d.take 1))) (sgV L63) = false := by
            cases d with
            | nil => exact inV_sg0 _
            | cons c r =>
              rw [show (c :: r).take 1 = [c] from rfl, inV_sg1, mem_L63]
              exact hs c rfl
          rw [e1]
          walk_at "st"
          refine .a ⟨p, q, n', 2, rfl, S2, by omega, by omega, by omega, fun v n2 Hk v0 v1 hn2 S3 fr3 => ?_⟩
          have X3 : Xt H Hk p q := X2.trans (.of (n := n') S3 fr3)
          have Xj : Xt Hj Hk p q := .of (n := n') S3 fr3
          have hD3 : Hk D = some (.lst xs.reverse) := Xj.at hD2 Dp Dq
          have hx3 : Hk xa = some (.tup (fldT nm)) := by
            obtain ⟨pc2, hpc2, hv2⟩ := hps.rev.get hx
            have e : pc2 = .fld nm := by rw [hpc] at hpc2; exact (Option.some.inj hpc2).symm
            subst e
            obtain ⟨xb, eb, hb⟩ := hv2
            have : xa = xb := V.ref.inj eb
            subst this
            exact X3.fr.trans off_same _ _ hb
          walk_at "st"
          by_cases hv : v = 0
          · refine if_true_of (decide_eq_true (congrArg V.int hv)) ?_
            walk_at "st"
            refine ⟨xa, _, 0, _, rfl, rfl, SqT.of hx3, atI_nat (j := 0) rfl, ?_⟩
            walk_at "st"
            rw [hN]
            refine .a ⟨[36] ++ nm ++ d, n2, _, rfl, ?_, ?_, by omega, S3, X3, hD3⟩
            · rw [htk]
              exact Wr.plain hnm hs h1
            · simp only [List.length_append, List.length_cons, List.length_nil]; omega
          · refine if_false_of (decide_eq_false fun e => hv (V.int.inj e)) ?_
            refine hbr _ Hk n2 ?_ (by omega) S3 X3 hD3 hx3
            rfl
        · have e1 : inV (.str (SX.S (d.take 1))) (sgV L63) = true := by
            cases d with
            | nil => exact absurd (fun c h => nomatch h) hs
            | cons c r =>
              rw [show (c :: r).take 1 = [c] from rfl, inV_sg1, mem_L63]
              cases hw : wordc c with
              | true => rfl
              | false => exact absurd (fun c2 h => by rw [← Option.some.inj h]; exact hw) hs
          rw [e1]
          walk_at "st"
          refine ⟨xa, _, 0, _, rfl, rfl, SqT.of hx2, atI_nat (j := 0) rfl, ?_⟩
          walk_at "st"
          rw [hN]
          refine .a ⟨[36, 123] ++ nm ++ [125] ++ d, n', _, rfl, ?_, ?_, by omega, S2, X2, hD2⟩
          · rw [htk]
            exact Wr.brace hnm h1
          · simp only [List.length_append, List.length_cons, List.length_nil]; omega
end
end My

namespace My
open PySem PySem.Spec PyProof.Rows L2
local macro_rules | `(tactic| walk_at "hp") => `(tactic| first | assumption | exact upd_same | (refine Eq.trans (upd_ne (by first | assumption | (apply Ne.symm; assumption))) ?_; walk_at "hp"))
local macro_rules | `(tactic| walk_at "ixl") => `(tactic| (refine' ⟨_, ?xs, _, ?vv, rfl, rfl, SqL.of ?hh, ?aa, ?qq⟩; (case hh => walk_at "hp"); (case aa => rfl)))
local macro_rules | `(tactic| walk_at "setl") => `(tactic| (refine' ⟨_, ?xs, _, ?jj, rfl, rfl, ?hh, ?aa, ?qq⟩; (case hh => walk_at "hp"); (case aa => rfl)))
local macro_rules | `(tactic| walk_at "cond") => `(tactic| first | exact ⟨_, rfl⟩ | exact Nat.le_of_lt (small1000 (Nat.le_of_ble_eq_true rfl)) | decide | omega | (dsimp only; omega) | exact ⟨by decide, by decide⟩ | exact Or.inr ⟨by decide, by decide⟩ | exact Or.inl ⟨by decide, by decide⟩ | exact ⟨by decide, by decide, by decide⟩ | exact ⟨by omega, by omega⟩ | exact ⟨by omega, by omega, by omega⟩ | (simp only [List.length_cons, List.length_nil, List.length_append, List.length_take, List.length_drop]; omega) | (refine ⟨?_, ?_, ?_⟩ <;> first | decide | omega | (simp only [List.length_cons, List.length_nil, List.length_append, List.length_take, List.length_drop, Option.getD_some, Option.getD_none]; omega)))
local macro_rules | `(tactic| walk_at "st") => `(tactic| repeat (first | refine ⟨_, rfl, ?_⟩ | refine ⟨_, _, rfl, rfl, ?_⟩ | walk_at "ixl" | walk_at "setl" | refine ⟨rfl, ?_⟩ | refine Or.inl ⟨_, rfl, ?_⟩ | refine And.intro (by walk_at "cond") ?_))
def ODD : List (List Nat) := [[36, 32], [36, 49], [36, 46], [36, 45], [36, 33], [36, 10], [36, 125], [36, 123, 125], [36, 123, 32, 97, 125], [36, 123, 97, 32, 125], [36, 123, 49, 125], [36, 123, 49, 97, 125], [36, 123, 97, 46, 98, 125], [36, 123, 97, 45, 98, 125], [36, 123, 97, 32], [36, 123, 36, 97, 125], [36, 123, 97, 58, 53, 125], [36, 123, 97, 33, 114, 125], [36, 123, 123, 97, 125, 125], [36, 40, 97, 41], [36, 123, 97, 36, 125], [36, 57, 97]]
def ENDS : List (List Nat) := [[36], [36, 123], [36, 123, 97], [36, 36, 36], [36, 123, 95, 57], [36, 36, 36, 123], [36, 123, 125]]
theorem stop36 (r : List Nat) : Stop (36 :: r) := stop_dollar
theorem odd_Dp : ∀ t ∈ ODD, ∀ s, Stop (t ++ s) ∧ My.Dp (t ++ s) none := by
  intro t ht s
  simp only [ODD, List.mem_cons, List.not_mem_nil, or_false] at ht
  rcases ht with rfl | rfl | rfl | rfl | rfl | rfl | rfl | rfl | rfl | rfl | rfl | rfl | rfl | rfl | rfl | rfl | rfl | rfl | rfl | rfl | rfl | rfl <;> exact ⟨stop36 _, .bad (by intro e; cases e) rfl⟩
theorem end_Dp : ∀ t ∈ ENDS, Stop t ∧ My.Dp t none := by
  intro t ht
  simp only [ENDS, List.mem_cons, List.not_mem_nil, or_false] at ht
  rcases ht with rfl | rfl | rfl | rfl | rfl | rfl | rfl
  · exact ⟨stop36 _, .bad (by intro e; cases e) rfl⟩
  · exact ⟨stop36 _, .bad (by intro e; cases e) rfl⟩
  · exact ⟨stop36 _, .bad (by intro e; cases e) rfl⟩
  · exact ⟨stop36 _, .two (o := none) (.bad (by intro e; cases e) rfl)⟩
  · exact ⟨stop36 _, .bad (by intro e; cases e) rfl⟩
  · exact ⟨stop36 _, .two (o := none) (.bad (by intro e; cases e) rfl)⟩
  · exact ⟨stop36 _, .bad (by intro e; cases e) rfl⟩
theorem off_of {H : Hp} {p q x : Addr} {o : HO} (h : H x = some o) (hp : x ≠ p) (hq : x ≠ q) : off H p q x = some o := by
  unfold off
  rw [if_neg (fun z => z.elim hp hq)]
  exact h
theorem PtsV.put {H : Hp} {p q b : Addr} {zs : List V} {o : HO} (hb : H b = some (.lst zs)) {vs : List V} {ps : List Pc} (h : PtsV (off H p q) vs ps) : PtsV (off (upd H b o) p q) vs ps := by
  induction h with
  | nil => exact .nil
  | @cons v pc vs ps h _ ih =>
    refine .cons ?_ ih
    cases pc with
    | txt l => exact h
    | fld n =>
      obtain ⟨x, e, hx⟩ := h
      refine ⟨x, e, ?_⟩
      have hxb : x ≠ b := fun z => by
        have := off_same _ _ hx
        rw [z, hb] at this; cases this
      unfold off at hx ⊢
      by_cases c : x = p ∨ x = q
      · rw [if_pos c] at hx; cases hx
      · rw [if_neg c] at hx ⊢
        rw [upd_ne hxb]; exact hx
section
variable {P : Program} {w : World} {K : PySem.W.Frag} {mg : Str → Option Value} {base : Heap}
theorem sg_lo : ∀ c ∈ [97, 95, 57, 32, 36, 123, 125, 58, 10, 46], c < 128 := by decide +kernel
def spOdd : Sp := fun vs H Q _ => Hd (∃ (p q : Addr) (n : Int), vs = [.ref p] ∧ Stm H p q n ∧ n + 1 ≤ 100000 ∧
  ∀ (t : List Nat) (n' : Int) (H' : Hp), t ∈ ODD → n' ≤ n + 1 → Stm H' p q n' → Xt H H' p q → Q (.str (SX.S t)) H')
theorem ok_odd (T : Txt K mg) : FnOk P w K mg base CX0 3 T.f__law_odd_dollar T.fd__law_odd_dollar ["_law_stream"] spOdd := by
  have G__law_pick : FnOk P w K mg base CX0 2 T.f__law_pick T.fd__law_pick _ spPick := ok_pick T
  refine T.D__law_odd_dollar.F.ok sc__law_odd_dollar (fun vs H Q E h => ?_) (fun cdv A outer s H vs Q E hr h => ?_)
  · obtain ⟨p, q, n, rfl, _⟩ := h.out
    rfl
  · obtain ⟨p, q, n, rfl, S, hn, k⟩ := h.out
    refine ⟨_, (pss_cons (ps_set (i := 1) sc__law_odd_dollar.nd rfl (by first | exact Or.inl rfl | exact Or.inr rfl) (pe_lstG (pa_cons (SL.pe_strL [36, 32] (by decide +kernel)) (pa_cons (SL.pe_strL [36, 49] (by decide +kernel)) (pa_cons (SL.pe_strL [36, 46] (by decide +kernel)) (pa_cons (SL.pe_strL [36, 45] (by decide +kernel)) (pa_cons (SL.pe_strL [36, 33] (by decide +kernel)) (pa_cons (SL.pe_strL [36, 10] (by decide +kernel)) (pa_cons (SL.pe_strL [36, 125] (by decide +kernel)) (pa_cons (SL.pe_strL [36, 123, 125] (by decide +kernel)) (pa_cons (SL.pe_strL [36, 123, 32, 97, 125] (by decide +kernel)) (pa_cons (SL.pe_strL [36, 123, 97, 32, 125] (by decide +kernel)) (pa_cons (SL.pe_strL [36, 123, 49, 125] (by decide +kernel)) (pa_cons (SL.pe_strL [36, 123, 49, 97, 125] (by decide +kernel)) (pa_cons (SL.pe_strL [36, 123, 97, 46, 98, 125] (by decide +kernel)) (pa_cons (SL.pe_strL [36, 123, 97, 45, 98, 125] (by decide +kernel)) pa_nil))))))))))))))))
  (pss_one (ps_ret (pe_call G__law_pick (hr.mono (by first | decide | omega)) rfl T.D__law_pick.g T.D__law_pick.F.kp T.D__law_pick.b .nil pass0 (pa_cons (pv 0) (pa_cons (pe_op op_catG (pv 1) (pe_lstG (pa_cons (SL.pe_strL [36, 123, 97, 32] (by decide +kernel)) (pa_cons (SL.pe_strL [36, 123, 36, 97, 125] (by decide +kernel)) (pa_cons (SL.pe_strL [36, 123, 97, 58, 53, 125] (by decide +kernel)) (pa_cons (SL.pe_strL [36, 123, 97, 33, 114, 125] (by decide +kernel)) (pa_cons (SL.pe_strL [36, 123, 123, 97, 125, 125] (by decide +kernel)) (pa_cons (SL.pe_strL [36, 40, 97, 41] (by decide +kernel)) (pa_cons (SL.pe_strL [36, 123, 97, 36, 125] (by decide +kernel)) (pa_cons (SL.pe_strL [36, 57, 97] (by decide +kernel)) pa_nil)))))))))) pa_nil)))))), ?_⟩
    walk_at "st"
    intro l1 H1 hl1 e1 s1
    walk_at "st"
    intro l2 H2 hl2 e2 s2
    walk_at "st"
    refine ⟨l1, l2, _, _, rfl, rfl, s2 _ _ e1, e2, by decide, ?_⟩
    intro l3 H3 hl3 e3 s3
    have S3 : Stm H3 p q n := S.same ((s1.trans s2).trans s3)
    obtain ⟨hpn, hqn⟩ := (S.same (s1.trans s2)).there
    walk_at "st"
    refine .a ⟨p, q, l3, n, _, rfl, S3, hn, off_of e3 (fun z => hpn (z ▸ hl3)) (fun z => hqn (z ▸ hl3)), Nat.le_of_ble_eq_true rfl, Nat.le_of_ble_eq_true rfl, fun v n' H' hv hn' S' fr => ?_⟩
    have hv2 : v ∈ ODD.map (fun t => V.str (SX.S t)) := hv
    obtain ⟨t, ht, rfl⟩ := List.mem_map.mp hv2
    exact k t n' H' ht hn' S' ((Xt.same ((s1.trans s2).trans s3)).trans (.of (n := n) S' fr))
def spPlain : Sp := fun vs H Q _ => Hd (∃ (p q ka : Addr) (n : Int) (ks : List (List Nat)), vs = [.ref p, .int 3, .ref ka] ∧ Stm H p q n ∧ n + 30 ≤ 90000 ∧ off H p q ka = some (.lst (txV ks)) ∧ (∀ k ∈ ks, Nm k ∧ k.length ≤ 10) ∧ 0 < ks.length ∧ ks.length < 1000 ∧
  ∀ (b : Addr) (xs : List V) (ps : List Pc) (n' : Int) (H' : Hp), H b = none → off H' p q b = some (.lst xs) → PtsV (off H' p q) xs ps → (∀ c ∈ ps, GdP c) → ps.length ≤ 3 → n' ≤ n + 20 → Stm H' p q n' → Xt H H' p q → Q (.ref b) H')
theorem ok_plain (T : Txt K mg) : FnOk P w K mg base CX0 4 T.f__law_plain_parts T.fd__law_plain_parts ["_law_stream", "_law_most", "_law_keys"] spPlain := by
  have G__law_draw : FnOk P w K mg base CX0 1 T.f__law_draw T.fd__law_draw _ spDraw := ok_draw T
  have G__law_pick : FnOk P w K mg base CX0 2 T.f__law_pick T.fd__law_pick _ spPick := ok_pick T
  have G__law_text : FnOk P w K mg base CX0 3 T.f__law_text T.fd__law_text _ spText := ok_text T
  refine T.D__law_plain_parts.F.ok sc__law_plain_parts (fun vs H Q E h => ?_) (fun cdv A outer s H vs Q E hr h => ?_)
  · obtain ⟨p, q, ka, n, ks, rfl, _⟩ := h.out
    rfl
  · obtain ⟨p, q, ka, n, ks, rfl, S, hn, hka, hks, k0, k1, k⟩ := h.out
    refine ⟨_, (pss_cons (ps_set (i := 3) sc__law_plain_parts.nd rfl (by first | exact Or.inl rfl | exact Or.inr rfl) (pe_lst pa_nil))
  (pss_cons (ps_for PassesOwn.never rfl (pi_range1 rfl T.B.n_range (pa_cons (pe_call G__law_draw (hr.mono (by first | decide | omega)) rfl T.D__law_draw.g T.D__law_draw.F.kp T.D__law_draw.b .nil pass0 (pa_cons (pv 0) (pa_cons (pe_op op_add (pv 1) pe_int) pa_nil))) pa_nil)) (pg_name (i := 4) sc__law_plain_parts.nd rfl (by first | exact Or.inl rfl | exact Or.inr rfl))
    (pss_one (ps_if (pt_cmpR op_eq (pe_call G__law_draw (hr.mono (by first | decide | omega)) rfl T.D__law_draw.g T.D__law_draw.F.kp T.D__law_draw.b .nil pass0 (pa_cons (pv 0) (pa_cons pe_int pa_nil))) pe_int (nomark _))
    (pss_one (ps_expr (pe_bm PySem.F.plainAttrs_list PySem.F.slot_list_append PySem.F.type_list_append mt_append (pv 3) (pa_cons (pe_call G__law_text (hr.mono (by first | decide | omega)) rfl T.D__law_text.g T.D__law_text.F.kp T.D__law_text.b .nil pass0 (pa_cons (pv 0) (pa_cons (SL.pe_strL [97, 95, 57, 32, 36, 123, 125, 58, 10, 46] (by decide +kernel)) (pa_cons pe_int pa_nil)))) pa_nil))))
    (pss_one (ps_expr (pe_bm PySem.F.plainAttrs_list PySem.F.slot_list_append PySem.F.type_list_append mt_append (pv 3) (pa_cons (pe_tup (pa_cons (pe_call G__law_pick (hr.mono (by first | decide | omega)) rfl T.D__law_pick.g T.D__law_pick.F.kp T.D__law_pick.b .nil pass0 (pa_cons (pv 0) (pa_cons (pv 2) pa_nil))) (pa_cons (SL.pe_strL [] (by decide +kernel)) (pa_cons (SL.pe_strL [32] (by decide +kernel)) (pa_cons (SL.pe_strL [] (by decide +kernel)) (pa_cons pe_int pa_nil)))))) pa_nil)))))))
  (pss_one (ps_ret (pv 3))))), ?_⟩
    walk_at "st"
    intro b hb
    walk_at "st"
    obtain ⟨hpn, hqn⟩ := S.there
    have bp : b ≠ p := fun z => hpn (z ▸ hb)
    have bq : b ≠ q := fun z => hqn (z ▸ hb)
    have X0 : Xt H (upd H b (.lst [])) p q := Xt.new hb
    have S0 : Stm (upd H b (.lst [])) p q n := S.put bp bq
    have hb0 : (upd H b (.lst [])) b = some (.lst []) := upd_same
    generalize upd H b (.lst []) = H0 at X0 S0 hb0 ⊢
    refine .a ⟨p, q, n, 4, rfl, S0, by omega, by omega, by omega, fun d n1 H1 d0 d1 hn1 S1 fr1 => ?_⟩
    have X1 : Xt H0 H1 p q := .of (n := n) S1 fr1
    walk_at "st"
    refine for_rng (fun i σ Hi => ∃ (xs : List V) (ps : List Pc) (n' : Int) (y : Option V), σ = [some (.ref p), some (.int 3), some (.ref ka), some (.ref b), y] ∧ Hi b = some (.lst xs) ∧ PtsV (off Hi p q) xs ps ∧ (∀ c ∈ ps, GdP c) ∧ ps.length ≤ i ∧ n' ≤ n + 1 + 6 * i ∧ Stm Hi p q n' ∧ Xt H Hi p q) ⟨[], [], n1, none, rfl, X1.at hb0 bp bq, .nil, (fun _ z => nomatch z), Nat.le_refl _, by omega, S1, X0.trans X1⟩ ?_ ?_
    · rintro σ Hi ⟨xs, ps, n', y, rfl, h1, h2, h3, h4, h5, h6, h7⟩
      walk_at "st"
      exact k b xs ps n' Hi hb (off_of h1 bp bq) h2 h3 (by omega) (by omega) h6 h7
    · rintro R i σ Hi hi ⟨xs, ps, n', y, rfl, h1, h2, h3, h4, h5, h6, h7⟩ N hN
      walk_at "st"
      refine .a ⟨p, q, n', 2, rfl, h6, by omega, by omega, by omega, fun v n2 H2 v0 v1 hn2 S2 fr2 => ?_⟩
      have X2 : Xt Hi H2 p q := .of (n := n') S2 fr2
      walk_at "st"
      by_cases hv : v = 0
      · refine if_true_of (decide_eq_true (congrArg V.int hv)) ?_
        walk_at "st"
        refine ⟨.inl ⟨rfl, _, SqL.of (X2.at h1 bp bq)⟩, ?_⟩
        walk_at "st"
        refine .a ⟨p, q, n2, [97, 95, 57, 32, 36, 123, 125, 58, 10, 46], 4, rfl, S2, by omega, by decide, by decide, by omega, fun t n3 H3 ht hl3 hn3 S3 X3 => ?_⟩
        have hb3 : H3 b = some (.lst xs) := (X2.trans X3).at h1 bp bq
        have hl : xs.length = ps.length := h2.len
        walk_at "st"
        refine ⟨_, _, _, rfl, rfl, hb3, szl (by omega), ?_⟩
        rw [hN]
        refine .a ⟨xs ++ [.str (SX.S t)], ps ++ [.txt t], n3, _, rfl, upd_same, ((h2.mono (X2.trans X3).fr).put hb3).app (.cons (show PtV _ _ (.txt t) from rfl) .nil), ?_, ?_, by omega, S3.put bp bq, (h7.trans (X2.trans X3)).put hb⟩
        · intro c hc
          rcases List.mem_append.mp hc with hc | hc
          · exact h3 c hc
          · rw [List.mem_singleton.mp hc]; exact ⟨by omega, fun c hc => sg_lo c (ht c hc)⟩
        · rw [List.length_append, List.length_singleton]; omega
      · refine if_false_of (decide_eq_false fun e => hv (V.int.inj e)) ?_
        walk_at "st"
        refine ⟨.inl ⟨rfl, _, SqL.of (X2.at h1 bp bq)⟩, ?_⟩
        walk_at "st"
        have hka2 : off H2 p q ka = some (.lst (txV ks)) := (h7.trans X2).fr _ _ hka
        have hkl : (txV ks).length = ks.length := List.length_map ..
        refine .a ⟨p, q, ka, n2, txV ks, rfl, S2, by omega, hka2, by omega, by omega, fun v n3 H3 hv hn3 S3 fr3 => ?_⟩
        obtain ⟨nm, hnm, rfl⟩ := List.mem_map.mp hv
        have X3 : Xt H2 H3 p q := .of (n := n2) S3 fr3
        have hb3 : H3 b = some (.lst xs) := (X2.trans X3).at h1 bp bq
        have hl : xs.length = ps.length := h2.len
        walk_at "st"
        intro T0 hT0
        obtain ⟨hpn3, hqn3⟩ := S3.there
        have Tp : T0 ≠ p := fun z => hpn3 (z ▸ hT0)
        have Tq : T0 ≠ q := fun z => hqn3 (z ▸ hT0)
        have Tb : T0 ≠ b := fun z => by rw [z, hb3] at hT0; cases hT0
        have X4 : Xt H3 (upd H3 T0 (.tup (fldT nm))) p q := Xt.new hT0
        have S4 : Stm (upd H3 T0 (.tup (fldT nm))) p q n3 := S3.put Tp Tq
        have hT4 : (upd H3 T0 (.tup (fldT nm))) T0 = some (.tup (fldT nm)) := upd_same
        have hb4 : (upd H3 T0 (.tup (fldT nm))) b = some (.lst xs) := by rw [upd_ne Tb.symm]; exact hb3
        refine ⟨b, xs, _, rfl, rfl, hb4, szl (by omega), ?_⟩
        rw [hN]
        have hT5 : off (upd (upd H3 T0 (.tup (fldT nm))) b (.lst (xs ++ [.ref T0]))) p q T0 = some (.tup (fldT nm)) := off_of (by rw [upd_ne Tb]; exact hT4) Tp Tq
        refine .a ⟨xs ++ [.ref T0], ps ++ [.fld nm], n3, _, rfl, upd_same, ((h2.mono ((X2.trans X3).trans X4).fr).put hb4).app (.cons (show PtV _ _ (.fld nm) from ⟨T0, rfl, hT5⟩) .nil), ?_, ?_, by omega, S4.put bp bq, (h7.trans ((X2.trans X3).trans X4)).put hb⟩
        · intro c hc
          rcases List.mem_append.mp hc with hc | hc
          · exact h3 c hc
          · rw [List.mem_singleton.mp hc]; exact hks nm hnm
        · rw [List.length_append, List.length_singleton]; omega
end
end My

namespace My
open PySem PySem.Spec PyProof.Rows L2
local macro_rules | `(tactic| walk_at "hp") => `(tactic| first | assumption | exact upd_same | (refine Eq.trans (upd_ne (by first | assumption | (apply Ne.symm; assumption))) ?_; walk_at "hp"))
local macro_rules | `(tactic| walk_at "ixl") => `(tactic| (refine' ⟨_, ?xs, _, ?vv, rfl, rfl, SqL.of ?hh, ?aa, ?qq⟩; (case hh => walk_at "hp"); (case aa => rfl)))
local macro_rules | `(tactic| walk_at "setl") => `(tactic| (refine' ⟨_, ?xs, _, ?jj, rfl, rfl, ?hh, ?aa, ?qq⟩; (case hh => walk_at "hp"); (case aa => rfl)))
local macro_rules | `(tactic| walk_at "cond") => `(tactic| first | exact ⟨_, rfl⟩ | exact Nat.le_of_lt (small1000 (Nat.le_of_ble_eq_true rfl)) | decide | omega | (dsimp only; omega) | exact ⟨by decide, by decide⟩ | exact Or.inr ⟨by decide, by decide⟩ | exact Or.inl ⟨by decide, by decide⟩ | exact ⟨by decide, by decide, by decide⟩ | exact ⟨by omega, by omega⟩ | exact ⟨by omega, by omega, by omega⟩ | (simp only [List.length_cons, List.length_nil, List.length_append, List.length_take, List.length_drop]; omega) | (refine ⟨?_, ?_, ?_⟩ <;> first | decide | omega | (simp only [List.length_cons, List.length_nil, List.length_append, List.length_take, List.length_drop, Option.getD_some, Option.getD_none]; omega)))
local macro_rules | `(tactic| walk_at "st") => `(tactic| repeat (first | refine ⟨_, rfl, ?_⟩ | refine ⟨_, _, rfl, rfl, ?_⟩ | walk_at "ixl" | walk_at "setl" | refine ⟨rfl, ?_⟩ | refine Or.inl ⟨_, rfl, ?_⟩ | refine And.intro (by walk_at "cond") ?_))
def tLockO (t : TE) : TE := fun σ H Q => tLockE t σ H Q ∨ t σ H Q
theorem pe_lockO {X : Cx} {e : Expr} {t : TE} (h : PE X e t) : PE X e (tLockO t) := ⟨fun pins s σ H Q I hw => by
  rcases hw with hw | hw
  · exact (pe_lock h).run pins s σ H Q I hw
  · exact h.run pins s σ H Q I hw⟩
/-- what the law calls two equal texts -/
def spS0 : Sp := fun vs H Q _ => Hd (∃ a : List Nat, vs = [.str (SX.S a), .str (SX.S a)] ∧ ∀ H', Same H H' → Q (.bl true) H')
def spS1 : Sp := fun vs H Q _ => Hd (∃ (a b : Addr) (ns : List (List Nat)), vs = [.ref a, .ref b] ∧ H a = some (.tup (txV ns)) ∧ H b = some (.tup (txV ns)) ∧ ns.length ≤ 100 ∧ ∀ H', Same H H' → Q (.bl true) H')
theorem walk_zp {K : PySem.W.Frag} {a b : Addr} {xs ys : List V} {n : Nat} (hn : n = min xs.length ys.length) : Walk (RZ.ItzT K a b) n (fun H => SqT K H a xs ∧ SqT K H b ys) (YPair (fun i => xs[i]?) (fun i => ys[i]?)) := by
  subst hn
  refine ⟨fun i _ hi q => ?_, fun _ q => ⟨xs, ys, q.1, q.2, by omega⟩, ?_⟩
  · have h1 : i < xs.length := by omega
    have h2 : i < ys.length := by omega
    exact ⟨xs, ys, xs[i], ys[i], q.1, q.2, by simp [h1], by simp [h2]⟩
  · rintro i H v H' _ q ⟨T, x, z, h1, h2, h3, h4, h5⟩
    exact ⟨T, x, z, h1, h2, h3, h4 xs q.1, h5 ys q.2⟩
structure TruP (H : Hp) (D0 : Addr) (i : Nat) (H3 : Hp) : Prop where
  at_ : H3 D0 = some (.lst ((List.replicate i true).map V.bl))
  sm : Same H H3
theorem TruP.zero {H : Hp} {D0 : Addr} (hD : H D0 = none) : TruP H D0 0 (upd H D0 (.lst [])) := ⟨upd_same, same_put (Same.refl _) hD⟩
theorem TruP.next {H H3 H4 : Hp} {D0 : Addr} {i : Nat} (c : TruP H D0 i H3) (hD : H D0 = none) (hi : i < 1000) (sm : Same H3 H4) :
    ∃ acc, H4 D0 = some (.lst acc) ∧ acc.length < sizeLine ∧ TruP H D0 (i + 1) (upd H4 D0 (.lst (acc ++ [V.bl true]))) := by
  refine ⟨_, sm _ _ c.at_, by rw [List.length_map, List.length_replicate]; exact small1000 (by omega), ⟨?_, same_put (c.sm.trans sm) hD⟩⟩
  rw [upd_same, List.replicate_succ', List.map_append]
  rfl
theorem all_true (i : Nat) : (List.replicate i true).all id = true := by simp
section
variable {P : Program} {w : World} {K : PySem.W.Frag} {mg : Str → Option Value} {base : Heap}
theorem ok_s0 (T : Txt K mg) : FnOk P w K mg base CX0 2 T.f__law_same T.fd__law_same ["_law_found", "_law_due"] spS0 := by
  have G__law_same : FnOk P w K mg base CX0 1 T.f__law_same T.fd__law_same ["_law_found", "_law_due"] spNo := ok_no T.D__law_same.F sc__law_same
  refine T.D__law_same.F.ok sc__law_same (fun vs H Q E h => ?_) (fun cdv A outer s H vs Q E hr h => ?_)
  · obtain ⟨a, rfl, _⟩ := h.out
    rfl
  · obtain ⟨a, rfl, k⟩ := h.out
    have hu := hu_of hr
    have hu64 := hr.units
    refine ⟨_, (pss_cons (ps_if (pt_val (pe_callB call_isi (by rfl) T.B.n_isinstance (by decide +kernel) (pa_cons (pv 1) (pa_cons (pe_bltn (v := .ty "dict") (u := .type "dict") (by rfl) T.B.n_dict (by decide +kernel) rfl) pa_nil))))
    (pss_cons (ps_if (PW.pt (pw_or (pt_not (pt_val (pe_callB call_isi (by rfl) T.B.n_isinstance (by decide +kernel) (pa_cons (pv 0) (pa_cons (pe_bltn (v := .ty "dict") (u := .type "dict") (by rfl) T.B.n_dict (by decide +kernel) rfl) pa_nil))))) (pw_or1 (pt_cmpR (op_neD hu64) (pe_callB cr_sortedS (by rfl) T.B.n_sorted (by decide +kernel) (pa_cons (pe_callTy (call_listD rfl) (by rfl) T.B.n_list (by decide +kernel) (pa_cons (pv 0) pa_nil)) pa_nil)) (pe_callB cr_sortedS (by rfl) T.B.n_sorted (by decide +kernel) (pa_cons (pe_callTy (call_listD rfl) (by rfl) T.B.n_list (by decide +kernel) (pa_cons (pv 1) pa_nil)) pa_nil)) (nomark _)))))
    (pss_one (ps_ret pe_bl))
    pss_nil)
  (pss_one (ps_ret (pe_callB (cr_all rfl) (by rfl) T.B.n_all (by decide +kernel) (pa_cons (pe_lockO (pe_lc (own := [("_law_key", 2)]) (g := gName 2) rfl sc__law_same.nd (pi_keys (pv 1)) (blkOk_by (N := ["_law_found", "_law_due", "_law_key", "_law_one", "_law_other"]) (sc := defScope s__law_same) (by decide +kernel)) (fun _ _ _ _ _ => (pg_name (i := 2) sc__law_same.nd rfl (by first | exact Or.inl rfl | exact Or.inr rfl))) (fun _ _ _ _ _ => pts_nil) (fun _ _ _ _ _ => (pe_call G__law_same (hr.mono (by first | decide | omega)) rfl T.D__law_same.g T.D__law_same.F.kp T.D__law_same.b .nil pass0 (pa_cons (pe_dget hu (pv 0) (pv 2) (fun _ _ => rfl)) (pa_cons (pe_dget hu (pv 1) (pv 2) (fun _ _ => rfl)) pa_nil)))))) pa_nil)))))
    pss_nil)
  (pss_cons (ps_if (pt_val (pe_callB call_isiT (by rfl) T.B.n_isinstance (by decide +kernel) (pa_cons (pv 1) (pa_cons (pe_tup (pa_cons (pe_bltn (v := .ty "list") (u := .type "list") (by rfl) T.B.n_list (by decide +kernel) rfl) (pa_cons (pe_bltn (v := .ty "tuple") (u := .type "tuple") (by rfl) T.B.n_tuple (by decide +kernel) rfl) pa_nil))) pa_nil))))
    (pss_cons (ps_if (PW.pt (pw_or (pt_cmpR op_ne (pe_callB call_isi (by rfl) T.B.n_isinstance (by decide +kernel) (pa_cons (pv 0) (pa_cons (pe_bltn (v := .ty "list") (u := .type "list") (by rfl) T.B.n_list (by decide +kernel) rfl) pa_nil))) (pe_callB call_isi (by rfl) T.B.n_isinstance (by decide +kernel) (pa_cons (pv 1) (pa_cons (pe_bltn (v := .ty "list") (u := .type "list") (by rfl) T.B.n_list (by decide +kernel) rfl) pa_nil))) (nomark _)) (pw_or1 (pt_cmpR op_ne (pe_callB call_isi (by rfl) T.B.n_isinstance (by decide +kernel) (pa_cons (pv 0) (pa_cons (pe_bltn (v := .ty "tuple") (u := .type "tuple") (by rfl) T.B.n_tuple (by decide +kernel) rfl) pa_nil))) (pe_callB call_isi (by rfl) T.B.n_isinstance (by decide +kernel) (pa_cons (pv 1) (pa_cons (pe_bltn (v := .ty "tuple") (u := .type "tuple") (by rfl) T.B.n_tuple (by decide +kernel) rfl) pa_nil))) (nomark _)))))
    (pss_one (ps_ret pe_bl))
    pss_nil)
  (pss_one (ps_ret (pe_and (pe_cmpR op_eq (pe_callB call_len_seq (by rfl) T.B.n_len (by decide +kernel) (pa_cons (pv 0) pa_nil)) (pe_callB call_len_seq (by rfl) T.B.n_len (by decide +kernel) (pa_cons (pv 1) pa_nil)) (nomark _)) (pe_one (pe_callB (cr_all rfl) (by rfl) T.B.n_all (by decide +kernel) (pa_cons (pe_lc (own := [("_law_one", 3), ("_law_other", 4)]) (g := gTup K 2 (gCons (gName 3) (gCons (gName 4) gNil))) rfl sc__law_same.nd (RZ.pi_zipA (by rfl) T.B.n_zip (pa_cons (pv 0) (pa_cons (pv 1) pa_nil))) (blkOk_by (N := ["_law_found", "_law_due", "_law_key", "_law_one", "_law_other"]) (sc := defScope s__law_same) (by decide +kernel)) (fun _ _ _ _ _ => (pg_tup rfl (pgs_cons (pg_name (i := 3) sc__law_same.nd rfl (by first | exact Or.inl rfl | exact Or.inr rfl)) (pgs_cons (pg_name (i := 4) sc__law_same.nd rfl (by first | exact Or.inl rfl | exact Or.inr rfl)) pgs_nil)))) (fun _ _ _ _ _ => pts_nil) (fun _ _ _ _ _ => (pe_call G__law_same (hr.mono (by first | decide | omega)) rfl T.D__law_same.g T.D__law_same.F.kp T.D__law_same.b .nil pass0 (pa_cons (pv 3) (pa_cons (pv 4) pa_nil))))) pa_nil)))))))
    pss_nil)
  (pss_cons (ps_if (pt_val (pe_callB call_isi (by rfl) T.B.n_isinstance (by decide +kernel) (pa_cons (pv 1) (pa_cons (pe_bltn (v := .ty "int") (u := .type "int") (by rfl) T.B.n_int (by decide +kernel) rfl) pa_nil))))
    (pss_one (ps_ret (pe_and (pe_callB call_isi (by rfl) T.B.n_isinstance (by decide +kernel) (pa_cons (pv 0) (pa_cons (pe_bltn (v := .ty "int") (u := .type "int") (by rfl) T.B.n_int (by decide +kernel) rfl) pa_nil))) (pe_and (pe_cmpR op_eq (pe_callB call_isi (by rfl) T.B.n_isinstance (by decide +kernel) (pa_cons (pv 0) (pa_cons (pe_bltn (v := .ty "bool") (u := .type "bool") (by rfl) T.B.n_bool (by decide +kernel) rfl) pa_nil))) (pe_callB call_isi (by rfl) T.B.n_isinstance (by decide +kernel) (pa_cons (pv 1) (pa_cons (pe_bltn (v := .ty "bool") (u := .type "bool") (by rfl) T.B.n_bool (by decide +kernel) rfl) pa_nil))) (nomark _)) (pe_one (pe_cmpR op_eq (pv 0) (pv 1) (nomark _)))))))
    pss_nil)
  (pss_one (ps_ret (pe_and (pe_cmpR op_eq (pv 0) (pv 1) (nomark _)) (pe_one (pe_not (pe_callB call_isiT (by rfl) T.B.n_isinstance (by decide +kernel) (pa_cons (pv 0) (pa_cons (pe_tup (pa_cons (pe_bltn (v := .ty "int") (u := .type "int") (by rfl) T.B.n_int (by decide +kernel) rfl) (pa_cons (pe_bltn (v := .ty "list") (u := .type "list") (by rfl) T.B.n_list (by decide +kernel) rfl) (pa_cons (pe_bltn (v := .ty "tuple") (u := .type "tuple") (by rfl) T.B.n_tuple (by decide +kernel) rfl) (pa_cons (pe_bltn (v := .ty "dict") (u := .type "dict") (by rfl) T.B.n_dict (by decide +kernel) rfl) pa_nil))))) pa_nil))))))))))), ?_⟩
    walk_at "st"
    refine ⟨_, .ty "dict", _, _, false, rfl, .ty "dict", .base (.str _), kit_ty (by decide +kernel), ?_⟩
    walk_at "st"
    intro t ht
    have st := same_new (o := .tup [.ty "list", .ty "tuple"]) ht
    refine ⟨_, t, _, _, _, false, rfl, upd_same, (.cons (.ty "list") (.cons (.ty "tuple") .nil)), .base (.str _), (kitAny_cons (b := false) (kit_ty (by decide +kernel)) (fun _ => (kitAny_cons (b := false) (kit_ty (by decide +kernel)) (fun _ => kitAny_nil) (fun h => nomatch h))) (fun h => nomatch h)), ?_⟩
    walk_at "st"
    refine ⟨_, .ty "int", _, _, false, rfl, .ty "int", .base (.str _), kit_ty (by decide +kernel), ?_⟩
    walk_at "st"
    have e : decide (V.str (SX.S a) = V.str (SX.S a)) = true := decide_eq_true rfl
    rw [e]
    walk_at "st"
    intro u hu
    have su := same_new (o := .tup [.ty "int", .ty "list", .ty "tuple", .ty "dict"]) hu
    refine ⟨_, u, _, _, _, false, rfl, upd_same, (.cons (.ty "int") (.cons (.ty "list") (.cons (.ty "tuple") (.cons (.ty "dict") .nil)))), .base (.str _), (kitAny_cons (b := false) (kit_ty (by decide +kernel)) (fun _ => (kitAny_cons (b := false) (kit_ty (by decide +kernel)) (fun _ => (kitAny_cons (b := false) (kit_ty (by decide +kernel)) (fun _ => (kitAny_cons (b := false) (kit_ty (by decide +kernel)) (fun _ => kitAny_nil) (fun h => nomatch h))) (fun h => nomatch h))) (fun h => nomatch h))) (fun h => nomatch h)), ?_⟩
    walk_at "st"
    exact k _ (st.trans su)
theorem ok_s1 (T : Txt K mg) : FnOk P w K mg base CX0 3 T.f__law_same T.fd__law_same ["_law_found", "_law_due"] spS1 := by
  have G__law_same : FnOk P w K mg base CX0 2 T.f__law_same T.fd__law_same ["_law_found", "_law_due"] spS0 := ok_s0 T
  refine T.D__law_same.F.ok sc__law_same (fun vs H Q E h => ?_) (fun cdv A outer s H vs Q E hr h => ?_)
  · obtain ⟨a, b, ns, rfl, _⟩ := h.out
    rfl
  · obtain ⟨a, b, ns, rfl, h1, h2, hn, k⟩ := h.out
    have hu := hu_of hr
    have hu64 := hr.units
    refine ⟨_, (pss_cons (ps_if (pt_val (pe_callB call_isi (by rfl) T.B.n_isinstance (by decide +kernel) (pa_cons (pv 1) (pa_cons (pe_bltn (v := .ty "dict") (u := .type "dict") (by rfl) T.B.n_dict (by decide +kernel) rfl) pa_nil))))
    (pss_cons (ps_if (PW.pt (pw_or (pt_not (pt_val (pe_callB call_isi (by rfl) T.B.n_isinstance (by decide +kernel) (pa_cons (pv 0) (pa_cons (pe_bltn (v := .ty "dict") (u := .type "dict") (by rfl) T.B.n_dict (by decide +kernel) rfl) pa_nil))))) (pw_or1 (pt_cmpR (op_neD hu64) (pe_callB cr_sortedS (by rfl) T.B.n_sorted (by decide +kernel) (pa_cons (pe_callTy (call_listD rfl) (by rfl) T.B.n_list (by decide +kernel) (pa_cons (pv 0) pa_nil)) pa_nil)) (pe_callB cr_sortedS (by rfl) T.B.n_sorted (by decide +kernel) (pa_cons (pe_callTy (call_listD rfl) (by rfl) T.B.n_list (by decide +kernel) (pa_cons (pv 1) pa_nil)) pa_nil)) (nomark _)))))
    (pss_one (ps_ret pe_bl))
    pss_nil)
  (pss_one (ps_ret (pe_callB (cr_all rfl) (by rfl) T.B.n_all (by decide +kernel) (pa_cons (pe_lockO (pe_lc (own := [("_law_key", 2)]) (g := gName 2) rfl sc__law_same.nd (pi_keys (pv 1)) (blkOk_by (N := ["_law_found", "_law_due", "_law_key", "_law_one", "_law_other"]) (sc := defScope s__law_same) (by decide +kernel)) (fun _ _ _ _ _ => (pg_name (i := 2) sc__law_same.nd rfl (by first | exact Or.inl rfl | exact Or.inr rfl))) (fun _ _ _ _ _ => pts_nil) (fun _ _ _ _ _ => (pe_call G__law_same (hr.mono (by first | decide | omega)) rfl T.D__law_same.g T.D__law_same.F.kp T.D__law_same.b .nil pass0 (pa_cons (pe_dget hu (pv 0) (pv 2) (fun _ _ => rfl)) (pa_cons (pe_dget hu (pv 1) (pv 2) (fun _ _ => rfl)) pa_nil)))))) pa_nil)))))
    pss_nil)
  (pss_cons (ps_if (pt_val (pe_callB call_isiT (by rfl) T.B.n_isinstance (by decide +kernel) (pa_cons (pv 1) (pa_cons (pe_tup (pa_cons (pe_bltn (v := .ty "list") (u := .type "list") (by rfl) T.B.n_list (by decide +kernel) rfl) (pa_cons (pe_bltn (v := .ty "tuple") (u := .type "tuple") (by rfl) T.B.n_tuple (by decide +kernel) rfl) pa_nil))) pa_nil))))
    (pss_cons (ps_if (PW.pt (pw_or (pt_cmpR op_ne (pe_callB call_isi (by rfl) T.B.n_isinstance (by decide +kernel) (pa_cons (pv 0) (pa_cons (pe_bltn (v := .ty "list") (u := .type "list") (by rfl) T.B.n_list (by decide +kernel) rfl) pa_nil))) (pe_callB call_isi (by rfl) T.B.n_isinstance (by decide +kernel) (pa_cons (pv 1) (pa_cons (pe_bltn (v := .ty "list") (u := .type "list") (by rfl) T.B.n_list (by decide +kernel) rfl) pa_nil))) (nomark _)) (pw_or1 (pt_cmpR op_ne (pe_callB call_isi (by rfl) T.B.n_isinstance (by decide +kernel) (pa_cons (pv 0) (pa_cons (pe_bltn (v := .ty "tuple") (u := .type "tuple") (by rfl) T.B.n_tuple (by decide +kernel) rfl) pa_nil))) (pe_callB call_isi (by rfl) T.B.n_isinstance (by decide +kernel) (pa_cons (pv 1) (pa_cons (pe_bltn (v := .ty "tuple") (u := .type "tuple") (by rfl) T.B.n_tuple (by decide +kernel) rfl) pa_nil))) (nomark _)))))
    (pss_one (ps_ret pe_bl))
    pss_nil)
  (pss_one (ps_ret (pe_and (pe_cmpR op_eq (pe_callB call_len_seq (by rfl) T.B.n_len (by decide +kernel) (pa_cons (pv 0) pa_nil)) (pe_callB call_len_seq (by rfl) T.B.n_len (by decide +kernel) (pa_cons (pv 1) pa_nil)) (nomark _)) (pe_one (pe_callB (cr_all rfl) (by rfl) T.B.n_all (by decide +kernel) (pa_cons (pe_lc (own := [("_law_one", 3), ("_law_other", 4)]) (g := gTup K 2 (gCons (gName 3) (gCons (gName 4) gNil))) rfl sc__law_same.nd (RZ.pi_zipA (by rfl) T.B.n_zip (pa_cons (pv 0) (pa_cons (pv 1) pa_nil))) (blkOk_by (N := ["_law_found", "_law_due", "_law_key", "_law_one", "_law_other"]) (sc := defScope s__law_same) (by decide +kernel)) (fun _ _ _ _ _ => (pg_tup rfl (pgs_cons (pg_name (i := 3) sc__law_same.nd rfl (by first | exact Or.inl rfl | exact Or.inr rfl)) (pgs_cons (pg_name (i := 4) sc__law_same.nd rfl (by first | exact Or.inl rfl | exact Or.inr rfl)) pgs_nil)))) (fun _ _ _ _ _ => pts_nil) (fun _ _ _ _ _ => (pe_call G__law_same (hr.mono (by first | decide | omega)) rfl T.D__law_same.g T.D__law_same.F.kp T.D__law_same.b .nil pass0 (pa_cons (pv 3) (pa_cons (pv 4) pa_nil))))) pa_nil)))))))
    pss_nil)
  (pss_cons (ps_if (pt_val (pe_callB call_isi (by rfl) T.B.n_isinstance (by decide +kernel) (pa_cons (pv 1) (pa_cons (pe_bltn (v := .ty "int") (u := .type "int") (by rfl) T.B.n_int (by decide +kernel) rfl) pa_nil))))
    (pss_one (ps_ret (pe_and (pe_callB call_isi (by rfl) T.B.n_isinstance (by decide +kernel) (pa_cons (pv 0) (pa_cons (pe_bltn (v := .ty "int") (u := .type "int") (by rfl) T.B.n_int (by decide +kernel) rfl) pa_nil))) (pe_and (pe_cmpR op_eq (pe_callB call_isi (by rfl) T.B.n_isinstance (by decide +kernel) (pa_cons (pv 0) (pa_cons (pe_bltn (v := .ty "bool") (u := .type "bool") (by rfl) T.B.n_bool (by decide +kernel) rfl) pa_nil))) (pe_callB call_isi (by rfl) T.B.n_isinstance (by decide +kernel) (pa_cons (pv 1) (pa_cons (pe_bltn (v := .ty "bool") (u := .type "bool") (by rfl) T.B.n_bool (by decide +kernel) rfl) pa_nil))) (nomark _)) (pe_one (pe_cmpR op_eq (pv 0) (pv 1) (nomark _)))))))
    pss_nil)
  (pss_one (ps_ret (pe_and (pe_cmpR op_eq (pv 0) (pv 1) (nomark _)) (pe_one (pe_not (pe_callB call_isiT (by rfl) T.B.n_isinstance (by decide +kernel) (pa_cons (pv 0) (pa_cons (pe_tup (pa_cons (pe_bltn (v := .ty "int") (u := .type "int") (by rfl) T.B.n_int (by decide +kernel) rfl) (pa_cons (pe_bltn (v := .ty "list") (u := .type "list") (by rfl) T.B.n_list (by decide +kernel) rfl) (pa_cons (pe_bltn (v := .ty "tuple") (u := .type "tuple") (by rfl) T.B.n_tuple (by decide +kernel) rfl) (pa_cons (pe_bltn (v := .ty "dict") (u := .type "dict") (by rfl) T.B.n_dict (by decide +kernel) rfl) pa_nil))))) pa_nil))))))))))), ?_⟩
    walk_at "st"
    refine ⟨_, .ty "dict", _, _, false, rfl, .ty "dict", .base (.tup h2), kit_ty (by decide +kernel), ?_⟩
    walk_at "st"
    intro t ht
    have st := same_new (o := .tup [.ty "list", .ty "tuple"]) ht
    refine ⟨_, t, _, _, _, true, rfl, upd_same, (.cons (.ty "list") (.cons (.ty "tuple") .nil)), .base (.tup (st _ _ h2)), (kitAny_cons (b := false) (kit_ty (by decide +kernel)) (fun _ => (kitAny_cons (b := true) (kit_ty (by decide +kernel)) (fun h => nomatch h) (fun _ => rfl))) (fun h => nomatch h)), ?_⟩
    walk_at "st"
    have g1 := st _ _ h1
    have g2 := st _ _ h2
    generalize upd H t (.tup [.ty "list", .ty "tuple"]) = H1 at st g1 g2 ⊢
    refine ⟨_, .ty "list", _, _, false, rfl, .ty "list", .base (.tup g1), kit_ty (by decide +kernel), ?_⟩
    walk_at "st"
    refine ⟨_, .ty "list", _, _, false, rfl, .ty "list", .base (.tup g2), kit_ty (by decide +kernel), ?_⟩
    walk_at "st"
    refine ⟨_, .ty "tuple", _, _, true, rfl, .ty "tuple", .base (.tup g1), kit_ty (by decide +kernel), ?_⟩
    walk_at "st"
    refine ⟨_, .ty "tuple", _, _, true, rfl, .ty "tuple", .base (.tup g2), kit_ty (by decide +kernel), ?_⟩
    walk_at "st"
    refine ⟨a, _, rfl, .inr (SqT.of g1), ?_⟩
    walk_at "st"
    refine ⟨b, _, rfl, .inr (SqT.of g2), ?_⟩
    walk_at "st"
    refine if_true_of (decide_eq_true rfl) ?_
    walk_at "st"
    have hlen : (txV ns).length = ns.length := List.length_map ..
    refine ⟨a, b, txV ns, txV ns, rfl, .inr ⟨SqT.of g1, SqT.of g2, fun D0 hD => ?_⟩⟩
    refine lc_it (n := (txV ns).length) (walk_zp (xs := txV ns) (ys := txV ns) (by omega)) (TruP H1 D0) (.zero hD) (fun i H _ c => ⟨SqT.of (c.sm _ _ g1), SqT.of (c.sm _ _ g2)⟩) ?_ ?_
    · rintro i x H3 H4 hi c ⟨T0, x1, y1, rfl, hT, rfl, e1, e2⟩
      have ex : x1 = y1 := by rw [e1] at e2; exact Option.some.inj e2
      subst ex
      obtain ⟨nm, _, rfl⟩ := List.mem_map.mp (List.mem_of_getElem? e1)
      have s3 := c.sm.trans (same_new (o := .tup [.str (SX.S nm), .str (SX.S nm)]) hT)
      refine ⟨T0, _, rfl, SqT.of upd_same, rfl, _, _, rfl, _, _, rfl, rfl, rfl, ?_⟩
      walk_at "st"
      exact .a ⟨nm, rfl, fun H5 s5 => c.next hD (by omega) ((same_new hT).trans s5)⟩
    · intro H3 c
      walk_at "st"
      refine ⟨D0, _, rfl, SqL.of c.at_, ?_⟩
      rw [all_true]
      exact k _ (st.trans c.sm)
end
end My

namespace My
open PySem PySem.Spec PyProof.Rows L2
local macro_rules | `(tactic| walk_at "hp") => `(tactic| first | assumption | exact upd_same | (refine Eq.trans (upd_ne (by first | assumption | (apply Ne.symm; assumption))) ?_; walk_at "hp"))
local macro_rules | `(tactic| walk_at "ixl") => `(tactic| (refine' ⟨_, ?xs, _, ?vv, rfl, rfl, SqL.of ?hh, ?aa, ?qq⟩; (case hh => walk_at "hp"); (case aa => rfl)))
local macro_rules | `(tactic| walk_at "setl") => `(tactic| (refine' ⟨_, ?xs, _, ?jj, rfl, rfl, ?hh, ?aa, ?qq⟩; (case hh => walk_at "hp"); (case aa => rfl)))
local macro_rules | `(tactic| walk_at "cond") => `(tactic| first | exact ⟨_, rfl⟩ | exact Nat.le_of_lt (small1000 (Nat.le_of_ble_eq_true rfl)) | decide | omega | (dsimp only; omega) | exact ⟨by decide, by decide⟩ | exact Or.inr ⟨by decide, by decide⟩ | exact Or.inl ⟨by decide, by decide⟩ | exact ⟨by decide, by decide, by decide⟩ | exact ⟨by omega, by omega⟩ | exact ⟨by omega, by omega, by omega⟩ | (simp only [List.length_cons, List.length_nil, List.length_append, List.length_take, List.length_drop]; omega) | (refine ⟨?_, ?_, ?_⟩ <;> first | decide | omega | (simp only [List.length_cons, List.length_nil, List.length_append, List.length_take, List.length_drop, Option.getD_some, Option.getD_none]; omega)))
local macro_rules | `(tactic| walk_at "st") => `(tactic| repeat (first | refine ⟨_, rfl, ?_⟩ | refine ⟨_, _, rfl, rfl, ?_⟩ | walk_at "ixl" | walk_at "setl" | refine ⟨rfl, ?_⟩ | refine Or.inl ⟨_, rfl, ?_⟩ | refine And.intro (by walk_at "cond") ?_))
theorem ixtK {X : Cx} {K : PySem.W.Frag} (h : X.K = K) : IxR X (rIxT K) := by
  subst h
  exact ix_tup
section
variable {P : Program} {w : World} {K : PySem.W.Frag} {mg : Str → Option Value} {base : Heap}
def spAlone : Sp := fun vs H Q _ => Hd (∃ (l : List Nat) (o : Option (List Pc)), vs = [.str (SX.S l), .str (SX.S [36])] ∧ l.length ≤ 99000 ∧ My.Dp l o ∧
  ∀ (t : Addr) (H' : Hp), H t = none → H' t = some (.tup (told l o true)) → Same H H' → Q (.ref t) H')
theorem ok_alone (T : Txt K mg) : FnOk P w K mg base CX0 8 T.f__law_made_alone T.fd__law_made_alone ["_law_form", "_law_sign"] spAlone := by
  have G : FnOk P w K mg base (L2.CX P w) 6 T.i_Formatter T.fdi_Formatter _ (spFm T.C_Field T.C_Formatter T.c_BadFormat) := ok_init T
  obtain ⟨ds1, hd1, hb1⟩ := bi_Fm1 T
  obtain ⟨ds2, hd2, hb2⟩ := bi_Fm2 T
  refine T.D__law_made_alone.F.ok sc__law_made_alone (fun vs H Q E h => ?_) (fun cdv A outer s H vs Q E hr h => ?_)
  · obtain ⟨l, o, rfl, _⟩ := h.out
    rfl
  · obtain ⟨l, o, rfl, hz, hD, k⟩ := h.out
    refine ⟨_, pss_cons (ps_try_fst (i := 2) (tb := fun W => tIfS (tTest (tOp SL.rEqL (tVar 1) (tC (.str (SX.S [123])))))
          (tDrop (tMkS T.C_Formatter (spFm T.C_Field T.C_Formatter T.c_BadFormat) [.str (SX.S [123]), .bl true, V.non] (WE W) (tCons (tVar 0) tNil)))
          (tDrop (tMkS T.C_Formatter (spFm T.C_Field T.C_Formatter T.c_BadFormat) [.bl true, V.non] (WE W) (tCons (tVar 0) (tCons (tVar 1) tNil)))))
        (ts := fun a cls d => tRet (tTup (tCons (tC (.str (SX.S sFormat))) (tCons (tErrS T.c_BadFormat "fmt" a cls d (tVar 2)) tNil)))) rfl rfl sc__law_made_alone.nd rfl rfl ⟨rfl, by decide, Or.inl T.E_BadFormat.gC⟩
        (fun W pn xe tk _ => pss_one (ps_if (pt_cmpR SL.op_eqL (pv 1) (SL.pe_strL [123] (by decide +kernel)) (nomark _))
          (pss_one (ps_expr (by exact (pe_mkS T.M_Formatter G hr rfl T.g_Formatter hb1 hd1 (fun σ => passAt tk σ) (by exact (pa_cons (pv 0) pa_nil))))))
          (pss_one (ps_expr (by exact (pe_mkS T.M_Formatter G hr rfl T.g_Formatter hb2 hd2 (fun σ => passAt tk σ) (by exact (pa_cons (pv 0) (pa_cons (pv 1) pa_nil)))))))))
        (fun a oe cls d pn hz hf => pss_one (ps_ret (pe_tup (pa_cons (SL.pe_strL sFormat (by decide +kernel)) (pa_cons (pe_errS T.E_BadFormat hz hf (pv 2)) pa_nil))))))
      (pss_one (ps_ret (pe_tup (pa_cons (SL.pe_strL sMade (by decide +kernel)) (pa_cons pe_non pa_nil))))), ?_⟩
    walk_at "st"
    intro x dx hx hdx hxd
    have hS : ∀ {H' : Hp}, SameX x (upd (upd H dx (.own x)) x (.ins T.C_Formatter dx [])) H' → Same H H' := fun sx c u hu => by
      have cx : c ≠ x := fun z => by rw [z, hx] at hu; cases hu
      have cd : c ≠ dx := fun z => by rw [z, hdx] at hu; cases hu
      exact sx c u cx (by rw [upd_ne cx, upd_ne cd]; exact hu)
    refine .a ⟨x, dx, l, true, o, rfl, upd_same, hz, hD, fun hno d H1 hd1 sx => ⟨T.exm, fun a ha => ?_⟩, fun ps e hyes H1 _ sx => ⟨rfl, ?_⟩⟩
    · walk_at "st"
      refine ⟨d, _, rfl, hd1, ?_⟩
      walk_at "st"
      intro t ht
      refine k t _ ((hS sx).free ht) ?_ (same_put (hS sx) ((hS sx).free ht))
      have e2 : told l o true = [.str (SX.S sFormat), .str (SX.S l)] := by
        rcases hno with rfl | ⟨ps, rfl, h1, _⟩
        · rfl
        · exact if_pos ⟨h1, rfl⟩
      rw [e2]
      exact upd_same
    · walk_at "st"
      intro t ht
      refine k t _ ((hS sx).free ht) ?_ (same_put (hS sx) ((hS sx).free ht))
      have e2 : told l o true = [.str (SX.S sMade), .non] := by
        subst e
        refine if_neg fun z => ?_
        rcases hyes with h | h
        · exact h z.1
        · cases h
      rw [e2]
      exact upd_same
theorem keys_ok : ∀ k ∈ [[97], [109, 101, 115, 115, 97, 103, 101], [95, 57]], Nm k ∧ k.length ≤ 10 := by
  intro k hk
  simp only [List.mem_cons, List.not_mem_nil, or_false] at hk
  rcases hk with rfl | rfl | rfl <;> exact ⟨⟨by decide, by decide +kernel, fun c h => by obtain rfl := Option.some.inj h; decide +kernel⟩, by decide⟩
theorem cutV_to {xs : List V} {j : Nat} : cutV xs none (some (j : Int)) = xs.take j := by
  unfold cutV
  rw [HT.sIx_none, HT.sIx_nat, List.drop_zero, Nat.sub_zero]
  by_cases h : j ≤ xs.length
  · rw [Nat.min_eq_left h]
  · rw [Nat.min_eq_right (by omega), List.take_of_length_le (Nat.le_refl _), List.take_of_length_le (by omega)]
theorem cutV_from {xs : List V} {j : Nat} : cutV xs (some (j : Int)) none = xs.drop j := by
  unfold cutV
  rw [HT.sIx_none, HT.sIx_nat]
  by_cases h : j ≤ xs.length
  · rw [Nat.min_eq_left h, List.take_of_length_le (by rw [List.length_drop]; exact Nat.le_refl _)]
  · rw [Nat.min_eq_right (by omega), Nat.sub_self, List.take_zero, List.drop_eq_nil_of_le (by omega)]
theorem odd_len : ∀ t ∈ ODD, t.length ≤ 10 := by decide +kernel
theorem odd_lo : ∀ t ∈ ODD, ∀ c ∈ t, c < 128 := by decide +kernel
theorem end_lo : ∀ t ∈ ENDS, ∀ c ∈ t, c < 128 := by decide +kernel
theorem end_len : ∀ t ∈ ENDS, t.length ≤ 10 := by decide +kernel
theorem if_rest {c : Bool} {t : TS} {D : Ends} {σ : L2.St} {H : Hp} (Mid : L2.St → Hp → Prop) (h2 : ∀ σ' H', Mid σ' H' → D.nx σ' H') (h1 : ∀ R : L2.St → Hp → Prop, (∀ σ' H', Mid σ' H' → R σ' H') → c = true → t { nx := R, rt := D.rt, bk := D.bk, ct := D.ct } σ H)
    (h3 : c = false → Mid σ H) : if c = true then t D σ H else tNext D σ H := by
  cases c with
  | true => exact h1 D.nx h2 rfl
  | false => exact h2 _ _ (h3 rfl)
theorem ok_lo {l : List Nat} (h : ∀ c ∈ l, c < 128) : PyData.strOk (SX.S l) = true := by
  show (l.toArray.all fun c => decide (c < 0x110000)) = true
  rw [← Array.all_toList]
  exact List.all_eq_true.mpr fun c hc => decide_eq_true (by have := h c hc; omega)
theorem shp2 {a b : Str} (ha : PyData.strOk a = true) (hb : PyData.strOk b = true) : SeqAt.shaped (.tuple [.str a, .str b]) = true := by
  show ((PyData.strOk a && (PyData.strOk b && true)) && decide (PyData.depth (.tuple [.str a, .str b]) ≤ 64)) = true
  rw [ha, hb]
  rfl
theorem shp3 {a : Str} (ha : PyData.strOk a = true) : SeqAt.shaped (.tuple [.str a, .none]) = true := by
  show ((PyData.strOk a && (true && true)) && decide (PyData.depth (.tuple [.str a, .none]) ≤ 64)) = true
  rw [ha]
  rfl
theorem bare_lo : ∀ c ∈ [97, 32, 123, 125, 36, 57], c < 128 := by decide +kernel
theorem if_due {c : Bool} {ta tb : TE} {σ : L2.St} {H : Hp} {Q : VK} (Mid : V → Hp → Prop) (hQ : ∀ v H', Mid v H' → Q v H') (h1 : c = true → ∀ R : VK, (∀ v H', Mid v H' → R v H') → ta σ H R) (h2 : c = false → ∀ R : VK, (∀ v H', Mid v H' → R v H') → tb σ H R) :
    if c = true then ta σ H Q else tb σ H Q := by
  cases c with
  | true => exact h1 rfl Q hQ
  | false => exact h2 rfl Q hQ
theorem told_form {l : List Nat} {ps : List Pc} (h : nms ps = []) (hl : ∀ c ∈ l, c < 128) (b : Bool) : (∃ m, told l (some ps) b = [.str (SX.S sFormat), .str (SX.S m)] ∧ ∀ c ∈ m, c < 128) ∨ told l (some ps) b = [.str (SX.S sMade), .non] := by
  cases b with
  | true => exact .inl ⟨l, if_pos ⟨h, rfl⟩, hl⟩
  | false => exact .inr (if_neg fun z => by cases z.2)
theorem lo_f : ∀ c ∈ sFormat, c < 128 := by decide +kernel
theorem lo_m : ∀ c ∈ sMade, c < 128 := by decide +kernel
theorem ne_same {K : PySem.W.Frag} {H : Hp} {t1 t2 : Addr} {vs : List V} {Q : VK} (h1 : H t1 = some (.tup vs)) (h2 : H t2 = some (.tup vs)) (hv : (∃ l, vs = [.str (SX.S sFormat), .str (SX.S l)] ∧ ∀ c ∈ l, c < 128) ∨ vs = [.str (SX.S sMade), .non]) (hQ : Q (.bl false) H) : rNeD K (.ref t1) (.ref t2) H Q := by
  rcases hv with ⟨l, rfl, hlo⟩ | rfl
  · refine ⟨.tuple [.str (SX.S sFormat), .str (SX.S l)], .tuple [.str (SX.S sFormat), .str (SX.S l)], .tup (SqT.of h1) (.cons (.str _) (.cons (.str _) .nil)), .tup (SqT.of h2) (.cons (.str _) (.cons (.str _) .nil)), shp2 (ok_lo lo_f) (ok_lo hlo), shp2 (ok_lo lo_f) (ok_lo hlo), ?_⟩
    have e : PyData.eqv (.tuple [.str (SX.S sFormat), .str (SX.S l)]) (.tuple [.str (SX.S sFormat), .str (SX.S l)]) = true := by
      show ((SX.S sFormat == SX.S sFormat) && ((SX.S l == SX.S l) && true)) = true
      rw [beq_self_eq_true, beq_self_eq_true]; rfl
    rw [e]
    exact hQ
  · refine ⟨.tuple [.str (SX.S sMade), .none], .tuple [.str (SX.S sMade), .none], .tup (SqT.of h1) (.cons (.str _) (.cons .non .nil)), .tup (SqT.of h2) (.cons (.str _) (.cons .non .nil)), shp3 (ok_lo lo_m), shp3 (ok_lo lo_m), ?_⟩
    have e : PyData.eqv (.tuple [.str (SX.S sMade), .none]) (.tuple [.str (SX.S sMade), .none]) = true := by
      show ((SX.S sMade == SX.S sMade) && _) = true
      rw [beq_self_eq_true]; rfl
    rw [e]
    exact hQ
def spLaw (K : PySem.W.Frag) : Sp := fun vs H Q _ => Hd (∃ (a : Addr) (ns : List Int), vs = [.ref a] ∧ SqL K H a (ns.map V.int) ∧ ns.length ≤ 63 ∧ ∀ H', Q (.bl true) H')
theorem ok_law (T : Txt K mg) : FnOk P w K mg base CX0 9 T.f_law T.fd_law ["_law_script"] (spLaw K) := by
  have G__law_draw : FnOk P w K mg base CX0 1 T.f__law_draw T.fd__law_draw _ spDraw := ok_draw T
  have G__law_pick : FnOk P w K mg base CX0 2 T.f__law_pick T.fd__law_pick _ spPick := ok_pick T
  have G__law_text : FnOk P w K mg base CX0 3 T.f__law_text T.fd__law_text _ spText := ok_text T
  have G__law_same : FnOk P w K mg base CX0 3 T.f__law_same T.fd__law_same _ spS1 := ok_s1 T
  have G__law_formatter_told : FnOk P w K mg base CX0 8 T.f__law_formatter_told T.fd__law_formatter_told _ spTold := ok_told T
  have G__law_made_alone : FnOk P w K mg base CX0 8 T.f__law_made_alone T.fd__law_made_alone _ spAlone := ok_alone T
  have G__law_dollared : FnOk P w K mg base CX0 2 T.f__law_dollared T.fd__law_dollared _ spDol := ok_dol T
  have G__law_plain_parts : FnOk P w K mg base CX0 4 T.f__law_plain_parts T.fd__law_plain_parts _ spPlain := ok_plain T
  have G__law_odd_dollar : FnOk P w K mg base CX0 3 T.f__law_odd_dollar T.fd__law_odd_dollar _ spOdd := ok_odd T
  have G_init : FnOk P w K mg base (L2.CX P w) 6 T.i_Formatter T.fdi_Formatter _ (spFm T.C_Field T.C_Formatter T.c_BadFormat) := ok_init T
  have G_fields : FnOk P w K mg base CX0 1 _ _ _ (spFields T.C_Field T.C_Formatter) := ok_fields T
  obtain ⟨ds3, hd3, hb3⟩ := bi_Fm3 T
  refine T.D_law.F.ok sc_law (fun vs H Q E h => ?_) (fun cdv A outer s H vs Q E hr h => ?_)
  · obtain ⟨a, ns, rfl, _⟩ := h.out
    rfl
  · obtain ⟨a, ns, rfl, hS, hl, k⟩ := h.out
    have hu64 := hr.units
    refine ⟨_, (pss_cons (ps_set (i := 1) sc_law.nd rfl (by first | exact Or.inl rfl | exact Or.inr rfl) (pe_lst (pa_cons (pe_callTy call_list_of (by rfl) T.B.n_list (by decide +kernel) (pa_cons (pv 0) pa_nil)) (pa_cons pe_int (pa_cons pe_int (pa_cons pe_int pa_nil))))))
  (pss_cons (ps_for PassesOwn.never rfl (pi_range1 rfl T.B.n_range (pa_cons pe_int pa_nil)) (pg_name (i := 2) sc_law.nd rfl (by first | exact Or.inl rfl | exact Or.inr rfl))
    (pss_cons (ps_set (i := 3) sc_law.nd rfl (by first | exact Or.inl rfl | exact Or.inr rfl) (pe_op op_catG (pe_call G__law_plain_parts (hr.mono (by first | decide | omega)) rfl T.D__law_plain_parts.g T.D__law_plain_parts.F.kp T.D__law_plain_parts.b .nil pass0 (pa_cons (pv 1) (pa_cons pe_int (pa_cons (pe_lstG (pa_cons (SL.pe_strL [97] (by decide +kernel)) (pa_cons (SL.pe_strL [109, 101, 115, 115, 97, 103, 101] (by decide +kernel)) (pa_cons (SL.pe_strL [95, 57] (by decide +kernel)) pa_nil)))) pa_nil)))) (pe_lstG (pa_cons (pe_tup (pa_cons (SL.pe_strL [97] (by decide +kernel)) (pa_cons (SL.pe_strL [] (by decide +kernel)) (pa_cons (SL.pe_strL [32] (by decide +kernel)) (pa_cons (SL.pe_strL [] (by decide +kernel)) (pa_cons pe_int pa_nil)))))) pa_nil))))
  (pss_cons (ps_par (i := 4) (j := 5) rfl sc_law.nd rfl rfl (by decide) rfl rfl (pa_cons (pe_call G__law_draw (hr.mono (by first | decide | omega)) rfl T.D__law_draw.g T.D__law_draw.F.kp T.D__law_draw.b .nil pass0 (pa_cons (pv 1) (pa_cons (pe_op op_add (pe_callB call_len_seq (by rfl) T.B.n_len (by decide +kernel) (pa_cons (pv 3) pa_nil)) pe_int) pa_nil))) (pa_cons (pe_cmpR op_eq (pe_call G__law_draw (hr.mono (by first | decide | omega)) rfl T.D__law_draw.g T.D__law_draw.F.kp T.D__law_draw.b .nil pass0 (pa_cons (pv 1) (pa_cons pe_int pa_nil))) pe_int (nomark _)) pa_nil)) rfl)
  (pss_cons (ps_par (i := 6) (j := 7) rfl sc_law.nd rfl rfl (by decide) rfl rfl (pa_cons (pe_call G__law_dollared (hr.mono (by first | decide | omega)) rfl T.D__law_dollared.g T.D__law_dollared.F.kp T.D__law_dollared.b .nil pass0 (pa_cons (pv 1) (pa_cons (pe_slice sl_list (pv 3) po_none (po_some (pv 4))) pa_nil))) (pa_cons (pe_call G__law_dollared (hr.mono (by first | decide | omega)) rfl T.D__law_dollared.g T.D__law_dollared.F.kp T.D__law_dollared.b .nil pass0 (pa_cons (pv 1) (pa_cons (pe_slice sl_list (pv 3) (po_some (pv 4)) po_none) pa_nil))) pa_nil)) rfl)
  (pss_cons (ps_set (i := 8) sc_law.nd rfl (by first | exact Or.inl rfl | exact Or.inr rfl) (pe_op SL.op_addL (pe_op SL.op_addL (pv 6) (pe_call G__law_odd_dollar (hr.mono (by first | decide | omega)) rfl T.D__law_odd_dollar.g T.D__law_odd_dollar.F.kp T.D__law_odd_dollar.b .nil pass0 (pa_cons (pv 1) pa_nil))) (pv 7)))
  (pss_cons (ps_if (pt_cmpR op_eq (pe_call G__law_draw (hr.mono (by first | decide | omega)) rfl T.D__law_draw.g T.D__law_draw.F.kp T.D__law_draw.b .nil pass0 (pa_cons (pv 1) (pa_cons pe_int pa_nil))) pe_int (nomark _))
    (pss_one (ps_set (i := 8) sc_law.nd rfl (by first | exact Or.inl rfl | exact Or.inr rfl) (pe_op SL.op_addL (pe_op SL.op_addL (pv 6) (pv 7)) (pe_call G__law_pick (hr.mono (by first | decide | omega)) rfl T.D__law_pick.g T.D__law_pick.F.kp T.D__law_pick.b .nil pass0 (pa_cons (pv 1) (pa_cons (pe_lstG (pa_cons (SL.pe_strL [36] (by decide +kernel)) (pa_cons (SL.pe_strL [36, 123] (by decide +kernel)) (pa_cons (SL.pe_strL [36, 123, 97] (by decide +kernel)) (pa_cons (SL.pe_strL [36, 36, 36] (by decide +kernel)) (pa_cons (SL.pe_strL [36, 123, 95, 57] (by decide +kernel)) (pa_cons (SL.pe_strL [36, 36, 36, 123] (by decide +kernel)) (pa_cons (SL.pe_strL [36, 123, 125] (by decide +kernel)) pa_nil)))))))) pa_nil))))))
    pss_nil)
  (pss_cons (ps_if (pt_cmpR (op_neD hu64) (pe_call G__law_formatter_told (hr.mono (by first | decide | omega)) rfl T.D__law_formatter_told.g T.D__law_formatter_told.F.kp T.D__law_formatter_told.b .nil pass0 (pa_cons (pv 8) (pa_cons (SL.pe_strL [36] (by decide +kernel)) (pa_cons (pv 5) pa_nil)))) (pe_tup (pa_cons (SL.pe_strL [102, 111, 114, 109, 97, 116] (by decide +kernel)) (pa_cons (pv 8) pa_nil))) (nomark _))
    (pss_one (ps_ret pe_bl))
    pss_nil)
  (pss_cons (ps_set (i := 9) sc_law.nd rfl (by first | exact Or.inl rfl | exact Or.inr rfl) (pe_call G__law_dollared (hr.mono (by first | decide | omega)) rfl T.D__law_dollared.g T.D__law_dollared.F.kp T.D__law_dollared.b .nil pass0 (pa_cons (pv 1) (pa_cons (pe_lstG (pa_cons (pe_call G__law_text (hr.mono (by first | decide | omega)) rfl T.D__law_text.g T.D__law_text.F.kp T.D__law_text.b .nil pass0 (pa_cons (pv 1) (pa_cons (SL.pe_strL [97, 32, 123, 125, 36, 57] (by decide +kernel)) (pa_cons pe_int pa_nil)))) pa_nil)) pa_nil))))
  (pss_cons (ps_set (i := 10) sc_law.nd rfl (by first | exact Or.inl rfl | exact Or.inr rfl) (pe_ifExp (pt_val (pv 5)) (pe_tup (pa_cons (SL.pe_strL [102, 111, 114, 109, 97, 116] (by decide +kernel)) (pa_cons (pv 9) pa_nil))) (pe_tup (pa_cons (SL.pe_strL [109, 97, 100, 101] (by decide +kernel)) (pa_cons pe_non pa_nil)))))
  (pss_cons (ps_if (PW.pt (pw_or (pt_cmpR (op_neD hu64) (pe_call G__law_formatter_told (hr.mono (by first | decide | omega)) rfl T.D__law_formatter_told.g T.D__law_formatter_told.F.kp T.D__law_formatter_told.b .nil pass0 (pa_cons (pv 9) (pa_cons (SL.pe_strL [36] (by decide +kernel)) (pa_cons (pv 5) pa_nil)))) (pv 10) (nomark _)) (pw_or1 (pt_cmpR (op_neD hu64) (pe_call G__law_made_alone (hr.mono (by first | decide | omega)) rfl T.D__law_made_alone.g T.D__law_made_alone.F.kp T.D__law_made_alone.b .nil pass0 (pa_cons (pv 9) (pa_cons (SL.pe_strL [36] (by decide +kernel)) pa_nil))) (pe_tup (pa_cons (SL.pe_strL [102, 111, 114, 109, 97, 116] (by decide +kernel)) (pa_cons (pv 9) pa_nil))) (nomark _)))))
    (pss_one (ps_ret pe_bl))
    pss_nil)
  (pss_cons (ps_set (i := 11) sc_law.nd rfl (by first | exact Or.inl rfl | exact Or.inr rfl) (pe_meth0 (pe_make T.M_Formatter G_init (hr.mono (by first | decide | omega)) rfl T.g_Formatter hb3 hd3 passL (pa_cons (pe_call G__law_dollared (hr.mono (by first | decide | omega)) rfl T.D__law_dollared.g T.D__law_dollared.F.kp T.D__law_dollared.b .nil pass0 (pa_cons (pv 1) (pa_cons (pv 3) pa_nil))) (pa_cons (SL.pe_strL [36] (by decide +kernel)) (pa_cons (pv 5) pa_nil)))) T.cl_Formatter T.Me_fields G_fields (hr.mono (by first | decide | omega)) T.b_fields .nil pass0))
  (pss_one (ps_if (pt_not (pt_val (pe_call G__law_same (hr.mono (by first | decide | omega)) rfl T.D__law_same.g T.D__law_same.F.kp T.D__law_same.b .nil pass0 (pa_cons (pv 11) (pa_cons (pe_callTy call_tuple_of (by rfl) T.B.n_tuple (by decide +kernel) (pa_cons (pe_lc (own := [("_law_part", 12)]) (g := gName 12) rfl sc_law.nd (pi_list (pv 3)) (blkOk_by (N := ["_law_script", "_law_stream", "_law_turn", "_law_parts", "_law_at", "_law_firm", "_law_ahead", "_law_behind", "_law_broken", "_law_bare", "_law_due", "_law_found", "_law_part"]) (sc := defScope s_law) (by decide +kernel)) (fun _ _ _ _ _ => (pg_name (i := 12) sc_law.nd rfl (by first | exact Or.inl rfl | exact Or.inr rfl))) (fun _ _ _ _ _ => (pts_one (pt_val (pe_callB (isiK (K := K) rfl) (by rfl) T.B.n_isinstance (by decide +kernel) (pa_cons (pv 12) (pa_cons (pe_bltn (v := .ty "tuple") (u := .type "tuple") (by rfl) T.B.n_tuple (by decide +kernel) rfl) pa_nil)))))) (fun _ _ _ _ _ => (pe_ix (ixtK (K := K) rfl) (pv 12) pe_int (fun _ _ => rfl)))) pa_nil)) pa_nil)))))
    (pss_one (ps_ret pe_bl))
    pss_nil)))))))))))))
  (pss_one (ps_ret pe_bl)))), ?_⟩
    walk_at "st"
    refine ⟨a, ns.map V.int, rfl, .inl hS, fun q hq => ?_⟩
    walk_at "st"
    intro p hp
    have qp : q ≠ p := fun e => by rw [← e, upd_same] at hp; cases hp
    have S0 : Stm (upd (upd H q (.lst (ns.map V.int))) p (.lst [.ref q, .int 0, .int 0, .int 0])) p q 0 :=
      ⟨⟨ns, 0, 0, ⟨upd_same, by rw [upd_ne qp]; exact upd_same, by decide, by decide, by decide⟩⟩, by decide, by decide⟩
    generalize upd (upd H q (.lst (ns.map V.int))) p (.lst [.ref q, .int 0, .int 0, .int 0]) = H0 at S0 ⊢
    walk_at "st"
    refine for_rng (lo := 0) (n := 10) (fun i σ H1 => ∃ (v1 v2 v3 v4 v5 v6 v7 v8 v9 v10 v11 v12 : Option V) (n : Int), σ = [some (.ref a), some (.ref p), v1, v2, v3, v4, v5, v6, v7, v8, v9, v10, v11] ∧ Stm H1 p q n ∧ n ≤ 100 * (i : Int)) ⟨_, _, _, _, _, _, _, _, _, _, _, none, 0, rfl, S0, by decide⟩ ?_ ?_
    · rintro σ H1 ⟨v1, v2, v3, v4, v5, v6, v7, v8, v9, v10, v11, v12, n, rfl, S, hn⟩
      walk_at "st"
      exact k _
    · rintro R i σ H1 hi ⟨v1, v2, v3, v4, v5, v6, v7, v8, v9, v10, v11, v12, n, rfl, S, hn⟩ N hN
      walk_at "st"
      obtain ⟨hpn, hqn⟩ := S.there
      intro kl H2 hkl ekl s2
      have S2 : Stm H2 p q n := S.same s2
      have klp : kl ≠ p := fun z => hpn (z ▸ hkl)
      have klq : kl ≠ q := fun z => hqn (z ▸ hkl)
      walk_at "st"
      refine .a ⟨p, q, kl, n, [[97], [109, 101, 115, 115, 97, 103, 101], [95, 57]], rfl, S2, by omega, off_of ekl klp klq, keys_ok, by decide, by decide, fun b xs ps n3 H3 hb hb3 hps hg hl3 hn3 S3 X3 => ?_⟩
      walk_at "st"
      intro T0 hT0
      obtain ⟨hpn3, hqn3⟩ := S3.there
      have Tp : T0 ≠ p := fun z => hpn3 (z ▸ hT0)
      have Tq : T0 ≠ q := fun z => hqn3 (z ▸ hT0)
      have X4 : Xt H3 (upd H3 T0 (.tup (fldT [97]))) p q := Xt.new hT0
      have S4 : Stm (upd H3 T0 (.tup (fldT [97]))) p q n3 := S3.put Tp Tq
      have hT4 : off (upd H3 T0 (.tup (fldT [97]))) p q T0 = some (.tup (fldT [97])) := off_of upd_same Tp Tq
      have hb4 := X4.fr _ _ hb3
      have hp4 := hps.mono X4.fr
      have X34 := X3.trans X4
      walk_at "st"
      intro l2 H5 hl2 el2 s5
      have X5 : Xt (upd H3 T0 (.tup (fldT [97]))) H5 p q := Xt.same s5
      have S5 : Stm H5 p q n3 := S4.same s5
      walk_at "st"
      have hlx : xs.length = ps.length := hps.len
      refine ⟨b, l2, _, _, rfl, rfl, s5 _ _ (off_same _ _ hb4), el2, ?_, fun pp H6 hpp epp s6 => ?_⟩
      · rw [List.length_singleton]; exact SL.sz (by omega)
      have S6 : Stm H6 p q n3 := S5.same s6
      have X6 := X5.trans (Xt.same (p := p) (q := q) s6)
      obtain ⟨hpn5, hqn5⟩ := S5.there
      have ppp : pp ≠ p := fun z => hpn5 (z ▸ hpp)
      have ppq : pp ≠ q := fun z => hqn5 (z ▸ hpp)
      have epp6 : off H6 p q pp = some (.lst (xs ++ [.ref T0])) := off_of epp ppp ppq
      have hpt6 : PtsV (off H6 p q) (xs ++ [.ref T0]) (ps ++ [.fld [97]]) := (hp4.mono X6.fr).app (.cons (show PtV _ _ (.fld [97]) from ⟨T0, rfl, X6.fr _ _ hT4⟩) .nil)
      have hgd : ∀ c ∈ ps ++ [.fld [97]], GdP c := fun c hc => by
        rcases List.mem_append.mp hc with hc | hc
        · exact hg c hc
        · rw [List.mem_singleton.mp hc]; exact keys_ok _ List.mem_cons_self
      have hnz : nms (ps ++ [.fld [97]]) ≠ [] := by rw [nms_app]; exact fun z => by simp [nms] at z
      have hlz : (ps ++ [Pc.fld [97]]).length ≤ 4 := by rw [List.length_append, List.length_singleton]; omega
      have X26 := X34.trans X6
      generalize ps ++ [Pc.fld [97]] = pz at hpt6 hgd hnz hlz
      generalize xs ++ [V.ref T0] = zs at epp6 hpt6 epp
      have hlzz : zs.length = pz.length := hpt6.len
      clear X34 X6 X4 S4 hT4 hb4 hp4
      walk_at "st"
      refine ⟨pp, _, rfl, .inl (SqL.of epp), ?_⟩
      walk_at "st"
      refine .a ⟨p, q, n3, (zs.length : Int) + 1, rfl, S6, by omega, by omega, by omega, fun d n7 H7 d0 d1 hn7 S7 fr7 => ?_⟩
      have X7 : Xt H6 H7 p q := .of (n := n3) S7 fr7
      obtain ⟨j, rfl⟩ : ∃ j : Nat, d = (j : Int) := ⟨d.toNat, by omega⟩
      walk_at "st"
      refine .a ⟨p, q, n7, 2, rfl, S7, by omega, by omega, by omega, fun d2 n8 H8 e0 e1 hn8 S8 fr8 => ?_⟩
      have X8 : Xt H6 H8 p q := X7.trans (.of (n := n7) S8 fr8)
      have epp8 := X8.fr _ _ epp6
      have hpt8 := hpt6.mono X8.fr
      walk_at "st"
      refine ⟨_, _, rfl, ?_⟩
      generalize decide (V.int d2 = V.int 0) = fb
      walk_at "st"
      obtain ⟨hpn8, hqn8⟩ := S8.there
      refine ⟨pp, zs, rfl, SqL.of (off_same _ _ epp8), fun sa hsa => ?_⟩
      rw [cutV_to]
      have sap : sa ≠ p := fun z => hpn8 (z ▸ hsa)
      have saq : sa ≠ q := fun z => hqn8 (z ▸ hsa)
      have X9 : Xt H8 (upd H8 sa (.lst (zs.take j))) p q := Xt.new hsa
      have S9 : Stm (upd H8 sa (.lst (zs.take j))) p q n8 := S8.put sap saq
      have hs9 : off (upd H8 sa (.lst (zs.take j))) p q sa = some (.lst (zs.take j)) := off_of upd_same sap saq
      have epp9 := X9.fr _ _ epp8
      have hpt9 := hpt8.mono X9.fr
      have X69 := X8.trans X9
      generalize upd H8 sa (.lst (zs.take j)) = H9 at X9 S9 hs9 epp9 hpt9 X69 ⊢
      have lt1 : (pz.take j).length = min j pz.length := List.length_take ..
      walk_at "st"
      refine .a ⟨p, q, sa, n8, zs.take j, pz.take j, rfl, S9, by omega, hs9, hpt9.take j, fun c hc => hgd c (List.mem_of_mem_take hc), by omega, fun da n10 H10 wfa hla hn10 S10 X10 => ?_⟩
      have epp10 := X10.fr _ _ epp9
      have hpt10 := hpt9.mono X10.fr
      have X610 := X69.trans X10
      walk_at "st"
      obtain ⟨hpn10, hqn10⟩ := S10.there
      refine ⟨pp, zs, rfl, SqL.of (off_same _ _ epp10), fun sb hsb => ?_⟩
      rw [cutV_from]
      have sbp : sb ≠ p := fun z => hpn10 (z ▸ hsb)
      have sbq : sb ≠ q := fun z => hqn10 (z ▸ hsb)
      have X11 : Xt H10 (upd H10 sb (.lst (zs.drop j))) p q := Xt.new hsb
      have S11 : Stm (upd H10 sb (.lst (zs.drop j))) p q n10 := S10.put sbp sbq
      have hs11 : off (upd H10 sb (.lst (zs.drop j))) p q sb = some (.lst (zs.drop j)) := off_of upd_same sbp sbq
      have epp11 := X11.fr _ _ epp10
      have hpt11 := hpt10.mono X11.fr
      have X611 := X610.trans X11
      generalize upd H10 sb (.lst (zs.drop j)) = H11 at X11 S11 hs11 epp11 hpt11 X611 ⊢
      have lt2 : (pz.drop j).length = pz.length - j := List.length_drop ..
      walk_at "st"
      refine .a ⟨p, q, sb, n10, zs.drop j, pz.drop j, rfl, S11, by omega, hs11, hpt11.drop j, fun c hc => hgd c (List.mem_of_mem_drop hc), by omega, fun db n12 H12 wfb hlb hn12 S12 X12 => ?_⟩
      have epp12 := X12.fr _ _ epp11
      have hpt12 := hpt11.mono X12.fr
      have X612 := X611.trans X12
      walk_at "st"
      refine ⟨_, _, rfl, ?_⟩
      walk_at "st"
      refine .a ⟨p, q, n12, rfl, S12, by omega, fun od n13 H13 hod hn13 S13 X13 => ?_⟩
      have epp13 := X13.fr _ _ epp12
      have hpt13 := hpt12.mono X13.fr
      have hodl : od.length ≤ 10 := odd_len od hod
      walk_at "st"
      refine .a ⟨p, q, n13, 3, rfl, S13, by omega, by omega, by omega, fun d3 n14 H14 f0 f1 hn14 S14 fr14 => ?_⟩
      have X14 : Xt H13 H14 p q := .of (n := n13) S14 fr14
      have epp14 := X14.fr _ _ epp13
      have hpt14 := hpt13.mono X14.fr
      walk_at "st"
      refine if_rest (fun σ Hk => ∃ (br : List Nat) (nk : Int), σ = [some (.ref a), some (.ref p), some (.int (0 + (i : Int))), some (.ref pp), some (.int (j : Int)), some (.bl fb), some (.str (SX.S da)), some (.str (SX.S db)), some (.str (SX.S br)), v8, v9, v10, v11] ∧
        My.Dp br none ∧ (∀ c ∈ br, c < 128) ∧ br.length ≤ 1000 ∧ nk ≤ n + 40 ∧ Stm Hk p q nk ∧ off Hk p q pp = some (.lst zs) ∧ PtsV (off Hk p q) zs pz) ?_ ?_ ?_
      · rintro σ Hk ⟨br, nk, rfl, hbr, hblo, hbl, hnk, Sk, eppk, hptk⟩
        walk_at "st"
        refine .a ⟨br, none, fb, rfl, by omega, hbr, fun t1 H17 ht1 e17 s17 => ?_⟩
        walk_at "st"
        intro t2 ht2
        have s18 : Same H17 (upd H17 t2 (.tup [.str (SX.S [102, 111, 114, 109, 97, 116]), .str (SX.S br)])) := same_new ht2
        have e18 : (upd H17 t2 (.tup [.str (SX.S [102, 111, 114, 109, 97, 116]), .str (SX.S br)])) t2 = some (.tup [.str (SX.S [102, 111, 114, 109, 97, 116]), .str (SX.S br)]) := upd_same
        have X18 : Xt Hk (upd H17 t2 (.tup [.str (SX.S [102, 111, 114, 109, 97, 116]), .str (SX.S br)])) p q := Xt.same (s17.trans s18)
        refine ne_same (s18 _ _ e17) e18 (.inl ⟨br, rfl, hblo⟩) ?_
        have S18 := Sk.same (s17.trans s18)
        generalize upd H17 t2 (.tup [.str (SX.S [102, 111, 114, 109, 97, 116]), .str (SX.S br)]) = H18 at X18 S18 ⊢
        have epp18 := X18.fr _ _ eppk
        have hpt18 := hptk.mono X18.fr
        walk_at "st"
        refine .a ⟨p, q, nk, [97, 32, 123, 125, 36, 57], 5, rfl, S18, by omega, by decide, by decide, by omega, fun tx n19 H19 htx hlx2 hn19 S19 X19 => ?_⟩
        have epp19 := X19.fr _ _ epp18
        have hpt19 := hpt18.mono X19.fr
        walk_at "st"
        intro lb H20 hlb elb s20
        have S20 : Stm H20 p q n19 := S19.same s20
        obtain ⟨hpn19, hqn19⟩ := S19.there
        have X20 : Xt H19 H20 p q := Xt.same s20
        walk_at "st"
        refine .a ⟨p, q, lb, n19, [.str (SX.S tx)], [.txt tx], rfl, S20, by show n19 + ((1 : Nat) : Int) ≤ 90000; omega, off_of elb (fun z => hpn19 (z ▸ hlb)) (fun z => hqn19 (z ▸ hlb)), .cons (show PtV _ _ (.txt tx) from rfl) .nil,
          fun c hc => by rw [List.mem_singleton.mp hc]; exact ⟨by omega, fun c hc => bare_lo c (htx c hc)⟩, Nat.le_of_ble_eq_true rfl, fun ba n21 H21 wba hba hn21 S21 X21 => ?_⟩
        have hn21' : n21 ≤ n19 + 1 := hn21
        have hba' : ba.length ≤ 20 := hba
        have epp21 := X21.fr _ _ (X20.fr _ _ epp19)
        have hpt21 := (hpt19.mono X20.fr).mono X21.fr
        obtain ⟨pb, hDb0, hnb⟩ := wba.wf.app stop_nil My.Dp.nil
        have hDb : My.Dp ba (some (pb ++ [])) := by rw [List.append_nil] at hDb0; exact hDb0
        have hnb2 : nms (pb ++ []) = [] := by rw [List.append_nil]; exact hnb
        generalize pb ++ [] = pb2 at hDb hnb2
        walk_at "st"
        refine if_due (fun v H' => ∃ td, v = .ref td ∧ H' td = some (.tup (told ba (some pb2) fb)) ∧ Same H21 H') ?_ ?_ ?_
        · rintro v H22 ⟨td, rfl, etd, s22⟩
          walk_at "st"
          refine .a ⟨ba, some pb2, fb, rfl, by omega, hDb, fun t3 H23 ht3 e23 s23 => ?_⟩
          walk_at "st"
          refine ne_same e23 (s23 _ _ etd) (told_form hnb2 wba.lo fb) ?_
          walk_at "st"
          refine .a ⟨ba, some pb2, rfl, by omega, hDb, fun t4 H24 ht4 e24 s24 => ?_⟩
          walk_at "st"
          intro t5 ht5
          have s25 : Same H24 (upd H24 t5 (.tup [.str (SX.S [102, 111, 114, 109, 97, 116]), .str (SX.S ba)])) := same_new ht5
          have e25 : (upd H24 t5 (.tup [.str (SX.S [102, 111, 114, 109, 97, 116]), .str (SX.S ba)])) t5 = some (.tup [.str (SX.S [102, 111, 114, 109, 97, 116]), .str (SX.S ba)]) := upd_same
          have e24' : H24 t4 = some (.tup [.str (SX.S [102, 111, 114, 109, 97, 116]), .str (SX.S ba)]) := by rw [e24]; show some (HO.tup (if _ then _ else _)) = _; rw [if_pos ⟨hnb2, rfl⟩]; rfl
          refine ne_same (s25 _ _ e24') e25 (.inl ⟨ba, rfl, wba.lo⟩) ?_
          have s21 := ((s22.trans s23).trans s24).trans s25
          have S25 := S21.same s21
          have X25 : Xt H21 (upd H24 t5 (.tup [.str (SX.S [102, 111, 114, 109, 97, 116]), .str (SX.S ba)])) p q := Xt.same s21
          generalize upd H24 t5 (.tup [.str (SX.S [102, 111, 114, 109, 97, 116]), .str (SX.S ba)]) = H25 at S25 X25 ⊢
          have epp25 := X25.fr _ _ epp21
          have hpt25 := hpt21.mono X25.fr
          walk_at "st"
          refine .a ⟨p, q, pp, n21, zs, pz, rfl, S25, by omega, epp25, hpt25, hgd, by omega, fun dp n26 H26 wdp hdp hn26 S26 X26 => ?_⟩
          have epp26 := X26.fr _ _ epp25
          have hpt26 := hpt25.mono X26.fr
          obtain ⟨pq, hDq0, hnq⟩ := wdp.wf.app stop_nil My.Dp.nil
          have hDq : My.Dp dp (some (pq ++ [])) := by rw [List.append_nil] at hDq0; exact hDq0
          have hnq2 : nms (pq ++ []) = nms pz := by rw [List.append_nil]; exact hnq
          generalize pq ++ [] = pq2 at hDq hnq2
          walk_at "st"
          intro x dx hx hdx hxd
          refine .a ⟨x, dx, dp, fb, some pq2, rfl, upd_same, by omega, hDq, fun hno => ?_, fun ps2 e2 hyes H27 hfm sx => ⟨rfl, ?_⟩⟩
          · exfalso
            rcases hno with h | ⟨ps2, h, h2, _⟩
            · cases h
            · cases h
              rw [hnq2] at h2; exact hnz h2
          · cases e2
            have s27 : Same H26 H27 := fun c u hu => by
              have cx : c ≠ x := fun z => by rw [z, hx] at hu; cases hu
              have cd : c ≠ dx := fun z => by rw [z, hdx] at hu; cases hu
              exact sx c u cx (by rw [upd_ne cx, upd_ne cd]; exact hu)
            obtain ⟨dx2, pa, dd, us, qs, g1, g2, g3, g4, g5⟩ := hfm
            rw [hnq2] at g4
            walk_at "st"
            refine ⟨x, dx2, _, rfl, g1, rfl, ?_⟩
            walk_at "st"
            refine .a ⟨x, dx2, pa, _, us, qs, rfl, g1, rfl, g2, g3, by omega, fun tf H28 htf etf s28 => ?_⟩
            rw [g4] at etf
            have X28 : Xt H26 H28 p q := Xt.same (s27.trans s28)
            have S28 : Stm H28 p q n26 := S26.same (s27.trans s28)
            have epp28 := off_same _ _ (X28.fr _ _ epp26)
            have hpt28 : PtsV H28 zs pz := (hpt26.mono X28.fr).mono off_same
            walk_at "st"
            refine ⟨⟨_, SqL.of epp28⟩, ?_⟩
            intro D hD
            refine comp_list (xs := zs) (fun i H1 => H1 D = some (.lst (txV (nms (pz.take i)))) ∧ Same H28 H1) (fun i H ⟨_, h⟩ => h _ _ epp28) ⟨upd_same, same_new hD⟩ ?_ ?_
            · rintro H29 ⟨h1, h2⟩
              walk_at "st"
              rw [hlzz, List.take_length] at h1
              refine ⟨D, _, rfl, .inl ⟨SqL.of h1, fun tl htl => ?_⟩⟩
              have hnl := nms_len pz
              refine .a ⟨tf, tl, nms pz, rfl, same_new htl _ _ (h2 _ _ etf), upd_same, by omega, fun H30 s30 => ?_⟩
              walk_at "st"
              rw [hN]
              exact .a ⟨_, _, _, _, _, _, _, _, _, _, _, none, n26, rfl, S28.same ((h2.trans (same_new htl)).trans s30), by omega⟩
            · rintro i2 H29 v ⟨h1, h2⟩ hv N2 hN2
              obtain ⟨pc, hpc, hv0⟩ := hpt28.get hv
              have hv1 : PtV H29 v pc := hv0.mono h2
              have htk : pz.take (i2 + 1) = pz.take i2 ++ [pc] := take_snoc hpc
              have hil : i2 < zs.length := (List.getElem?_eq_some_iff.mp hv).1
              walk_at "st"
              cases pc with
              | txt l =>
                obtain rfl : v = .str (SX.S l) := hv1
                refine ⟨_, _, _, _, false, rfl, .ty "tuple", .base (.str _), kit_ty (by decide +kernel), ?_⟩
                walk_at "st"
                rw [hN2]
                refine .a ⟨?_, h2⟩
                rw [htk, nms_app]
                show H29 D = some (.lst (txV (nms (pz.take i2) ++ [])))
                rw [List.append_nil]
                exact h1
              | fld nm =>
                obtain ⟨xa, rfl, hxa⟩ := hv1
                refine ⟨_, _, _, _, true, rfl, .ty "tuple", .base (.tup hxa), kit_ty (by decide +kernel), ?_⟩
                walk_at "st"
                refine ⟨xa, _, 0, _, rfl, rfl, SqT.of hxa, atI_nat (j := 0) rfl, ?_⟩
                refine ⟨_, h1, szl ?_, ?_⟩
                · have e : (txV (nms (pz.take i2))).length = (nms (pz.take i2)).length := List.length_map ..
                  have : (nms (pz.take i2)).length ≤ (pz.take i2).length := nms_len _
                  rw [e]
                  rw [List.length_take] at this; omega
                · rw [hN2]
                  refine .a ⟨?_, same_put h2 hD⟩
                  rw [htk, nms_app]
                  show _ = some (HO.lst (txV (nms (pz.take i2) ++ [nm])))
                  unfold txV
                  rw [List.map_append]
                  exact upd_same
        · intro hc R hR
          walk_at "st"
          intro td htd
          have e : told ba (some pb2) fb = [.str (SX.S sFormat), .str (SX.S ba)] := by rw [hc]; exact if_pos ⟨hnb2, rfl⟩
          exact hR _ _ ⟨td, rfl, by rw [e]; exact upd_same, same_new htd⟩
        · intro hc R hR
          walk_at "st"
          intro td htd
          have e : told ba (some pb2) fb = [.str (SX.S sMade), .non] := by rw [hc]; exact if_neg fun z => by cases z.2
          exact hR _ _ ⟨td, rfl, by rw [e]; exact upd_same, same_new htd⟩
      · intro R hR hc
        walk_at "st"
        intro el H15 hel eel s15
        have S15 : Stm H15 p q n14 := S14.same s15
        obtain ⟨hpn14, hqn14⟩ := S14.there
        walk_at "st"
        refine .a ⟨p, q, el, n14, _, rfl, S15, by omega, off_of eel (fun z => hpn14 (z ▸ hel)) (fun z => hqn14 (z ▸ hel)), Nat.le_of_ble_eq_true rfl, Nat.le_of_ble_eq_true rfl, fun v n16 H16 hv hn16 S16 fr16 => ?_⟩
        have X16 : Xt H14 H16 p q := (Xt.same s15).trans (.of (n := n14) S16 fr16)
        have hv2 : v ∈ ENDS.map (fun t => V.str (SX.S t)) := hv
        obtain ⟨et, het, rfl⟩ := List.mem_map.mp hv2
        have hetl := end_len et het
        obtain ⟨st2, dp2⟩ := end_Dp et het
        walk_at "st"
        refine hR _ _ ⟨da ++ db ++ et, n16, rfl, by rw [List.append_assoc]; exact wfa.wf.glue wfb.wf st2 dp2, lo_app (lo_app wfa.lo wfb.lo) (end_lo et het), ?_, by omega, S16, X16.fr _ _ epp14, hpt14.mono X16.fr⟩
        simp only [List.length_append]; omega
      · intro hc
        obtain ⟨st1, dp1⟩ := odd_Dp od hod db
        obtain ⟨_, q1, _⟩ := wfa.wf.app st1 dp1
        refine ⟨da ++ od ++ db, n14, rfl, by rw [List.append_assoc]; exact q1, lo_app (lo_app wfa.lo (odd_lo od hod)) wfb.lo, ?_, by omega, S14, epp14, hpt14⟩
        simp only [List.length_append]; omega
end
end My

namespace My
open PySem PySem.Spec PyProof.Rows L2

theorem oneF_fmt : OneF "fmt" := ⟨by intros; rfl, by intros; rfl, by decide +kernel, by decide +kernel, by intros; rfl, by intros; rfl, by intros; rfl, by intros; rfl⟩
theorem oneF_name : OneF "name" := ⟨by intros; rfl, by intros; rfl, by decide +kernel, by decide +kernel, by intros; rfl, by intros; rfl, by intros; rfl, by intros; rfl⟩
theorem oneF_style : OneF "style" := ⟨by intros; rfl, by intros; rfl, by decide +kernel, by decide +kernel, by intros; rfl, by intros; rfl, by intros; rfl, by intros; rfl⟩
theorem kit_subV {K : PySem.W.Frag} {a : Value} {c : Addr} {b : Bool} (h1 : PySem.W.subIn K a (.ref c) = some b) (h2 : PySem.W.subIn K (.ref c) (.ref c) = some true) (h3 : PySem.W.isClsIn K c = true) (h4 : PySem.W.typeIn K (.ref c) = some (.type "type")) :
    PySem.W.kitOne K a (.ref c) = some b := by
  unfold PySem.W.kitOne
  by_cases q : (a == Value.ref c) = true
  · rw [if_pos q]
    rw [beq_iff_eq.mp q] at h1
    exact h2.symm.trans h1
  · rw [if_neg q]
    have e2 : ((PySem.W.clsIn K c).isSome && PySem.W.typeIn K (.ref c) == some (.type "type")) = true := by
      have h3' : (PySem.W.clsIn K c).isSome = true := h3
      rw [h3', h4] <;> rfl
    show (if _ then _ else _) = _
    rw [if_pos e2]
    exact h1
theorem kit_typ {K : PySem.W.Frag} {a : Addr} {T : String} {b : Bool} (h1 : PySem.W.subIn K (.ref a) (.type T) = some b) (h2 : PySem.W.kitMeta T = true) : PySem.W.kitOne K (.ref a) (.type T) = some b := by
  unfold PySem.W.kitOne
  have nq : ¬ ((Value.ref a == Value.type T) = true) := fun q => by
    have z := beq_iff_eq.mp q
    cases z
  rw [if_neg nq]
  show (if _ then _ else _) = _
  rw [if_pos h2]
  exact h1
set_option maxRecDepth 100000 in
theorem all_mk {P : Program} {w : World} {K : PySem.W.Frag} {h : Heap} {mg : Str → Option Value} {fa : Addr} (X : K.In h) (G : h.Ns mainGlobals mg) (hfa : mg "law" = some (.ref fa))
    {f0 : Addr} {oc0 kV0 dc0 pm0 cd0 ct0 : Value} {od0 an0 : Option Addr} {sl0 : Array (Option Value)}
    {f1 : Addr} {oc1 kV1 dc1 pm1 cd1 ct1 : Value} {od1 an1 : Option Addr} {sl1 : Array (Option Value)}
    {f2 : Addr} {oc2 kV2 dc2 pm2 cd2 ct2 : Value} {od2 an2 : Option Addr} {sl2 : Array (Option Value)}
    {f3 : Addr} {oc3 kV3 dc3 pm3 cd3 ct3 : Value} {od3 an3 : Option Addr} {sl3 : Array (Option Value)}
    {f4 : Addr} {oc4 kV4 dc4 pm4 cd4 ct4 : Value} {od4 an4 : Option Addr} {sl4 : Array (Option Value)}
    {f5 : Addr} {oc5 kV5 dc5 pm5 cd5 ct5 : Value} {od5 an5 : Option Addr} {sl5 : Array (Option Value)}
    {f6 : Addr} {oc6 kV6 dc6 pm6 cd6 ct6 : Value} {od6 an6 : Option Addr} {sl6 : Array (Option Value)}
    {f7 : Addr} {oc7 kV7 dc7 pm7 cd7 ct7 : Value} {od7 an7 : Option Addr} {sl7 : Array (Option Value)}
    {f8 : Addr} {oc8 kV8 dc8 pm8 cd8 ct8 : Value} {od8 an8 : Option Addr} {sl8 : Array (Option Value)}
    {f9 : Addr} {oc9 kV9 dc9 pm9 cd9 ct9 : Value} {od9 an9 : Option Addr} {sl9 : Array (Option Value)}
    {f10 : Addr} {oc10 kV10 dc10 pm10 cd10 ct10 : Value} {od10 an10 : Option Addr} {sl10 : Array (Option Value)}
    {f11 : Addr} {oc11 kV11 dc11 pm11 cd11 ct11 : Value} {od11 an11 : Option Addr} {sl11 : Array (Option Value)}
    {f12 : Addr} {oc12 kV12 dc12 pm12 cd12 ct12 : Value} {od12 an12 : Option Addr} {sl12 : Array (Option Value)}
    {f13 : Addr} {oc13 kV13 dc13 pm13 cd13 ct13 : Value} {od13 an13 : Option Addr} {sl13 : Array (Option Value)}
    {f14 : Addr} {oc14 kV14 dc14 pm14 cd14 ct14 : Value} {od14 an14 : Option Addr} {sl14 : Array (Option Value)}
    {f15 : Addr} {oc15 kV15 dc15 pm15 cd15 ct15 : Value} {od15 an15 : Option Addr} {sl15 : Array (Option Value)}
    {f16 : Addr} {oc16 kV16 dc16 pm16 cd16 ct16 : Value} {od16 an16 : Option Addr} {sl16 : Array (Option Value)}
    {f17 : Addr} {oc17 kV17 dc17 pm17 cd17 ct17 : Value} {od17 an17 : Option Addr} {sl17 : Array (Option Value)}
    {f18 : Addr} {oc18 kV18 dc18 pm18 cd18 ct18 : Value} {od18 an18 : Option Addr} {sl18 : Array (Option Value)}
    {f19 : Addr} {oc19 kV19 dc19 pm19 cd19 ct19 : Value} {od19 an19 : Option Addr} {sl19 : Array (Option Value)}
    {f20 : Addr} {oc20 kV20 dc20 pm20 cd20 ct20 : Value} {od20 an20 : Option Addr} {sl20 : Array (Option Value)}
    {f21 : Addr} {oc21 kV21 dc21 pm21 cd21 ct21 : Value} {od21 an21 : Option Addr} {sl21 : Array (Option Value)}
    {f22 : Addr} {oc22 kV22 dc22 pm22 cd22 ct22 : Value} {od22 an22 : Option Addr} {sl22 : Array (Option Value)}
    {f23 : Addr} {oc23 kV23 dc23 pm23 cd23 ct23 : Value} {od23 an23 : Option Addr} {sl23 : Array (Option Value)}
    {f24 : Addr} {oc24 kV24 dc24 pm24 cd24 ct24 : Value} {od24 an24 : Option Addr} {sl24 : Array (Option Value)}
    {f25 : Addr} {oc25 kV25 dc25 pm25 cd25 ct25 : Value} {od25 an25 : Option Addr} {sl25 : Array (Option Value)}
    {f26 : Addr} {oc26 kV26 dc26 pm26 cd26 ct26 : Value} {od26 an26 : Option Addr} {sl26 : Array (Option Value)}
    {f27 : Addr} {oc27 kV27 dc27 pm27 cd27 ct27 : Value} {od27 an27 : Option Addr} {sl27 : Array (Option Value)}
    {f28 : Addr} {oc28 kV28 dc28 pm28 cd28 ct28 : Value} {od28 an28 : Option Addr} {sl28 : Array (Option Value)}
    {s_LETTERS : Str} {t_LETTERS : Tok}
    {s_DIGITS : Str} {t_DIGITS : Tok}
    {C0 I0 N0 : Addr} {nm0 q0 : Str} {bs0 bm0 sub0 : List Value} {sn0 : List Str} {ab0 : Bool} {col0 : Option Bool} {dd0 : Option Addr} {m00 m10 m20 m30 m50 : Option Value} {io0 id0 ip0 it0 : Value} {iod0 ia0 : Option Addr} {is0 : Array (Option Value)} {ic0_ : Value}
    {C1 I1 N1 : Addr} {nm1 q1 : Str} {bs1 bm1 sub1 : List Value} {sn1 : List Str} {ab1 : Bool} {col1 : Option Bool} {dd1 : Option Addr} {m01 m11 m21 m31 m51 : Option Value} {io1 id1 ip1 it1 : Value} {iod1 ia1 : Option Addr} {is1 : Array (Option Value)} {ic1_ : Value}
    {C2 I2 N2 : Addr} {nm2 q2 : Str} {bs2 bm2 sub2 : List Value} {sn2 : List Str} {ab2 : Bool} {col2 : Option Bool} {dd2 : Option Addr} {m02 m12 m22 m32 m52 : Option Value} {io2 id2 ip2 it2 : Value} {iod2 ia2 : Option Addr} {is2 : Array (Option Value)} {ic2_ : Value}
    {CF IF TF : Addr} {oF kvF dcF pmF cdF ctF oTF : Value} {odF anF oeF : Option Addr} {slF smF : Array (Option Value)} {nF : Nat}
    {sF0 : Str} {tF0 : Tok}
    {sF1 : Str} {tF1 : Tok}
    {sF2 : Str} {tF2 : Tok}
    {tF3 : Tok}
    {CG IG TG : Addr} {oG kvG dcG pmG cdG ctG oTG : Value} {odG anG oeG : Option Addr} {slG smG : Array (Option Value)} {nG : Nat}
    {sG1 : Str} {tG1 : Tok}
    {MG_fields : Addr} {p0Gfields p1Gfields p2Gfields p3Gfields p4Gfields p5Gfields : Value} {p6Gfields p7Gfields : Option Addr} {p8Gfields : Array (Option Value)}
    (a0 : PySem.W.nsIn K mainGlobals "_wall" = some (some (.ref f0)))
    (l0 : K.lookup f0 = some ⟨oc0, od0, .func (PySem.W.fnOf "_wall" "_wall" (defArgs s__wall) (defBody s__wall) (defScope s__wall) .none kV0 dc0 pm0 an0 cd0 ct0), sl0⟩)
    (c0 : PySem.W.codeIn K cd0 "_wall" = true)
    (k0 : PySem.W.keepIn K (.ref f0) = true)
    (a1 : PySem.W.nsIn K mainGlobals "is_word_sign" = some (some (.ref f1)))
    (l1 : K.lookup f1 = some ⟨oc1, od1, .func (PySem.W.fnOf "is_word_sign" "is_word_sign" (defArgs s_is_word_sign) (defBody s_is_word_sign) (defScope s_is_word_sign) .none kV1 dc1 pm1 an1 cd1 ct1), sl1⟩)
    (c1 : PySem.W.codeIn K cd1 "is_word_sign" = true)
    (k1 : PySem.W.keepIn K (.ref f1) = true)
    (a2 : PySem.W.nsIn K mainGlobals "leading_name" = some (some (.ref f2)))
    (l2 : K.lookup f2 = some ⟨oc2, od2, .func (PySem.W.fnOf "leading_name" "leading_name" (defArgs s_leading_name) (defBody s_leading_name) (defScope s_leading_name) .none kV2 dc2 pm2 an2 cd2 ct2), sl2⟩)
    (c2 : PySem.W.codeIn K cd2 "leading_name" = true)
    (k2 : PySem.W.keepIn K (.ref f2) = true)
    (a3 : PySem.W.nsIn K mainGlobals "own_copy" = some (some (.ref f3)))
    (l3 : K.lookup f3 = some ⟨oc3, od3, .func (PySem.W.fnOf "own_copy" "own_copy" (defArgs s_own_copy) (defBody s_own_copy) (defScope s_own_copy) .none kV3 dc3 pm3 an3 cd3 ct3), sl3⟩)
    (c3 : PySem.W.codeIn K cd3 "own_copy" = true)
    (k3 : PySem.W.keepIn K (.ref f3) = true)
    (a4 : PySem.W.nsIn K mainGlobals "is_style" = some (some (.ref f4)))
    (l4 : K.lookup f4 = some ⟨oc4, od4, .func (PySem.W.fnOf "is_style" "is_style" (defArgs s_is_style) (defBody s_is_style) (defScope s_is_style) .none kV4 dc4 pm4 an4 cd4 ct4), sl4⟩)
    (c4 : PySem.W.codeIn K cd4 "is_style" = true)
    (k4 : PySem.W.keepIn K (.ref f4) = true)
    (a5 : PySem.W.nsIn K mainGlobals "brace_pieces" = some (some (.ref f5)))
    (l5 : K.lookup f5 = some ⟨oc5, od5, .func (PySem.W.fnOf "brace_pieces" "brace_pieces" (defArgs s_brace_pieces) (defBody s_brace_pieces) (defScope s_brace_pieces) .none kV5 dc5 pm5 an5 cd5 ct5), sl5⟩)
    (c5 : PySem.W.codeIn K cd5 "brace_pieces" = true)
    (k5 : PySem.W.keepIn K (.ref f5) = true)
    (a6 : PySem.W.nsIn K mainGlobals "brace_field" = some (some (.ref f6)))
    (l6 : K.lookup f6 = some ⟨oc6, od6, .func (PySem.W.fnOf "brace_field" "brace_field" (defArgs s_brace_field) (defBody s_brace_field) (defScope s_brace_field) .none kV6 dc6 pm6 an6 cd6 ct6), sl6⟩)
    (c6 : PySem.W.codeIn K cd6 "brace_field" = true)
    (k6 : PySem.W.keepIn K (.ref f6) = true)
    (a7 : PySem.W.nsIn K mainGlobals "split_spec" = some (some (.ref f7)))
    (l7 : K.lookup f7 = some ⟨oc7, od7, .func (PySem.W.fnOf "split_spec" "split_spec" (defArgs s_split_spec) (defBody s_split_spec) (defScope s_split_spec) .none kV7 dc7 pm7 an7 cd7 ct7), sl7⟩)
    (c7 : PySem.W.codeIn K cd7 "split_spec" = true)
    (k7 : PySem.W.keepIn K (.ref f7) = true)
    (a8 : PySem.W.nsIn K mainGlobals "is_width" = some (some (.ref f8)))
    (l8 : K.lookup f8 = some ⟨oc8, od8, .func (PySem.W.fnOf "is_width" "is_width" (defArgs s_is_width) (defBody s_is_width) (defScope s_is_width) .none kV8 dc8 pm8 an8 cd8 ct8), sl8⟩)
    (c8 : PySem.W.codeIn K cd8 "is_width" = true)
    (k8 : PySem.W.keepIn K (.ref f8) = true)
    (a9 : PySem.W.nsIn K mainGlobals "dollar_pieces" = some (some (.ref f9)))
    (l9 : K.lookup f9 = some ⟨oc9, od9, .func (PySem.W.fnOf "dollar_pieces" "dollar_pieces" (defArgs s_dollar_pieces) (defBody s_dollar_pieces) (defScope s_dollar_pieces) .none kV9 dc9 pm9 an9 cd9 ct9), sl9⟩)
    (c9 : PySem.W.codeIn K cd9 "dollar_pieces" = true)
    (k9 : PySem.W.keepIn K (.ref f9) = true)
    (a10 : PySem.W.nsIn K mainGlobals "dollar_name" = some (some (.ref f10)))
    (l10 : K.lookup f10 = some ⟨oc10, od10, .func (PySem.W.fnOf "dollar_name" "dollar_name" (defArgs s_dollar_name) (defBody s_dollar_name) (defScope s_dollar_name) .none kV10 dc10 pm10 an10 cd10 ct10), sl10⟩)
    (c10 : PySem.W.codeIn K cd10 "dollar_name" = true)
    (k10 : PySem.W.keepIn K (.ref f10) = true)
    (a11 : PySem.W.nsIn K mainGlobals "joined" = some (some (.ref f11)))
    (l11 : K.lookup f11 = some ⟨oc11, od11, .func (PySem.W.fnOf "joined" "joined" (defArgs s_joined) (defBody s_joined) (defScope s_joined) .none kV11 dc11 pm11 an11 cd11 ct11), sl11⟩)
    (c11 : PySem.W.codeIn K cd11 "joined" = true)
    (k11 : PySem.W.keepIn K (.ref f11) = true)
    (a12 : PySem.W.nsIn K mainGlobals "first_day" = some (some (.ref f12)))
    (l12 : K.lookup f12 = some ⟨oc12, od12, .func (PySem.W.fnOf "first_day" "first_day" (defArgs s_first_day) (defBody s_first_day) (defScope s_first_day) .none kV12 dc12 pm12 an12 cd12 ct12), sl12⟩)
    (c12 : PySem.W.codeIn K cd12 "first_day" = true)
    (k12 : PySem.W.keepIn K (.ref f12) = true)
    (a13 : PySem.W.nsIn K mainGlobals "month_days" = some (some (.ref f13)))
    (l13 : K.lookup f13 = some ⟨oc13, od13, .func (PySem.W.fnOf "month_days" "month_days" (defArgs s_month_days) (defBody s_month_days) (defScope s_month_days) .none kV13 dc13 pm13 an13 cd13 ct13), sl13⟩)
    (c13 : PySem.W.codeIn K cd13 "month_days" = true)
    (k13 : PySem.W.keepIn K (.ref f13) = true)
    (a14 : PySem.W.nsIn K mainGlobals "date_of" = some (some (.ref f14)))
    (l14 : K.lookup f14 = some ⟨oc14, od14, .func (PySem.W.fnOf "date_of" "date_of" (defArgs s_date_of) (defBody s_date_of) (defScope s_date_of) .none kV14 dc14 pm14 an14 cd14 ct14), sl14⟩)
    (c14 : PySem.W.codeIn K cd14 "date_of" = true)
    (k14 : PySem.W.keepIn K (.ref f14) = true)
    (a15 : PySem.W.nsIn K mainGlobals "date_text" = some (some (.ref f15)))
    (l15 : K.lookup f15 = some ⟨oc15, od15, .func (PySem.W.fnOf "date_text" "date_text" (defArgs s_date_text) (defBody s_date_text) (defScope s_date_text) .none kV15 dc15 pm15 an15 cd15 ct15), sl15⟩)
    (c15 : PySem.W.codeIn K cd15 "date_text" = true)
    (k15 : PySem.W.keepIn K (.ref f15) = true)
    (a16 : PySem.W.nsIn K mainGlobals "hours_text" = some (some (.ref f16)))
    (l16 : K.lookup f16 = some ⟨oc16, od16, .func (PySem.W.fnOf "hours_text" "hours_text" (defArgs s_hours_text) (defBody s_hours_text) (defScope s_hours_text) .none kV16 dc16 pm16 an16 cd16 ct16), sl16⟩)
    (c16 : PySem.W.codeIn K cd16 "hours_text" = true)
    (k16 : PySem.W.keepIn K (.ref f16) = true)
    (a17 : PySem.W.nsIn K mainGlobals "time_text" = some (some (.ref f17)))
    (l17 : K.lookup f17 = some ⟨oc17, od17, .func (PySem.W.fnOf "time_text" "time_text" (defArgs s_time_text) (defBody s_time_text) (defScope s_time_text) .none kV17 dc17 pm17 an17 cd17 ct17), sl17⟩)
    (c17 : PySem.W.codeIn K cd17 "time_text" = true)
    (k17 : PySem.W.keepIn K (.ref f17) = true)
    (a18 : PySem.W.nsIn K mainGlobals "pieces_of" = some (some (.ref f18)))
    (l18 : K.lookup f18 = some ⟨oc18, od18, .func (PySem.W.fnOf "pieces_of" "pieces_of" (defArgs s_pieces_of) (defBody s_pieces_of) (defScope s_pieces_of) .none kV18 dc18 pm18 an18 cd18 ct18), sl18⟩)
    (c18 : PySem.W.codeIn K cd18 "pieces_of" = true)
    (k18 : PySem.W.keepIn K (.ref f18) = true)
    (a19 : PySem.W.nsIn K mainGlobals "_law_draw" = some (some (.ref f19)))
    (l19 : K.lookup f19 = some ⟨oc19, od19, .func (PySem.W.fnOf "_law_draw" "_law_draw" (defArgs s__law_draw) (defBody s__law_draw) (defScope s__law_draw) .none kV19 dc19 pm19 an19 cd19 ct19), sl19⟩)
    (c19 : PySem.W.codeIn K cd19 "_law_draw" = true)
    (k19 : PySem.W.keepIn K (.ref f19) = true)
    (a20 : PySem.W.nsIn K mainGlobals "_law_pick" = some (some (.ref f20)))
    (l20 : K.lookup f20 = some ⟨oc20, od20, .func (PySem.W.fnOf "_law_pick" "_law_pick" (defArgs s__law_pick) (defBody s__law_pick) (defScope s__law_pick) .none kV20 dc20 pm20 an20 cd20 ct20), sl20⟩)
    (c20 : PySem.W.codeIn K cd20 "_law_pick" = true)
    (k20 : PySem.W.keepIn K (.ref f20) = true)
    (a21 : PySem.W.nsIn K mainGlobals "_law_text" = some (some (.ref f21)))
    (l21 : K.lookup f21 = some ⟨oc21, od21, .func (PySem.W.fnOf "_law_text" "_law_text" (defArgs s__law_text) (defBody s__law_text) (defScope s__law_text) .none kV21 dc21 pm21 an21 cd21 ct21), sl21⟩)
    (c21 : PySem.W.codeIn K cd21 "_law_text" = true)
    (k21 : PySem.W.keepIn K (.ref f21) = true)
    (a22 : PySem.W.nsIn K mainGlobals "_law_same" = some (some (.ref f22)))
    (l22 : K.lookup f22 = some ⟨oc22, od22, .func (PySem.W.fnOf "_law_same" "_law_same" (defArgs s__law_same) (defBody s__law_same) (defScope s__law_same) .none kV22 dc22 pm22 an22 cd22 ct22), sl22⟩)
    (c22 : PySem.W.codeIn K cd22 "_law_same" = true)
    (k22 : PySem.W.keepIn K (.ref f22) = true)
    (a23 : PySem.W.nsIn K mainGlobals "_law_formatter_told" = some (some (.ref f23)))
    (l23 : K.lookup f23 = some ⟨oc23, od23, .func (PySem.W.fnOf "_law_formatter_told" "_law_formatter_told" (defArgs s__law_formatter_told) (defBody s__law_formatter_told) (defScope s__law_formatter_told) .none kV23 dc23 pm23 an23 cd23 ct23), sl23⟩)
    (c23 : PySem.W.codeIn K cd23 "_law_formatter_told" = true)
    (k23 : PySem.W.keepIn K (.ref f23) = true)
    (a24 : PySem.W.nsIn K mainGlobals "_law_dollared" = some (some (.ref f24)))
    (l24 : K.lookup f24 = some ⟨oc24, od24, .func (PySem.W.fnOf "_law_dollared" "_law_dollared" (defArgs s__law_dollared) (defBody s__law_dollared) (defScope s__law_dollared) .none kV24 dc24 pm24 an24 cd24 ct24), sl24⟩)
    (c24 : PySem.W.codeIn K cd24 "_law_dollared" = true)
    (k24 : PySem.W.keepIn K (.ref f24) = true)
    (a25 : PySem.W.nsIn K mainGlobals "_law_plain_parts" = some (some (.ref f25)))
    (l25 : K.lookup f25 = some ⟨oc25, od25, .func (PySem.W.fnOf "_law_plain_parts" "_law_plain_parts" (defArgs s__law_plain_parts) (defBody s__law_plain_parts) (defScope s__law_plain_parts) .none kV25 dc25 pm25 an25 cd25 ct25), sl25⟩)
    (c25 : PySem.W.codeIn K cd25 "_law_plain_parts" = true)
    (k25 : PySem.W.keepIn K (.ref f25) = true)
    (a26 : PySem.W.nsIn K mainGlobals "_law_odd_dollar" = some (some (.ref f26)))
    (l26 : K.lookup f26 = some ⟨oc26, od26, .func (PySem.W.fnOf "_law_odd_dollar" "_law_odd_dollar" (defArgs s__law_odd_dollar) (defBody s__law_odd_dollar) (defScope s__law_odd_dollar) .none kV26 dc26 pm26 an26 cd26 ct26), sl26⟩)
    (c26 : PySem.W.codeIn K cd26 "_law_odd_dollar" = true)
    (k26 : PySem.W.keepIn K (.ref f26) = true)
    (a27 : PySem.W.nsIn K mainGlobals "_law_made_alone" = some (some (.ref f27)))
    (l27 : K.lookup f27 = some ⟨oc27, od27, .func (PySem.W.fnOf "_law_made_alone" "_law_made_alone" (defArgs s__law_made_alone) (defBody s__law_made_alone) (defScope s__law_made_alone) .none kV27 dc27 pm27 an27 cd27 ct27), sl27⟩)
    (c27 : PySem.W.codeIn K cd27 "_law_made_alone" = true)
    (k27 : PySem.W.keepIn K (.ref f27) = true)
    (a28 : PySem.W.nsIn K mainGlobals "law" = some (some (.ref f28)))
    (l28 : K.lookup f28 = some ⟨oc28, od28, .func (PySem.W.fnOf "law" "law" (defArgs s_law) (defBody s_law) (defScope s_law) .none kV28 dc28 pm28 an28 cd28 ct28), sl28⟩)
    (c28 : PySem.W.codeIn K cd28 "law" = true)
    (k28 : PySem.W.keepIn K (.ref f28) = true)
    (z_all : PySem.W.nsIn K mainGlobals "all" = some none)
    (z_bool : PySem.W.nsIn K mainGlobals "bool" = some none)
    (z_dict : PySem.W.nsIn K mainGlobals "dict" = some none)
    (z_int : PySem.W.nsIn K mainGlobals "int" = some none)
    (z_isinstance : PySem.W.nsIn K mainGlobals "isinstance" = some none)
    (z_len : PySem.W.nsIn K mainGlobals "len" = some none)
    (z_list : PySem.W.nsIn K mainGlobals "list" = some none)
    (z_range : PySem.W.nsIn K mainGlobals "range" = some none)
    (z_sorted : PySem.W.nsIn K mainGlobals "sorted" = some none)
    (z_str : PySem.W.nsIn K mainGlobals "str" = some none)
    (z_tuple : PySem.W.nsIn K mainGlobals "tuple" = some none)
    (z_zip : PySem.W.nsIn K mainGlobals "zip" = some none)
    (hn : PySem.W.specialIn K (.builtin "object.__class__") "__get__" = some (some (.builtin "getset_descriptor.__get__")))
    (htk : PySem.W.takesIn K (.builtin "object.__class__") = some true)
    (k_LETTERS : PySem.W.nsIn K mainGlobals "LETTERS" = some (some (.str s_LETTERS t_LETTERS)))
    (e_LETTERS : s_LETTERS = SX.S LET)
    (k_DIGITS : PySem.W.nsIn K mainGlobals "DIGITS" = some (some (.str s_DIGITS t_DIGITS)))
    (e_DIGITS : s_DIGITS = SX.S DIG)
    (aC0 : PySem.W.nsIn K mainGlobals "BadField" = some (some (.ref C0)))
    (x0 : K.lookup C0 = some (PySem.excClassObj nm0 q0 C0 N0 bs0 bm0 true sn0 sub0 ab0 col0 dd0 m00 m10 m20 m30 m50 "ValueError.__new__"))
    (r0 : PySem.HandSPX.refsVE bm0 = true)
    (sa0 : PySem.W.findIn K (.ref C0) "__setattr__" = some (some (.builtin "object.__setattr__")))
    (nf0 : PySem.W.findIn K (.ref C0) "name" = some none)
    (ga0 : PySem.W.findIn K (.ref C0) "__getattribute__" = some (some (.builtin "BaseException.__getattribute__")))
    (gg0 : PySem.W.findIn K (.ref C0) "__getattr__" = some none)
    (iC0 : PySem.W.findIn K (.ref C0) "__init__" = some (some (.ref I0)))
    (tI0 : PySem.W.typeIn K (.ref I0) = some (.type "function"))
    (kC0 : PySem.W.keepIn K (.ref C0) = true)
    (eC0 : PySem.W.subIn K (.ref C0) (.type "BaseException") = some true)
    (tC0 : PySem.W.typeIn K (.ref C0) = some (.type "type"))
    (hC0 : PySem.W.hasDictIn K C0 = true)
    (li0 : K.lookup I0 = some ⟨io0, iod0, .func (PySem.W.fnOf "__init__" "BadField.__init__" (eA "name" ⟨9, 17, 9, 21⟩ ⟨9, 23, 9, 27⟩) (eB "name" ⟨10, 8, 10, 12⟩ ⟨10, 8, 10, 17⟩ ⟨10, 20, 10, 24⟩ ⟨10, 8, 10, 24⟩) (eS "name") .none .none id0 ip0 ia0 ic0_ it0), is0⟩)
    (ci0 : PySem.W.codeIn K ic0_ "BadField.__init__" = true)
    (aC1 : PySem.W.nsIn K mainGlobals "BadFormat" = some (some (.ref C1)))
    (x1 : K.lookup C1 = some (PySem.excClassObj nm1 q1 C1 N1 bs1 bm1 true sn1 sub1 ab1 col1 dd1 m01 m11 m21 m31 m51 "ValueError.__new__"))
    (r1 : PySem.HandSPX.refsVE bm1 = true)
    (sa1 : PySem.W.findIn K (.ref C1) "__setattr__" = some (some (.builtin "object.__setattr__")))
    (nf1 : PySem.W.findIn K (.ref C1) "fmt" = some none)
    (ga1 : PySem.W.findIn K (.ref C1) "__getattribute__" = some (some (.builtin "BaseException.__getattribute__")))
    (gg1 : PySem.W.findIn K (.ref C1) "__getattr__" = some none)
    (iC1 : PySem.W.findIn K (.ref C1) "__init__" = some (some (.ref I1)))
    (tI1 : PySem.W.typeIn K (.ref I1) = some (.type "function"))
    (kC1 : PySem.W.keepIn K (.ref C1) = true)
    (eC1 : PySem.W.subIn K (.ref C1) (.type "BaseException") = some true)
    (tC1 : PySem.W.typeIn K (.ref C1) = some (.type "type"))
    (hC1 : PySem.W.hasDictIn K C1 = true)
    (li1 : K.lookup I1 = some ⟨io1, iod1, .func (PySem.W.fnOf "__init__" "BadFormat.__init__" (eA "fmt" ⟨13, 17, 13, 21⟩ ⟨13, 23, 13, 26⟩) (eB "fmt" ⟨14, 8, 14, 12⟩ ⟨14, 8, 14, 16⟩ ⟨14, 19, 14, 22⟩ ⟨14, 8, 14, 22⟩) (eS "fmt") .none .none id1 ip1 ia1 ic1_ it1), is1⟩)
    (ci1 : PySem.W.codeIn K ic1_ "BadFormat.__init__" = true)
    (aC2 : PySem.W.nsIn K mainGlobals "BadStyle" = some (some (.ref C2)))
    (x2 : K.lookup C2 = some (PySem.excClassObj nm2 q2 C2 N2 bs2 bm2 true sn2 sub2 ab2 col2 dd2 m02 m12 m22 m32 m52 "ValueError.__new__"))
    (r2 : PySem.HandSPX.refsVE bm2 = true)
    (sa2 : PySem.W.findIn K (.ref C2) "__setattr__" = some (some (.builtin "object.__setattr__")))
    (nf2 : PySem.W.findIn K (.ref C2) "style" = some none)
    (ga2 : PySem.W.findIn K (.ref C2) "__getattribute__" = some (some (.builtin "BaseException.__getattribute__")))
    (gg2 : PySem.W.findIn K (.ref C2) "__getattr__" = some none)
    (iC2 : PySem.W.findIn K (.ref C2) "__init__" = some (some (.ref I2)))
    (tI2 : PySem.W.typeIn K (.ref I2) = some (.type "function"))
    (kC2 : PySem.W.keepIn K (.ref C2) = true)
    (eC2 : PySem.W.subIn K (.ref C2) (.type "BaseException") = some true)
    (tC2 : PySem.W.typeIn K (.ref C2) = some (.type "type"))
    (hC2 : PySem.W.hasDictIn K C2 = true)
    (li2 : K.lookup I2 = some ⟨io2, iod2, .func (PySem.W.fnOf "__init__" "BadStyle.__init__" (eA "style" ⟨17, 17, 17, 21⟩ ⟨17, 23, 17, 28⟩) (eB "style" ⟨18, 8, 18, 12⟩ ⟨18, 8, 18, 18⟩ ⟨18, 21, 18, 26⟩ ⟨18, 8, 18, 26⟩) (eS "style") .none .none id2 ip2 ia2 ic2_ it2), is2⟩)
    (ci2 : PySem.W.codeIn K ic2_ "BadStyle.__init__" = true)
    (sBB : PySem.W.subIn K (.ref C1) (.ref C1) = some true)
    (aF : PySem.W.nsIn K mainGlobals "Field" = some (some (.ref CF)))
    (iF : PySem.W.findIn K (.ref CF) "__init__" = some (some (.ref IF)))
    (lF : K.lookup IF = some ⟨oF, odF, .func (PySem.W.fnOf "__init__" "Field.__init__" (defArgs s_Field___init__) (defBody s_Field___init__) (defScope s_Field___init__) (.ref TF) kvF dcF pmF anF cdF ctF), slF⟩)
    (cF : PySem.W.codeIn K cdF "Field.__init__" = true)
    (kIF : PySem.W.keepIn K (.ref IF) = true)
    (dF : K.lookup TF = some ⟨oTF, oeF, .seq #[.str sF0 tF0, .str sF1 tF1, .str sF2 tF2, .int 0 tF3] nF, smF⟩)
    (eF0 : sF0 = SX.S [])
    (eF1 : sF1 = SX.S [32])
    (eF2 : sF2 = SX.S [])
    (mkF : PySem.W.makesIn K CF = true)
    (fIF : PySem.W.isFn K (.ref IF) = true)
    (kCF : PySem.W.keepIn K (.ref CF) = true)
    (pgF : PySem.W.plainGet K CF Str.empty = true)
    (hdF : PySem.W.hasDictIn K CF = true)
    (poF : PySem.W.plainOver K CF = true)
    (saF : PySem.W.findIn K (.ref CF) "__setattr__" = some (some (.builtin "object.__setattr__")))
    (naF_name : PySem.W.findIn K (.ref CF) "name" = some none)
    (naF_way : PySem.W.findIn K (.ref CF) "way" = some none)
    (naF_fill : PySem.W.findIn K (.ref CF) "fill" = some none)
    (naF_align : PySem.W.findIn K (.ref CF) "align" = some none)
    (naF_width : PySem.W.findIn K (.ref CF) "width" = some none)
    (clF : PySem.W.findIn K (.ref CF) "__class__" = some (some (.builtin "object.__class__")))
    (moF : PySem.W.mroIn K CF (.type "object") = some true)
    (ssF : PySem.W.subIn K (.ref CF) (.ref CF) = some true)
    (icF : PySem.W.isClsIn K CF = true)
    (tyF : PySem.W.typeIn K (.ref CF) = some (.type "type"))
    (sfF : PySem.W.subIn K (.ref CF) (.type "str") = some false)
    (stF : PySem.W.subIn K (.type "str") (.ref CF) = some false)
    (aG : PySem.W.nsIn K mainGlobals "Formatter" = some (some (.ref CG)))
    (iG : PySem.W.findIn K (.ref CG) "__init__" = some (some (.ref IG)))
    (lG : K.lookup IG = some ⟨oG, odG, .func (PySem.W.fnOf "__init__" "Formatter.__init__" (defArgs s_Formatter___init__) (defBody s_Formatter___init__) (defScope s_Formatter___init__) (.ref TG) kvG dcG pmG anG cdG ctG), slG⟩)
    (cG : PySem.W.codeIn K cdG "Formatter.__init__" = true)
    (kIG : PySem.W.keepIn K (.ref IG) = true)
    (dG : K.lookup TG = some ⟨oTG, oeG, .seq #[.none, .str sG1 tG1, .bool true, .none] nG, smG⟩)
    (eG1 : sG1 = SX.S [123])
    (mkG : PySem.W.makesIn K CG = true)
    (fIG : PySem.W.isFn K (.ref IG) = true)
    (kCG : PySem.W.keepIn K (.ref CG) = true)
    (pgG : PySem.W.plainGet K CG Str.empty = true)
    (hdG : PySem.W.hasDictIn K CG = true)
    (poG : PySem.W.plainOver K CG = true)
    (saG : PySem.W.findIn K (.ref CG) "__setattr__" = some (some (.builtin "object.__setattr__")))
    (naG_pieces : PySem.W.findIn K (.ref CG) "pieces" = some none)
    (naG_defaults : PySem.W.findIn K (.ref CG) "defaults" = some none)
    (mG_fields : PySem.W.findIn K (.ref CG) "fields" = some (some (.ref MG_fields)))
    (mlG_fields : K.lookup MG_fields = some ⟨p0Gfields, p6Gfields, .func (PySem.W.fnOf "fields" "Formatter.fields" (defArgs s_Formatter_fields) (defBody s_Formatter_fields) (defScope s_Formatter_fields) .none p1Gfields p2Gfields p3Gfields p7Gfields p4Gfields p5Gfields), p8Gfields⟩)
    (mcG_fields : PySem.W.codeIn K p4Gfields "Formatter.fields" = true)
    (mkG_fields : PySem.W.keepIn K (.ref MG_fields) = true)
    (mfG_fields : PySem.W.isFn K (.ref MG_fields) = true)
    : ∃ fd : FuncData, (∀ (s : Shared) (v : Value), BindsTo s fd ⟨[v], []⟩ [("_law_script", v)]) ∧ ∀ base : Heap, K.In base → base.Ns mainGlobals mg → FnOk P w K mg base CX0 9 fa fd ["_law_script"] (spLaw K) := by
  have e := hfa.symm.trans (PySem.W.mg_of X G a28)
  have e2 : f28 = fa := (Value.ref.inj (Option.some.inj e)).symm
  subst e2
  have F0 := fun_mk (st := s__wall) l0 c0 k0
  have D0 : Dfn K mg "_wall" "_wall" s__wall ["k"] f0 _ := ⟨F0, PySem.W.mg_of X G a0, F0.binds (ps := ["k"]) fun _ _ _ _ _ _ us hl => match us, hl with | [_], _ => rfl⟩
  have F1 := fun_mk (st := s_is_word_sign) l1 c1 k1
  have D1 : Dfn K mg "is_word_sign" "is_word_sign" s_is_word_sign ["sign"] f1 _ := ⟨F1, PySem.W.mg_of X G a1, F1.binds (ps := ["sign"]) fun _ _ _ _ _ _ us hl => match us, hl with | [_], _ => rfl⟩
  have F2 := fun_mk (st := s_leading_name) l2 c2 k2
  have D2 : Dfn K mg "leading_name" "leading_name" s_leading_name ["text"] f2 _ := ⟨F2, PySem.W.mg_of X G a2, F2.binds (ps := ["text"]) fun _ _ _ _ _ _ us hl => match us, hl with | [_], _ => rfl⟩
  have F3 := fun_mk (st := s_own_copy) l3 c3 k3
  have D3 : Dfn K mg "own_copy" "own_copy" s_own_copy ["thing"] f3 _ := ⟨F3, PySem.W.mg_of X G a3, F3.binds (ps := ["thing"]) fun _ _ _ _ _ _ us hl => match us, hl with | [_], _ => rfl⟩
  have F4 := fun_mk (st := s_is_style) l4 c4 k4
  have D4 : Dfn K mg "is_style" "is_style" s_is_style ["thing"] f4 _ := ⟨F4, PySem.W.mg_of X G a4, F4.binds (ps := ["thing"]) fun _ _ _ _ _ _ us hl => match us, hl with | [_], _ => rfl⟩
  have F5 := fun_mk (st := s_brace_pieces) l5 c5 k5
  have D5 : Dfn K mg "brace_pieces" "brace_pieces" s_brace_pieces ["fmt"] f5 _ := ⟨F5, PySem.W.mg_of X G a5, F5.binds (ps := ["fmt"]) fun _ _ _ _ _ _ us hl => match us, hl with | [_], _ => rfl⟩
  have F6 := fun_mk (st := s_brace_field) l6 c6 k6
  have D6 : Dfn K mg "brace_field" "brace_field" s_brace_field ["inner"] f6 _ := ⟨F6, PySem.W.mg_of X G a6, F6.binds (ps := ["inner"]) fun _ _ _ _ _ _ us hl => match us, hl with | [_], _ => rfl⟩
  have F7 := fun_mk (st := s_split_spec) l7 c7 k7
  have D7 : Dfn K mg "split_spec" "split_spec" s_split_spec ["spec"] f7 _ := ⟨F7, PySem.W.mg_of X G a7, F7.binds (ps := ["spec"]) fun _ _ _ _ _ _ us hl => match us, hl with | [_], _ => rfl⟩
  have F8 := fun_mk (st := s_is_width) l8 c8 k8
  have D8 : Dfn K mg "is_width" "is_width" s_is_width ["digits"] f8 _ := ⟨F8, PySem.W.mg_of X G a8, F8.binds (ps := ["digits"]) fun _ _ _ _ _ _ us hl => match us, hl with | [_], _ => rfl⟩
  have F9 := fun_mk (st := s_dollar_pieces) l9 c9 k9
  have D9 : Dfn K mg "dollar_pieces" "dollar_pieces" s_dollar_pieces ["fmt"] f9 _ := ⟨F9, PySem.W.mg_of X G a9, F9.binds (ps := ["fmt"]) fun _ _ _ _ _ _ us hl => match us, hl with | [_], _ => rfl⟩
  have F10 := fun_mk (st := s_dollar_name) l10 c10 k10
  have D10 : Dfn K mg "dollar_name" "dollar_name" s_dollar_name ["fmt", "start"] f10 _ := ⟨F10, PySem.W.mg_of X G a10, F10.binds (ps := ["fmt", "start"]) fun _ _ _ _ _ _ us hl => match us, hl with | [_, _], _ => rfl⟩
  have F11 := fun_mk (st := s_joined) l11 c11 k11
  have D11 : Dfn K mg "joined" "joined" s_joined ["pieces"] f11 _ := ⟨F11, PySem.W.mg_of X G a11, F11.binds (ps := ["pieces"]) fun _ _ _ _ _ _ us hl => match us, hl with | [_], _ => rfl⟩
  have F12 := fun_mk (st := s_first_day) l12 c12 k12
  have D12 : Dfn K mg "first_day" "first_day" s_first_day ["year"] f12 _ := ⟨F12, PySem.W.mg_of X G a12, F12.binds (ps := ["year"]) fun _ _ _ _ _ _ us hl => match us, hl with | [_], _ => rfl⟩
  have F13 := fun_mk (st := s_month_days) l13 c13 k13
  have D13 : Dfn K mg "month_days" "month_days" s_month_days ["year", "month"] f13 _ := ⟨F13, PySem.W.mg_of X G a13, F13.binds (ps := ["year", "month"]) fun _ _ _ _ _ _ us hl => match us, hl with | [_, _], _ => rfl⟩
  have F14 := fun_mk (st := s_date_of) l14 c14 k14
  have D14 : Dfn K mg "date_of" "date_of" s_date_of ["day"] f14 _ := ⟨F14, PySem.W.mg_of X G a14, F14.binds (ps := ["day"]) fun _ _ _ _ _ _ us hl => match us, hl with | [_], _ => rfl⟩
  have F15 := fun_mk (st := s_date_text) l15 c15 k15
  have D15 : Dfn K mg "date_text" "date_text" s_date_text ["seconds"] f15 _ := ⟨F15, PySem.W.mg_of X G a15, F15.binds (ps := ["seconds"]) fun _ _ _ _ _ _ us hl => match us, hl with | [_], _ => rfl⟩
  have F16 := fun_mk (st := s_hours_text) l16 c16 k16
  have D16 : Dfn K mg "hours_text" "hours_text" s_hours_text ["seconds", "sign"] f16 _ := ⟨F16, PySem.W.mg_of X G a16, F16.binds (ps := ["seconds", "sign"]) fun _ _ _ _ _ _ us hl => match us, hl with | [_, _], _ => rfl⟩
  have F17 := fun_mk (st := s_time_text) l17 c17 k17
  have D17 : Dfn K mg "time_text" "time_text" s_time_text ["milliseconds"] f17 _ := ⟨F17, PySem.W.mg_of X G a17, F17.binds (ps := ["milliseconds"]) fun _ _ _ _ _ _ us hl => match us, hl with | [_], _ => rfl⟩
  have F18 := fun_mk (st := s_pieces_of) l18 c18 k18
  have D18 : Dfn K mg "pieces_of" "pieces_of" s_pieces_of ["fmt", "style"] f18 _ := ⟨F18, PySem.W.mg_of X G a18, F18.binds (ps := ["fmt", "style"]) fun _ _ _ _ _ _ us hl => match us, hl with | [_, _], _ => rfl⟩
  have F19 := fun_mk (st := s__law_draw) l19 c19 k19
  have D19 : Dfn K mg "_law_draw" "_law_draw" s__law_draw ["_law_stream", "_law_many"] f19 _ := ⟨F19, PySem.W.mg_of X G a19, F19.binds (ps := ["_law_stream", "_law_many"]) fun _ _ _ _ _ _ us hl => match us, hl with | [_, _], _ => rfl⟩
  have F20 := fun_mk (st := s__law_pick) l20 c20 k20
  have D20 : Dfn K mg "_law_pick" "_law_pick" s__law_pick ["_law_stream", "_law_some"] f20 _ := ⟨F20, PySem.W.mg_of X G a20, F20.binds (ps := ["_law_stream", "_law_some"]) fun _ _ _ _ _ _ us hl => match us, hl with | [_, _], _ => rfl⟩
  have F21 := fun_mk (st := s__law_text) l21 c21 k21
  have D21 : Dfn K mg "_law_text" "_law_text" s__law_text ["_law_stream", "_law_signs", "_law_most"] f21 _ := ⟨F21, PySem.W.mg_of X G a21, F21.binds (ps := ["_law_stream", "_law_signs", "_law_most"]) fun _ _ _ _ _ _ us hl => match us, hl with | [_, _, _], _ => rfl⟩
  have F22 := fun_mk (st := s__law_same) l22 c22 k22
  have D22 : Dfn K mg "_law_same" "_law_same" s__law_same ["_law_found", "_law_due"] f22 _ := ⟨F22, PySem.W.mg_of X G a22, F22.binds (ps := ["_law_found", "_law_due"]) fun _ _ _ _ _ _ us hl => match us, hl with | [_, _], _ => rfl⟩
  have F23 := fun_mk (st := s__law_formatter_told) l23 c23 k23
  have D23 : Dfn K mg "_law_formatter_told" "_law_formatter_told" s__law_formatter_told ["_law_form", "_law_sign", "_law_firm"] f23 _ := ⟨F23, PySem.W.mg_of X G a23, F23.binds (ps := ["_law_form", "_law_sign", "_law_firm"]) fun _ _ _ _ _ _ us hl => match us, hl with | [_, _, _], _ => rfl⟩
  have F24 := fun_mk (st := s__law_dollared) l24 c24 k24
  have D24 : Dfn K mg "_law_dollared" "_law_dollared" s__law_dollared ["_law_stream", "_law_parts"] f24 _ := ⟨F24, PySem.W.mg_of X G a24, F24.binds (ps := ["_law_stream", "_law_parts"]) fun _ _ _ _ _ _ us hl => match us, hl with | [_, _], _ => rfl⟩
  have F25 := fun_mk (st := s__law_plain_parts) l25 c25 k25
  have D25 : Dfn K mg "_law_plain_parts" "_law_plain_parts" s__law_plain_parts ["_law_stream", "_law_most", "_law_keys"] f25 _ := ⟨F25, PySem.W.mg_of X G a25, F25.binds (ps := ["_law_stream", "_law_most", "_law_keys"]) fun _ _ _ _ _ _ us hl => match us, hl with | [_, _, _], _ => rfl⟩
  have F26 := fun_mk (st := s__law_odd_dollar) l26 c26 k26
  have D26 : Dfn K mg "_law_odd_dollar" "_law_odd_dollar" s__law_odd_dollar ["_law_stream"] f26 _ := ⟨F26, PySem.W.mg_of X G a26, F26.binds (ps := ["_law_stream"]) fun _ _ _ _ _ _ us hl => match us, hl with | [_], _ => rfl⟩
  have F27 := fun_mk (st := s__law_made_alone) l27 c27 k27
  have D27 : Dfn K mg "_law_made_alone" "_law_made_alone" s__law_made_alone ["_law_form", "_law_sign"] f27 _ := ⟨F27, PySem.W.mg_of X G a27, F27.binds (ps := ["_law_form", "_law_sign"]) fun _ _ _ _ _ _ us hl => match us, hl with | [_, _], _ => rfl⟩
  have F28 := fun_mk (st := s_law) l28 c28 k28
  have D28 : Dfn K mg "law" "law" s_law ["_law_script"] f28 _ := ⟨F28, PySem.W.mg_of X G a28, F28.binds (ps := ["_law_script"]) fun _ _ _ _ _ _ us hl => match us, hl with | [_], _ => rfl⟩
  have B : Blt mg := ⟨PySem.W.mg_none_of X G z_all, PySem.W.mg_none_of X G z_bool, PySem.W.mg_none_of X G z_dict, PySem.W.mg_none_of X G z_int, PySem.W.mg_none_of X G z_isinstance, PySem.W.mg_none_of X G z_len, PySem.W.mg_none_of X G z_list, PySem.W.mg_none_of X G z_range, PySem.W.mg_none_of X G z_sorted, PySem.W.mg_none_of X G z_str, PySem.W.mg_none_of X G z_tuple, PySem.W.mg_none_of X G z_zip⟩
  have E0 : ErrTxt K mg "BadField" "name" C0 I0 := ⟨oneF_name, PySem.W.mg_of X G aC0, ⟨_, _, _, _, _, _, _, _, _, _, _, _, _, _, _, x0, r0⟩, sa0, ga0, gg0, nf0, iC0, tI0, kC0, eC0, tC0, hC0, ⟨_, _, _, _, _, _, _, _, _, _, _, _, _, _, _, li0, ci0⟩⟩
  have E1 : ErrTxt K mg "BadFormat" "fmt" C1 I1 := ⟨oneF_fmt, PySem.W.mg_of X G aC1, ⟨_, _, _, _, _, _, _, _, _, _, _, _, _, _, _, x1, r1⟩, sa1, ga1, gg1, nf1, iC1, tI1, kC1, eC1, tC1, hC1, ⟨_, _, _, _, _, _, _, _, _, _, _, _, _, _, _, li1, ci1⟩⟩
  have E2 : ErrTxt K mg "BadStyle" "style" C2 I2 := ⟨oneF_style, PySem.W.mg_of X G aC2, ⟨_, _, _, _, _, _, _, _, _, _, _, _, _, _, _, x2, r2⟩, sa2, ga2, gg2, nf2, iC2, tI2, kC2, eC2, tC2, hC2, ⟨_, _, _, _, _, _, _, _, _, _, _, _, _, _, _, li2, ci2⟩⟩
  subst eF0
  subst eF1
  subst eF2
  subst eG1
  have FF : FunD K "__init__" "Field.__init__" (defArgs s_Field___init__) (defBody s_Field___init__) (defScope s_Field___init__) [.str (SX.S []), .str (SX.S [32]), .str (SX.S []), .int 0] [] IF _ := ⟨⟨_, _, _, _, _, _, _, _, _, _, rfl, lF, cF, .inr ⟨by decide, TF, _, _, nF, rfl, dF, rfl, .cons ⟨_, rfl⟩ (.cons ⟨_, rfl⟩ (.cons ⟨_, rfl⟩ (.cons ⟨_, rfl⟩ .nil)))⟩, .inl rfl⟩, kIF⟩
  have FG : FunD K "__init__" "Formatter.__init__" (defArgs s_Formatter___init__) (defBody s_Formatter___init__) (defScope s_Formatter___init__) [.non, .str (SX.S [123]), .bl true, .non] [] IG _ := ⟨⟨_, _, _, _, _, _, _, _, _, _, rfl, lG, cG, .inr ⟨by decide, TG, _, _, nG, rfl, dG, rfl, .cons rfl (.cons ⟨_, rfl⟩ (.cons rfl (.cons rfl .nil)))⟩, .inl rfl⟩, kIG⟩
  have Fm := fun_mk (st := s_Formatter_fields) mlG_fields mcG_fields mkG_fields
  let T : Txt K mg := { B := B, f__wall := f0, fd__wall := _, D__wall := D0, f_is_word_sign := f1, fd_is_word_sign := _, D_is_word_sign := D1, f_leading_name := f2, fd_leading_name := _, D_leading_name := D2, f_own_copy := f3, fd_own_copy := _, D_own_copy := D3, f_is_style := f4, fd_is_style := _, D_is_style := D4, f_brace_pieces := f5, fd_brace_pieces := _, D_brace_pieces := D5, f_brace_field := f6, fd_brace_field := _, D_brace_field := D6, f_split_spec := f7, fd_split_spec := _, D_split_spec := D7, f_is_width := f8, fd_is_width := _, D_is_width := D8, f_dollar_pieces := f9, fd_dollar_pieces := _, D_dollar_pieces := D9, f_dollar_name := f10, fd_dollar_name := _, D_dollar_name := D10, f_joined := f11, fd_joined := _, D_joined := D11, f_first_day := f12, fd_first_day := _, D_first_day := D12, f_month_days := f13, fd_month_days := _, D_month_days := D13, f_date_of := f14, fd_date_of := _, D_date_of := D14, f_date_text := f15, fd_date_text := _, D_date_text := D15, f_hours_text := f16, fd_hours_text := _, D_hours_text := D16, f_time_text := f17, fd_time_text := _, D_time_text := D17, f_pieces_of := f18, fd_pieces_of := _, D_pieces_of := D18, f__law_draw := f19, fd__law_draw := _, D__law_draw := D19, f__law_pick := f20, fd__law_pick := _, D__law_pick := D20, f__law_text := f21, fd__law_text := _, D__law_text := D21, f__law_same := f22, fd__law_same := _, D__law_same := D22, f__law_formatter_told := f23, fd__law_formatter_told := _, D__law_formatter_told := D23, f__law_dollared := f24, fd__law_dollared := _, D__law_dollared := D24, f__law_plain_parts := f25, fd__law_plain_parts := _, D__law_plain_parts := D25, f__law_odd_dollar := f26, fd__law_odd_dollar := _, D__law_odd_dollar := D26, f__law_made_alone := f27, fd__law_made_alone := _, D__law_made_alone := D27, f_law := f28, fd_law := _, D_law := D28, C_Field := CF, c_BadField := C0, i_BadField := I0, E_BadField := E0, c_BadFormat := C1, i_BadFormat := I1, E_BadFormat := E1, c_BadStyle := C2, i_BadStyle := I2, E_BadStyle := E2, i_Field := IF, fdi_Field := _, F_Field := FF, M_Field := ⟨mkF, iF, fIF, kCF⟩, g_Field := PySem.W.mg_of X G aF, I_Field := ⟨⟨pgF, hdF, poF, saF⟩, clF, hn, htk, moF, kit_subV ssF ssF icF tyF⟩, kFS := kit_typ sfF (by decide +kernel), kSF := kit_subV stF ssF icF tyF, C_Formatter := CG, i_Formatter := IG, fdi_Formatter := _, F_Formatter := FG, M_Formatter := ⟨mkG, iG, fIG, kCG⟩, g_Formatter := PySem.W.mg_of X G aG, cl_Formatter := ⟨pgG, hdG, poG, saG⟩, na_pieces := naG_pieces, na_defaults := naG_defaults, m_fields := MG_fields, fdm_fields := _, Me_fields := ⟨mG_fields, mfG_fields, mkG_fields⟩, F_fields := Fm, b_fields := Fm.binds (ps := ["self"]) fun _ _ _ _ _ _ us hl => match us, hl with | [_], _ => rfl, na_name := naF_name, na_way := naF_way, na_fill := naF_fill, na_align := naF_align, na_width := naF_width, exm := PySem.W.exm_ref eC1 hC1 tC1 sBB, k_LETTERS := ⟨_, PySem.W.mg_of X G k_LETTERS, by rw [e_LETTERS]; exact ⟨_, rfl⟩⟩, k_DIGITS := ⟨_, PySem.W.mg_of X G k_DIGITS, by rw [e_DIGITS]; exact ⟨_, rfl⟩⟩ }
  exact ⟨_, fun s v => .of_eq rfl, fun base _ _ => ok_law T⟩
theorem walk {l : PySem.W.OpenLaw} {q : Program} {loose : List Str} {XP : (Str → Option Value) → Heap → Prop} {YP : World → Heap → Prop} {d : DefRec} {K : Params → PySem.W.Frag} (hn : l.most = some 63) (hdf : d.params.defaults = [])
    (hY : ∀ (w : World) (h : Heap), YP w h → (K w.params).In h)
    (F : ∀ (w : World) (mg : Str → Option Value) (fa : Addr) (h : Heap), (K w.params).In h → h.Ns mainGlobals mg → mg d.name = some (.ref fa) →
      ∃ fd : FuncData, (∀ (s : Shared) (u : Value), BindsTo s fd ⟨[u], []⟩ [("_law_script", u)]) ∧ ∀ base : Heap, (K w.params).In base → base.Ns mainGlobals mg → FnOk l.prog w (K w.params) mg base CX0 9 fa fd ["_law_script"] (spLaw (K w.params))) :
    PySem.W.WalkO q loose XP YP l.row.toRowW d [] (fun f vs => PySem.call f vs) :=
  L2.walk_of (n := 63) (k := 9) (x := "_law_script") (CX := fun _ => CX0) (sp := fun w => spLaw (K w.params)) hn (by decide) hdf ⟨rfl, by decide, by decide⟩ hY F
    (fun _ _ a ns hl _ hS => .a ⟨a, ns, rfl, hS, hl, fun _ => rfl⟩) fun _ _ _ _ _ z => z
end My
open PySem PySem.W PyProof.Rows
set_option maxRecDepth 100000 in
set_option maxHeartbeats 0 in
theorem PySem.Challenge.cw_recordyard_k10_formats_with_dollars_refu_holds : PySem.Challenge.rw_recordyard_k10_formats_with_dollars_refu.Holds := by
  w_on; o_law; k_head; (case hw => w_witness2)
  k_fill
  refine My.walk (l := PySem.Challenge.rw_recordyard_k10_formats_with_dollars_refu) rfl rfl (fun w h Y => PySem.W.kIn_of Y) ?F
  case F =>
    intro w mg fa h KX G hmg
    refine' My.all_mk KX G hmg ?a0 ?l0 ?c0 ?k0 ?a1 ?l1 ?c1 ?k1 ?a2 ?l2 ?c2 ?k2 ?a3 ?l3 ?c3 ?k3 ?a4 ?l4 ?c4 ?k4 ?a5 ?l5 ?c5 ?k5 ?a6 ?l6 ?c6 ?k6 ?a7 ?l7 ?c7 ?k7 ?a8 ?l8 ?c8 ?k8 ?a9 ?l9 ?c9 ?k9 ?a10 ?l10 ?c10 ?k10 ?a11 ?l11 ?c11 ?k11 ?a12 ?l12 ?c12 ?k12 ?a13 ?l13 ?c13 ?k13 ?a14 ?l14 ?c14 ?k14 ?a15 ?l15 ?c15 ?k15 ?a16 ?l16 ?c16 ?k16 ?a17 ?l17 ?c17 ?k17 ?a18 ?l18 ?c18 ?k18 ?a19 ?l19 ?c19 ?k19 ?a20 ?l20 ?c20 ?k20 ?a21 ?l21 ?c21 ?k21 ?a22 ?l22 ?c22 ?k22 ?a23 ?l23 ?c23 ?k23 ?a24 ?l24 ?c24 ?k24 ?a25 ?l25 ?c25 ?k25 ?a26 ?l26 ?c26 ?k26 ?a27 ?l27 ?c27 ?k27 ?a28 ?l28 ?c28 ?k28 ?z_all ?z_bool ?z_dict ?z_int ?z_isinstance ?z_len ?z_list ?z_range ?z_sorted ?z_str ?z_tuple ?z_zip ?hn ?htk ?k_LETTERS ?e_LETTERS ?k_DIGITS ?e_DIGITS ?aC0 ?x0 ?r0 ?sa0 ?nf0 ?ga0 ?gg0 ?iC0 ?tI0 ?kC0 ?eC0 ?tC0 ?hC0 ?li0 ?ci0 ?aC1 ?x1 ?r1 ?sa1 ?nf1 ?ga1 ?gg1 ?iC1 ?tI1 ?kC1 ?eC1 ?tC1 ?hC1 ?li1 ?ci1 ?aC2 ?x2 ?r2 ?sa2 ?nf2 ?ga2 ?gg2 ?iC2 ?tI2 ?kC2 ?eC2 ?tC2 ?hC2 ?li2 ?ci2 ?sBB ?aF ?iF ?lF ?cF ?kIF ?dF ?eF0 ?eF1 ?eF2 ?mkF ?fIF ?kCF ?pgF ?hdF ?poF ?saF ?naF_name ?naF_way ?naF_fill ?naF_align ?naF_width ?clF ?moF ?ssF ?icF ?tyF ?sfF ?stF ?aG ?iG ?lG ?cG ?kIG ?dG ?eG1 ?mkG ?fIG ?kCG ?pgG ?hdG ?poG ?saG ?naG_pieces ?naG_defaults ?mG_fields ?mlG_fields ?mcG_fields ?mkG_fields ?mfG_fields
    (case a0 => k_is)
    (case l0 => k_is)
    (case c0 => k_is)
    (case k0 => k_is)
    (case a1 => k_is)
    (case l1 => k_is)
    (case c1 => k_is)
    (case k1 => k_is)
    (case a2 => k_is)
    (case l2 => k_is)
    (case c2 => k_is)
    (case k2 => k_is)
    (case a3 => k_is)
    (case l3 => k_is)
    (case c3 => k_is)
    (case k3 => k_is)
    (case a4 => k_is)
    (case l4 => k_is)
    (case c4 => k_is)
    (case k4 => k_is)
    (case a5 => k_is)
    (case l5 => k_is)
    (case c5 => k_is)
    (case k5 => k_is)
    (case a6 => k_is)
    (case l6 => k_is)
    (case c6 => k_is)
    (case k6 => k_is)
    (case a7 => k_is)
    (case l7 => k_is)
    (case c7 => k_is)
    (case k7 => k_is)
    (case a8 => k_is)
    (case l8 => k_is)
    (case c8 => k_is)
    (case k8 => k_is)
    (case a9 => k_is)
    (case l9 => k_is)
    (case c9 => k_is)
    (case k9 => k_is)
    (case a10 => k_is)
    (case l10 => k_is)
    (case c10 => k_is)
    (case k10 => k_is)
    (case a11 => k_is)
    (case l11 => k_is)
    (case c11 => k_is)
    (case k11 => k_is)
    (case a12 => k_is)
    (case l12 => k_is)
    (case c12 => k_is)
    (case k12 => k_is)
    (case a13 => k_is)
    (case l13 => k_is)
    (case c13 => k_is)
    (case k13 => k_is)
    (case a14 => k_is)
    (case l14 => k_is)
    (case c14 => k_is)
    (case k14 => k_is)
    (case a15 => k_is)
    (case l15 => k_is)
    (case c15 => k_is)
    (case k15 => k_is)
    (case a16 => k_is)
    (case l16 => k_is)
    (case c16 => k_is)
    (case k16 => k_is)
    (case a17 => k_is)
    (case l17 => k_is)
    (case c17 => k_is)
    (case k17 => k_is)
    (case a18 => k_is)
    (case l18 => k_is)
    (case c18 => k_is)
    (case k18 => k_is)
    (case a19 => k_is)
    (case l19 => k_is)
    (case c19 => k_is)
    (case k19 => k_is)
    (case a20 => k_is)
    (case l20 => k_is)
    (case c20 => k_is)
    (case k20 => k_is)
    (case a21 => k_is)
    (case l21 => k_is)
    (case c21 => k_is)
    (case k21 => k_is)
    (case a22 => k_is)
    (case l22 => k_is)
    (case c22 => k_is)
    (case k22 => k_is)
    (case a23 => k_is)
    (case l23 => k_is)
    (case c23 => k_is)
    (case k23 => k_is)
    (case a24 => k_is)
    (case l24 => k_is)
    (case c24 => k_is)
    (case k24 => k_is)
    (case a25 => k_is)
    (case l25 => k_is)
    (case c25 => k_is)
    (case k25 => k_is)
    (case a26 => k_is)
    (case l26 => k_is)
    (case c26 => k_is)
    (case k26 => k_is)
    (case a27 => k_is)
    (case l27 => k_is)
    (case c27 => k_is)
    (case k27 => k_is)
    (case a28 => k_is)
    (case l28 => k_is)
    (case c28 => k_is)
    (case k28 => k_is)
    (case z_all => k_is)
    (case z_bool => k_is)
    (case z_dict => k_is)
    (case z_int => k_is)
    (case z_isinstance => k_is)
    (case z_len => k_is)
    (case z_list => k_is)
    (case z_range => k_is)
    (case z_sorted => k_is)
    (case z_str => k_is)
    (case z_tuple => k_is)
    (case z_zip => k_is)
    (case hn => k_is)
    (case htk => k_is)
    (case k_LETTERS => k_is)
    (case e_LETTERS => decide +kernel)
    (case k_DIGITS => k_is)
    (case e_DIGITS => decide +kernel)
    (case aC0 => k_is)
    (case x0 => k_is)
    (case r0 => rfl)
    (case sa0 => k_is)
    (case nf0 => k_is)
    (case ga0 => k_is)
    (case gg0 => k_is)
    (case iC0 => k_is)
    (case tI0 => k_is)
    (case kC0 => k_is)
    (case eC0 => k_is)
    (case tC0 => k_is)
    (case hC0 => k_is)
    (case li0 => k_is)
    (case ci0 => k_is)
    (case aC1 => k_is)
    (case x1 => k_is)
    (case r1 => rfl)
    (case sa1 => k_is)
    (case nf1 => k_is)
    (case ga1 => k_is)
    (case gg1 => k_is)
    (case iC1 => k_is)
    (case tI1 => k_is)
    (case kC1 => k_is)
    (case eC1 => k_is)
    (case tC1 => k_is)
    (case hC1 => k_is)
    (case li1 => k_is)
    (case ci1 => k_is)
    (case aC2 => k_is)
    (case x2 => k_is)
    (case r2 => rfl)
    (case sa2 => k_is)
    (case nf2 => k_is)
    (case ga2 => k_is)
    (case gg2 => k_is)
    (case iC2 => k_is)
    (case tI2 => k_is)
    (case kC2 => k_is)
    (case eC2 => k_is)
    (case tC2 => k_is)
    (case hC2 => k_is)
    (case li2 => k_is)
    (case ci2 => k_is)
    (case sBB => k_is)
    (case aF => k_is)
    (case iF => k_is)
    (case lF => k_is)
    (case cF => k_is)
    (case kIF => k_is)
    (case dF => k_is)
    (case eF0 => decide +kernel)
    (case eF1 => decide +kernel)
    (case eF2 => decide +kernel)
    (case mkF => k_is)
    (case fIF => k_is)
    (case kCF => k_is)
    (case pgF => k_is)
    (case hdF => k_is)
    (case poF => k_is)
    (case saF => k_is)
    (case naF_name => k_is)
    (case naF_way => k_is)
    (case naF_fill => k_is)
    (case naF_align => k_is)
    (case naF_width => k_is)
    (case clF => k_is)
    (case moF => k_is)
    (case ssF => k_is)
    (case icF => k_is)
    (case tyF => k_is)
    (case sfF => k_is)
    (case stF => k_is)
    (case aG => k_is)
    (case iG => k_is)
    (case lG => k_is)
    (case cG => k_is)
    (case kIG => k_is)
    (case dG => k_is)
    (case eG1 => decide +kernel)
    (case mkG => k_is)
    (case fIG => k_is)
    (case kCG => k_is)
    (case pgG => k_is)
    (case hdG => k_is)
    (case poG => k_is)
    (case saG => k_is)
    (case naG_pieces => k_is)
    (case naG_defaults => k_is)
    (case mG_fields => k_is)
    (case mlG_fields => k_is)
    (case mcG_fields => k_is)
    (case mkG_fields => k_is)
    (case mfG_fields => k_is)
