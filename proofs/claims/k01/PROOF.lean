import PyProof.Rows.All
import Wide.All
import OpenK.AllK
import Wide.FinOn
import HandS.ForMost
import HandS.ExcInit
import HandS.IsInst
import HandS.ExcIs
import HandS.ExcValue
import HandS.HotCalls
import HandS.ForExc
import KE.KDictZip
import HandS.Walk
import HandS.Zip
import HandS.More
import PySem.Challenge.RW_recordyard_k01_errors_made
set_option Elab.async false
set_option linter.all false
set_option maxRecDepth 100000
set_option maxHeartbeats 4000000
namespace My
open PySem PySem.W PySem.Calls PyProof.Rows PySem.HandSPX
section
variable {prog : Program} {w : World} {A : Around} {M : Model} {E : Value → Shared → Prop} {R : Result → Shared → Prop} {h : Heap} {g : Array GenState} {d : Drawn} {t : Nat} {os : OsState}
variable {nm q : Str} {C N : Addr} {bs bm bmB : List Value} {hdct : Bool} {sn : List Str} {sub : List Value} {ab : Bool} {col : Option Bool} {dd : Option Addr} {k0 k1 k2 k3 k5 : Option Value} {B newId initId : String}
theorem chk_new_kw (F : ExcBaseFacts B newId initId bmB) (hT : ∀ X : String, bm.contains (.type X) = bmB.contains (.type X)) {rest : List Value}
    {kw : List (Str × Value)} {Q : Unit → Shared → Prop} (hC : h.get? C = some (excClassObj nm q C N bs bm hdct sn sub ab col dd k0 k1 k2 k3 k5 newId))
    (hq : Q () ⟨h, g, d, t, os⟩) :
    wpAny M A (checkBuiltinCall newId ⟨.ref C :: rest, kw⟩) Q E ⟨h, g, d, t, os⟩ := by
  have hc : (Value.ref C :: bm).contains (.type B) = true := by
    rw [List.contains_cons, hT, F.hasB, Bool.or_true]
  have hstar := F.noStar
  simp only [checkBuiltinCall, F.newKind, F.newSplit, F.newRow]
  repeat (first
    | refine wpAny_loadPart_at hC ?_
    | (refine wpAny_isSubtype_exc hC ?_; rw [hc])
    | refine wpAny_staticBase_exc hC ?_
    | refine wpAny_madeBy_exc hC ?_
    | simp only [bne_self_eq_false, Bool.false_eq_true, if_false]
    | wp_step)
  exact hq
theorem new_kw (F : ExcBaseFacts B newId initId bmB) (hT : ∀ X : String, bm.contains (.type X) = bmB.contains (.type X)) {rest : List Value}
    {kw : List (Str × Value)} (hC : h.get? C = some (excClassObj nm q C N bs bm hdct sn sub ab col dd k0 k1 k2 k3 k5 newId))
    (hq : R (.ok (.ret (.ref (h.objs.size + 1)))) ⟨(h.push (kdv_tup rest)).push (excO C h.objs.size), g, d, t, os⟩)
    (hrest : rest.length ≤ sizeLine) :
    codeAny (model prog w) A (.builtin newId ⟨.ref C :: rest, kw⟩) R ⟨h, g, d, t, os⟩ := by
  have hends := F.ends
  have h1 : (Value.ref C :: bm).contains (.type B) = true := by
    rw [List.contains_cons, hT, F.hasB, Bool.or_true]
  have h2 : (Value.ref C :: bm).contains (.type "AttributeError") = false := by
    rw [List.contains_cons, hT, F.noAttr]; rfl
  have h3 : (Value.ref C :: bm).contains (.type "NameError") = false := by
    rw [List.contains_cons, hT, F.noName]; rfl
  refine PySem.codeAny_builtinAt F.entry ?_
  unfold Builtin.«BaseException.__new__»
  refine PySem.wpAt_bind ?_
  show PySem.wpAt _ _ _ (stack >>= _) _ _ _
  refine PySem.wpAt_bind (PySem.wpAt_stack fun p below => PySem.wpAt_of_wpAny ?_)
  wp_walk
  refine PySem.wpAt_of_wpAny ?_
  rw [F.owner]
  repeat (first
    | with_reducible refine wpAny_madeHere_exc F.canon hC ?_
    | with_reducible refine wpAny_loadPart_at hC ?_
    | (with_reducible refine wpAny_isSubtype_exc hC ?_; first | rw [h1] | rw [h2] | rw [h3])
    | wp_step)
  show R _ _
  rw [Heap.size_push]
  exact hq
theorem tcall_kw (F : ExcBaseFacts B newId initId bmB) (hT : ∀ X : String, bm.contains (.type X) = bmB.contains (.type X)) {rest : List Value}
    {kw : List (Str × Value)} {fI : Addr} {Q : Fin → Shared → Prop} (hC : h.get? C = some (excClassObj nm q C N bs bm hdct sn sub ab col dd k0 k1 k2 k3 k5 newId))
    (hi : W.Looks (model prog w) h (typeLookup (.ref C) "__init__") (some (.ref fI)))
    (hb : ∀ self, W.Looks (model prog w) h (bindSpecial (.ref fI) self) (.ref fI, [self])) (hrest : rest.length ≤ sizeLine)
    (hq : codeAny (model prog w) A (.call (.ref fI) ⟨.ref (h.objs.size + 1) :: rest, kw⟩)
      (fun r s' => match r with
        | .ok (.ret v) => v = .none ∧ Q (.done (.ret (.ref (h.objs.size + 1)))) s'
        | .ok _ => False
        | .error e => E e s')
      ⟨(h.push (kdv_tup rest)).push (excO C h.objs.size), g, d, t, os⟩) :
    wpAny (model prog w) A (Builtin.«type.__call__» ⟨.ref C :: rest, kw⟩) Q E ⟨h, g, d, t, os⟩ := by
  repeat (first
    | with_reducible refine wpAny_loadPart_at hC ?_
    | with_reducible refine wpAny_madeBy_exc hC ?_
    | wp_step)
  refine codeAny_call_builtin_code (Code.quiet_builtin _ F.quiet) (chk_new_kw F hT hC ?_)
  refine new_kw F hT hC ?_ hrest
  show wpAny _ _ _ _ _ _
  have kp : ∀ b o, h.get? b = some o → ((h.push (kdv_tup rest)).push (excO C h.objs.size)).get? b = some o :=
    fun b o e => Heap.get?_push_of_some _ (Heap.get?_push_of_some _ e)
  have hC1 := kp _ _ hC
  have hg : ((h.push (kdv_tup rest)).push (excO C h.objs.size)).get? (h.objs.size + 1) = some (excO C h.objs.size) := by
    heap_get
  have hcC : (Value.ref C :: bm).contains (.ref C) = true := by simp
  have i1 := hi.keeps kp
  have b1 := (hb (.ref (h.objs.size + 1))).keeps kp
  unfold isInstance
  repeat (first
    | with_reducible refine wpAny_loadPart_at hg ?_
    | (with_reducible refine wpAny_isSubtype_exc hC1 ?_; rw [hcC])
    | wp_step)
  show wpAny _ _ (typeLookup (.ref C) _) _ _ _
  refine i1.at ?_
  refine wpAny_holding (wpAny_bind (b1.at ?_))
  refine wpAny_bind (wpAny_call (codeAny_mono hq fun r s' z => ?_))
  rcases r with e | (v | _ | _ | _) <;> first
    | exact z
    | exact z.elim
    | skip
  obtain ⟨rfl, z⟩ := z
  first
    | exact wpAny_pure (wpAny_pure z)
    | (wp_walk; exact z)
theorem call_kw (F : ExcBaseFacts B newId initId bmB) (hT : ∀ X : String, bm.contains (.type X) = bmB.contains (.type X)) {rest : List Value}
    {kw : List (Str × Value)} {fI : Addr} (hC : h.get? C = some (excClassObj nm q C N bs bm hdct sn sub ab col dd k0 k1 k2 k3 k5 newId))
    (hi : W.Looks (model prog w) h (typeLookup (.ref C) "__init__") (some (.ref fI)))
    (hb : ∀ self, W.Looks (model prog w) h (bindSpecial (.ref fI) self) (.ref fI, [self])) (hrest : rest.length ≤ sizeLine)
    (hq : codeAny (model prog w) (A.under (.builtin "type.__call__" ⟨.ref C :: rest, kw⟩)) (.call (.ref fI) ⟨.ref (h.objs.size + 1) :: rest, kw⟩)
      (W.InitBack (h.objs.size + 1) R) ⟨(h.push (kdv_tup rest)).push (excO C h.objs.size), g, d, t, os⟩) :
    codeAny (model prog w) A (.call (.ref C) ⟨rest, kw⟩) R ⟨h, g, d, t, os⟩ := by
  have f1 := tc_lookup
  have f2 := tc_bind (.ref C)
  have hTy : (⟨h, g, d, t, os⟩ : Shared).TypeIs (.ref C) "type" := ⟨_, hC, rfl⟩
  refine codeAny_of_tree ?_
  show wpAny _ _ (callAny (.ref C) _) _ _ _
  repeat (any_goals (first
    | assumption
    | with_reducible refine wpAny_loadPart_at hC ?_
    | wp_step))
  refine ⟨rfl, ?_⟩
  refine codeAny_call_builtin_at (Code.quiet_builtin _ (by decide +kernel)) entry_typeCall
    (wpAny_check_type_call_sub hC (tcall_kw F hT hC hi hb hrest ?_))
  refine codeAny_mono hq fun r s' z => ?_
  rcases r with e | (v | _ | _ | _) <;> exact z
end
end My

namespace My
open PySem PySem.W PySem.Calls PyProof.Rows PySem.HandSPX
/-! ### isinstance of an exception with a dict of its own -/
section
variable {prog : Program} {w : World} {A : Around} {E : Value → Shared → Prop} {s : Shared} {K : Frag} {x D : Addr} {ox : Obj} {od : Option Obj}
theorem kin_cls (T : L2.ExcC K D) (X : K.In s.heap) (I : InstAt s.heap x ox D od) {Q : Option Value → Shared → Prop}
    (h : Q (some (.ref D)) { s with toks := s.toks + 1 }) :
    wpAny (model prog w) A (getAttr? (.ref x) "__class__") Q E s := by
  have hf : findObj K D od "__class__" = some (.bind (.builtin "getset_descriptor.__get__") (.builtin "object.__class__")) := by
    obtain ⟨cd, hc, _⟩ := any_some T.hd
    unfold findObj
    rw [hc, Option.bind_some, T.ha, Option.bind_some]
    simp [T.hn, T.ht]
  obtain ⟨hp, g, d, t, os⟩ := s
  have L0 := I.type (M := model prog w)
  have L1 := looks_findIn (M := model prog w) X T.hg
  have L2 := looks_findIn (M := model prog w) X T.hk
  have L3 := looks_find (M := model prog w) X I hf
  have su : Looks (model prog w) hp (isInstance (.ref x) (.type "BaseException")) true := L0.andThen (looks_subIn X T.hs)
  have n0 : (false && onTheHeap (Value.builtin "BaseException.__getattribute__")) = false := rfl
  have n2 : (Value.builtin "BaseException.__getattribute__" == Value.builtin "object.__getattribute__") = false := by
    decide +kernel
  have n1 : (onTheHeap (Value.ref D) && Value.builtin "BaseException.__getattribute__" == Value.builtin "object.__getattribute__") = false := by
    rw [n2]; rfl
  unfold getAttr? getAttrBy? getAttrBy
  refine wpAny_bind (wpAny_mkText (wpAny_bind (wpAny_attempt (wpAny_holding (wpAny_bind (L0.at (wpAny_bind (L1.at ?_))))))))
  show wpAny _ _ (if (onTheHeap (Value.ref D) && Value.builtin "BaseException.__getattribute__" == Value.builtin "object.__getattribute__") = true
    then _ else _) _ _ _
  rw [n1, if_neg Bool.false_ne_true]
  unfold getAttrByItsOwn hookBefore
  refine wpAny_bind ?_
  rw [if_pos (show onTheHeap (Value.ref D) = true from rfl)]
  refine L2.at ?_
  refine wpAny_bind (wpAny_attempt (wpAny_holding ?_))
  unfold callGetattribute
  rw [n0, if_neg Bool.false_ne_true]
  unfold boundAndCalled
  rw [PySem.F.excAttr_ValueError.ga.bind (.ref x)]
  refine wpAny_bind (wpAny_pure ?_)
  show wpAny _ _ (call (.builtin "BaseException.__getattribute__") [.ref x, .str "__class__" t]) _ _ _
  refine wpAny_call (codeAny_call_builtin PySem.F.excAttr_ValueError.ga.plain PySem.F.entry_bexc_ga ?_)
  refine @check_slot (model prog w) _ _ ⟨hp, g, d, t + 1, os⟩ "BaseException.__getattribute__" "BaseException" "__getattribute__" (.ref x)
    [.str "__class__" t] [] _ (by decide +kernel) (by decide +kernel) su (PySem.F.args_bexc_ga (.ref x) (.str "__class__" t)) ?_
  unfold Builtin.«object.__getattribute__»
  refine wpAny_bind (wpAny_of_eq (a := ((Value.ref x : Value), [Value.str "__class__" t]))
    (by first | rfl | (simp only [slotArgs]; rfl)) ?_)
  refine wpAny_bind (wpAny_pure (wpAny_bind (L0.at (wpAny_bind (L3.at ?_)))))
  show wpAny _ _ (holding [Value.builtin "object.__class__"]
    (call (.builtin "getset_descriptor.__get__") [.builtin "object.__class__", .ref x, .ref D]) >>= ret) _ _ _
  refine wpAny_bind (wpAny_holding (wpAny_call (class_get (s := ⟨hp, g, d, t + 1, os⟩) (ox := ox) (od := od) X I T.hm ?_)))
  refine wpAny_pure ?_
  show wpAny _ _ (handedOut (.ref D)) _ _ _
  rw [handedOut_of (v := .ref D) rfl]
  first
    | exact wpAny_pure (wpAny_pure h)
    | exact wpAny_pure h
    | exact wpAny_pure (wpAny_bind (wpAny_pure (wpAny_pure h)))
theorem kitx_e (T : L2.ExcC K D) : KitX K (.ref x) (.ref D) (fun h => InstAt h x ox D od) where
  ty := fun _ _ _ I => I.type
  it := fun _ _ X _ => by
    obtain ⟨cd, hc, _⟩ := any_some T.hd
    unfold clsIn at hc
    split at hc
    · rename_i ho
      intro A' Q' E' s' k q
      unfold isType loadHead
      exact wpAny_bind (wpAny_loadPart (k _ _ (X _ _ ho)) (wpAny_pure q))
    · exact nomatch hc
  ne := fun h tp dd its n sl X htp => by
    obtain ⟨cd, hc, _⟩ := any_some T.hd
    refine Bool.eq_false_iff.mpr fun q => ?_
    have e : D = tp := Value.ref.inj (beq_iff_eq.mp q)
    subst e
    unfold clsIn at hc
    split at hc
    · rename_i ho
      exact nomatch (X _ _ ho).symm.trans htp
    · exact nomatch hc
  ca := fun X I k => kin_cls T X I k
end
end My

namespace My
open PySem PySem.W PySem.Calls PyProof.Rows PySem.HandSPX
/-! ### an own error class whose __init__ stores its one argument under its own name f -/
def eA (f : Str) (p1 p2 : Pos) : Arguments :=
  { posonlyargs := [], args := [{ arg := "self", annotation := none, pos := p1 }, { arg := f, annotation := none, pos := p2 }], vararg := none,
    kwonlyargs := [], kw_defaults := [], kwarg := none, defaults := [] }
def eB (f : Str) (q1 q2 q3 q4 : Pos) : List Stmt := [.Assign [.Attribute (.Name "self" q1) f q2] (.Name f q3) q4]
def eS (f : Str) : Scope :=
  { kind := .function, names := [(PySem.Str.ofString "self", .local), (f, .local)], isGenerator := false, isCoroutine := false, more := [] }
structure OneF (f : Str) : Prop where
  b1 : ∀ (qual : Str) (p1 p2 q1 q2 q3 q4 : Pos) (doc pm : Value) (an : Option Addr) (cdv ct x v : Value),
    bindArgs (fnOf "__init__" qual (eA f p1 p2) (eB f q1 q2 q3 q4) (eS f) .none .none doc pm an cdv ct) ⟨[x, v], []⟩ = pure [(("self" : Str), x), (f, v)]
  b2 : ∀ (qual : Str) (p1 p2 q1 q2 q3 q4 : Pos) (doc pm : Value) (an : Option Addr) (cdv ct x v : Value),
    bindArgs (fnOf "__init__" qual (eA f p1 p2) (eB f q1 q2 q3 q4) (eS f) .none .none doc pm an cdv ct) ⟨[x], [(f, v)]⟩ = pure [(("self" : Str), x), (f, v)]
  nd : (f == ("__debug__" : Str)) = false
  lk : (eS f).names.lookup f = some .local
  al : ∀ (x v : Value), ([(("self" : Str), x), (f, v)].all fun y =>
      List.lookup y.fst (eS f).names == some NameKind.local || List.lookup y.fst (eS f).names == some NameKind.cell) = true
  vs : ∀ (q : Str) (L a : Addr) (cd x v : Value), bindL (envOfC q (eS f) L a cd).kindOf [(("self" : Str), x), (f, v)] (fun _ => none) "self" = some x
  vf : ∀ (q : Str) (L a : Addr) (cd x v : Value), bindL (envOfC q (eS f) L a cd).kindOf [(("self" : Str), x), (f, v)] (fun _ => none) f = some v
  kf : ∀ (q : Str) (L a : Addr) (cd : Value), (envOfC q (eS f) L a cd).kindOf f = some .local
theorem oneF_level : OneF "level" := ⟨by intros; rfl, by intros; rfl, by decide +kernel, by decide +kernel, by intros; rfl, by intros; rfl, by intros; rfl, by intros; rfl⟩
structure ErrTxt (K : Frag) (mg : Str → Option Value) (cn f : Str) (C fI : Addr) : Prop where
  one : OneF f
  gC : mg cn = some (.ref C)
  cls : ∃ nm q N bs bm sn sub ab col dd k0 k1 k2 k3 k5,
    K.lookup C = some (excClassObj nm q C N bs bm true sn sub ab col dd k0 k1 k2 k3 k5 "ValueError.__new__") ∧ refsVE bm = true
  sa : findIn K (.ref C) "__setattr__" = some (some (.builtin "object.__setattr__"))
  ga : findIn K (.ref C) "__getattribute__" = some (some (.builtin "BaseException.__getattribute__"))
  gg : findIn K (.ref C) "__getattr__" = some none
  noN : findIn K (.ref C) f = some none
  iC : findIn K (.ref C) "__init__" = some (some (.ref fI))
  tC : typeIn K (.ref fI) = some (.type "function")
  kC : keepIn K (.ref C) = true
  exC : subIn K (.ref C) (.type "BaseException") = some true
  tyC : typeIn K (.ref C) = some (.type "type")
  hdC : hasDictIn K C = true
  fn : ∃ (oc : Value) (od : Option Addr) (q : Str) (doc pm : Value) (an : Option Addr) (cdv ct : Value) (osl : Array (Option Value)) (p1 p2 q1 q2 q3 q4 : Pos),
    K.lookup fI = some ⟨oc, od, .func (fnOf "__init__" q (eA f p1 p2) (eB f q1 q2 q3 q4) (eS f) .none .none doc pm an cdv ct), osl⟩ ∧ codeIn K cdv q = true
structure IEnd (h h' : Heap) (x C dx t1 : Addr) (f : Str) (v : Value) : Prop where
  keep : ∀ b o, b ≠ x → h.get? b = some o → h'.get? b = some o
  obj : h'.get? x = some { cls := .ref C, dict := some dx, data := .fields #[.ref t1, .none, .none, .none, .bool false, .none] }
  dbig : h.objs.size ≤ dx
  dne : dx ≠ x
  ns : h'.Ns1 dx (fun y => if y = f then some v else none)
structure EMade (h h' : Heap) (e C d : Addr) (f : Str) (v : Value) : Prop where
  keep : ∀ b o, h.get? b = some o → h'.get? b = some o
  new : h.objs.size ≤ e
  obj : ∃ t1, h'.get? e = some { cls := .ref C, dict := some d, data := .fields #[.ref t1, .none, .none, .none, .bool false, .none] }
  dbig : h.objs.size ≤ d
  dne : d ≠ e
  ns : h'.Ns1 d (fun y => if y = f then some v else none)
theorem size1 (v : Value) : [v].length ≤ sizeLine := by
  rw [sizeLine_eq]
  exact (by decide : 1 ≤ 16777216)
section
variable {prog : Program} {w : World} {A : Around} {E : Value → Shared → Prop} {R : Result → Shared → Prop} {s : Shared} {K : Frag} {mg : Str → Option Value} {cn f : Str} {C fI : Addr}
theorem err_init (T : ErrTxt K mg cn f C fI) {x t0 : Addr} {v : Value} {args : Args} (ha : args = ⟨[.ref x, v], []⟩ ∨ args = ⟨[.ref x], [(f, v)]⟩)
    (X : K.In s.heap) (hlim : s.heap.NoLimit) (hx : s.heap.get? x = some (excO C t0)) (hnx : K.lookup x = none) (hroom : A.depth < recursionLimit)
    (hq : ∀ h' tk dx, IEnd s.heap h' x C dx t0 f v → R (.ok (.ret .none)) { s with heap := h', toks := tk }) :
    codeAny (model prog w) A (.call (.ref fI) args) R s := by
  obtain ⟨oc, od, q0, doc, pm, an, cdv, ct, osl, p1, p2, q1, q2, q3, q4, ho, hcd⟩ := T.fn
  obtain ⟨nm, q, N, bs, bm, sn, sub, ab, col, dd, k0, k1, k2, k3, k5, hC, hbm⟩ := T.cls
  have hcl : clsIn K C = some { name := nm, bases := bs, mro := .ref C :: bm, ns := N, qualname := q, hasDict := true, slotNames := sn, subclasses := sub, abstract := ab, collection := col, hasDel := false } := by
    unfold clsIn
    rw [hC] <;> rfl
  have O := T.one
  have hb : BindsTo s (fnOf "__init__" q0 (eA f p1 p2) (eB f q1 q2 q3 q4) (eS f) .none .none doc pm an cdv ct) args [(("self" : Str), .ref x), (f, v)] := by
    rcases ha with rfl | rfl
    · exact BindsTo.of_eq (O.b1 ..)
    · exact BindsTo.of_eq (O.b2 ..)
  refine Att.call_fn (binds := [(("self" : Str), .ref x), (f, v)]) X hlim ho hcd hroom hb ?_ (fun s₁ IC => ?_) rfl rfl rfl
  · exact O.al _ _
  obtain ⟨h₁, tk₁, rfl⟩ := IC.toInCall.same
  have kp : ∀ b o, s.heap.get? b = some o → h₁.get? b = some o := IC.toInCall.keep
  have hn := IC.toInCall.ns
  have X1 : K.In h₁ := X.keeps kp
  have hx1 := kp _ _ hx
  show wpAny _ _ (execs _ _) _ _ _
  refine wpAny_execs_cons (plainObj_wpAny_Assign_Attribute ?_)
  refine wpAny_Name (wpAny_loadName_local rfl (O.kf ..) hn (O.vf ..) ?_) O.nd
  refine wpAny_Name (wpAny_loadName_local rfl rfl hn (O.vs ..) ?_)
  refine set_plain X1 (ox := excO C t0) (od := none) ⟨hx1, rfl, rfl, trivial⟩ T.sa ?_
  refine exc_osa X1 hx1 hcl (show refsVE (.ref C :: bm) = true from hbm) rfl T.noN (fun h3 tk3 dx k3 dn dne hx3 hn3 => ?_)
  show wpAny _ _ (execs _ _) _ _ _
  have z : s.heap.objs.size < h₁.objs.size := hn.lt
  exact wpAny_execs_nil (hq h3 tk3 dx ⟨fun b o hb e => k3 b o hb (kp b o e), hx3, Nat.le_of_lt (Nat.lt_of_lt_of_le z dn), dne, hn3⟩)
theorem err_made (T : ErrTxt K mg cn f C fI) {v : Value} {args : Args} (ha : args = ⟨[v], []⟩ ∨ args = ⟨[], [(f, v)]⟩) (X : K.In s.heap)
    (hlim : s.heap.NoLimit) (hroom : A.depth + 1 < recursionLimit)
    (hq : ∀ h' tk e d, EMade s.heap h' e C d f v → R (.ok (.ret (.ref e))) { s with heap := h', toks := tk }) :
    codeAny (model prog w) A (.call (.ref C) args) R s := by
  obtain ⟨nm, q, N, bs, bm, sn, sub, ab, col, dd, k0, k1, k2, k3, k5, hC, hbm⟩ := T.cls
  obtain ⟨hp, g, dr, tk, os⟩ := s
  obtain ⟨rest, kw, rfl, hr, ha'⟩ : ∃ rest kw, args = ⟨rest, kw⟩ ∧ rest.length ≤ sizeLine ∧ ∀ x : Value, (⟨x :: rest, kw⟩ : Args) = ⟨[x, v], []⟩ ∨ (⟨x :: rest, kw⟩ : Args) = ⟨[x], [(f, v)]⟩ := by
    rcases ha with rfl | rfl
    · exact ⟨_, _, rfl, size1 v, fun x => .inl rfl⟩
    · exact ⟨_, _, rfl, Nat.zero_le _, fun x => .inr rfl⟩
  have kp : ∀ b o, hp.get? b = some o → ((hp.push (kdv_tup rest)).push (excO C hp.objs.size)).get? b = some o :=
    fun b o e => Heap.get?_push_of_some _ (Heap.get?_push_of_some _ e)
  have hget : ((hp.push (kdv_tup rest)).push (excO C hp.objs.size)).get? (hp.objs.size + 1) = some (excO C hp.objs.size) := by heap_get
  have hnx : K.lookup (hp.objs.size + 1) = none := by
    cases e : K.lookup (hp.objs.size + 1) with
    | none => rfl
    | some o =>
      have z : hp.get? (hp.objs.size + 1) = some o := X _ _ e
      exact absurd (Nat.lt_of_succ_lt (Heap.lt_size z)) (Nat.lt_irrefl _)
  refine call_kw F.excBase_ValueError (fun X => refsVE_contains X bm hbm) (X _ _ hC) (looks_findIn X T.iC) (fun self => bind_fn X self T.tC) hr ?_
  refine err_init (s := ⟨(hp.push (kdv_tup rest)).push (excO C hp.objs.size), g, dr, tk, os⟩) T (ha' _) (X.keeps kp) (hlim.keeps kp) hget hnx ?_ fun h' tk' dx ⟨k', hx, dn, dne, hns⟩ => ?_
  · show A.depth + 1 < recursionLimit
    exact hroom
  · have old : ∀ b o, hp.get? b = some o → h'.get? b = some o :=
      fun b o e => k' b o (Nat.ne_of_lt (Nat.lt_succ_of_lt (Heap.lt_size e))) (kp b o e)
    have z : hp.objs.size + 1 + 1 ≤ dx := by
      first
        | (simpa only [Heap.size_push] using dn)
        | exact dn
    exact ⟨rfl, hq h' tk' (hp.objs.size + 1) dx ⟨old, Nat.le_succ _, ⟨_, hx⟩, Nat.le_trans (Nat.le_trans (Nat.le_succ _) (Nat.le_succ _)) z, dne, hns⟩⟩
end
end My

namespace My
open PySem PySem.Spec PyProof.Rows L2
/-- an error of the class C that is a value; its dict -/
def ExD (C : Addr) (d : Option Addr) (a : Addr) : HO :=
  .ext fun h => ∃ t1, h.get? a = some { cls := .ref C, dict := d, data := .fields #[.ref t1, .none, .none, .none, .bool false, .none] }
theorem exD_ok {P : Program} {w : World} {H : Hp} {h : Heap} {a C t1 : Addr} {d : Option Addr}
    (e : h.get? a = some { cls := .ref C, dict := d, data := .fields #[.ref t1, .none, .none, .none, .bool false, .none] }) : ObjOk P w H h a (ExD C d a) :=
  ⟨⟨t1, e⟩, ⟨_, e⟩, fun _ _ ⟨t, q⟩ k => ⟨t, k _ q⟩⟩
theorem relO_f {v : V} {v' : Value} {f : Str} (r : RelV v v') (g : Str) : RelO (List.lookup g [((f : Str), v)]) (if g = f then some v' else none) := by
  by_cases h : g = f
  · subst h
    rw [if_pos rfl]
    have q : List.lookup g [((g : Str), v)] = some v := by simp [List.lookup]
    rw [q]
    exact r
  · rw [if_neg h]
    have q1 : (g == f) = false := by simpa using h
    have q2 : List.lookup g [((f : Str), v)] = none := by simp [List.lookup, q1]
    rw [q2]
    trivial
section
variable {X : Cx} {C fI : Addr} {cn f : Str}
/-- C(e), C(f = e): a new error as a value -/
def tErr (C : Addr) (f : Str) (t : TA) : TE := fun σ H Q => t σ H fun vs H1 => ∃ v, vs = [v] ∧
  ∀ a d, H1 a = none → H1 d = none → a ≠ d → Q (.ref a) (upd (upd H1 d (.xd [(f, v)])) a (ExD C (some d) a))
theorem err_run (T : ErrTxt X.K X.mg cn f C fI) {k : Nat} (hr : Room k X.A) {pins : List (Addr × Obj)} {σ : L2.St} {H : Hp} {s : Shared} {Q : VK} {v : V} {u : Value} {us : List Value} {ks : List (Str × Value)}
    (hu : (us = [u] ∧ ks = []) ∨ (us = [] ∧ ks = [(f, u)])) (I : Inv X pins σ H s) (rv : RelV v u)
    (h : ∀ a d, H a = none → H d = none → a ≠ d → Q (.ref a) (upd (upd H d (.xd [(f, v)])) a (ExD C (some d) a))) :
    wpAny (model X.prog X.w) X.A (call (.ref C) us ks) (EP X pins σ Q) X.xe s := by
  have ha : (⟨us, ks⟩ : Args) = ⟨[u], []⟩ ∨ (⟨us, ks⟩ : Args) = ⟨[], [(f, u)]⟩ := by
    rcases hu with ⟨rfl, rfl⟩ | ⟨rfl, rfl⟩
    · exact .inl rfl
    · exact .inr rfl
  have hlim := I.nolimit
  obtain ⟨hp, g, dr, tk, os⟩ := s
  refine wpAny_call (err_made T ha I.kIn hlim (by have := hr.dp; omega) fun h' tk' e d M => ?_)
  obtain ⟨t1, ho⟩ := M.obj
  obtain ⟨G', g1, g2⟩ := restrict h' fun b => decide (b ≠ e)
  have gk : ∀ b, b ≠ e → G'.get? b = h'.get? b := fun b hb => g1 b (decide_eq_true hb)
  have ge : G'.get? e = none := g2 e (by simp)
  have old : ∀ b o, hp.get? b = some o → G'.get? b = some o := fun b o q =>
    (gk b (Nat.ne_of_lt (Nat.lt_of_lt_of_le (Heap.lt_size q) M.new))).trans (M.keep b o q)
  have ob : ObjOk X.prog X.w (upd H d (.xd [(f, v)])) G' d (.xd [(f, v)]) :=
    ⟨_, M.ns.at (fun o q => (gk d M.dne).trans q), fun y => relO_f rv y⟩
  have J : Inv X pins σ (upd H d (.xd [(f, v)])) ⟨G', g, dr, tk', os⟩ := I.laid (t' := tk') old M.dbig ob
  have he0 : H e = none := I.hok.fresh M.new
  have hd0 : H d = none := I.hok.fresh M.dbig
  have sub : ∀ b o, G'.get? b = some o → h'.get? b = some o := fun b o q => by
    by_cases hb : b = e
    · rw [hb, ge] at q; cases q
    · exact (gk b hb).symm.trans q
  have J2 := J.laidN (t' := tk') (a := e) (o := ExD C (some d) e) sub ge (by rw [upd_ne (Ne.symm M.dne)]; exact he0) (exD_ok ho)
  exact ⟨.ref e, _, J2, rfl, h e d he0 hd0 (Ne.symm M.dne)⟩
theorem pe_err {a : Expr} {ta : TA} {p pos : Pos} {k : Nat} (T : ErrTxt X.K X.mg cn f C fI) (hr : Room k X.A) (ha : PA X [a] ta) (hg : Gl X cn)
    (hdb : (cn == ("__debug__" : Str)) = false := by decide)
    (he : starEach (a :: []) X.env = (false, eval a X.env) :: starEach [] X.env := by rfl) (hpl : (backTo pos (starEach [] X.env)).any (·.1) = false := by rfl) :
    PE X (.Call (.Name cn p) [a] [] pos) (tErr C f ta) := by
  refine ⟨fun pins s σ H Q I h => ?_⟩
  refine wpAny_Call_Name_kw (ld_glob I hg T.gC ?_ hdb)
  refine PySem.W.callWith_K (h₀ := X.base) I.ok.mod.kin T.kC (thn (ha.run pos pins s σ H _ I h) fun us s1 hh => ?_) he hpl
  obtain ⟨vs, H1, I1, r1, v, ev, q1⟩ := hh
  subst ev
  refine ⟨I1.kIn, ?_⟩
  cases r1 with
  | cons rv rn =>
    cases rn
    exact err_run T hr (.inl ⟨rfl, rfl⟩) I1 rv q1
theorem pe_errK {kws : List Keyword} {tk : TA} {p pos : Pos} {k : Nat} (T : ErrTxt X.K X.mg cn f C fI) (hr : Room k X.A) (ha : PK X kws tk) (hg : Gl X cn)
    (hall : (backToKw pos (keywordEach kws X.env)).all (·.1.isSome) = true := by rfl)
    (hks : (backToKw pos (keywordEach kws X.env)).filterMap (·.1) = [f] := by rfl)
    (hdb : (cn == ("__debug__" : Str)) = false := by decide)
    (hpl : ((backTo pos (starEach [] X.env)).any (·.1) || (backToKw pos (keywordEach kws X.env)).any (·.1.isNone)) = false := by rfl) :
    PE X (.Call (.Name cn p) [] kws pos) (tErr C f tk) := by
  refine ⟨fun pins s σ H Q I h => ?_⟩
  refine wpAny_Call_Name_kw (ld_glob I hg T.gC ?_ hdb)
  refine PySem.W.callWith_KW0 (h₀ := X.base) I.ok.mod.kin T.kC hall (thn (ha.run pos pins s σ H _ I h) fun us s1 hh => ?_) hpl
  obtain ⟨vs, H1, I1, r1, v, ev, q1⟩ := hh
  subst ev
  refine ⟨I1.kIn, ?_⟩
  rw [hks]
  cases r1 with
  | cons rv rn =>
    cases rn
    exact err_run T hr (.inr ⟨rfl, rfl⟩) I1 rv q1
/-- e.f of such an error -/
def tErrF (C : Addr) (f : Str) (te : TE) : TE := fun σ H Q => te σ H fun x H1 => ∃ (a d : Addr) (v : V), x = .ref a ∧ H1 a = some (ExD C (some d) a) ∧ H1 d = some (.xd [(f, v)]) ∧ Q v H1
theorem pe_errF {e : Expr} {te : TE} {pos : Pos} (T : ErrTxt X.K X.mg cn f C fI) (he : PE X e te)
    (hb : attributeBase e f X.env (eval e X.env) = eval e X.env := by rfl) : PE X (.Attribute e f pos) (tErrF C f te) := by
  refine ⟨fun pins s σ H Q I h => ?_⟩
  refine attr_of hb (thn (he.run pins s σ H _ I h) fun u s1 hh => ?_)
  obtain ⟨x, H1, I1, rx, a, d, v, rfl, ea, ed, q⟩ := hh
  obtain rfl : u = Value.ref a := rx
  obtain ⟨⟨t1, ho⟩, _⟩ := (show ObjOk X.prog X.w H1 s1.heap a (ExD C (some d) a) from I1.hok a _ ea)
  obtain ⟨mA, hns, hr⟩ := (show ObjOk X.prog X.w H1 s1.heap d (.xd [(f, v)]) from I1.hok d _ ed)
  obtain ⟨od, hod, hl⟩ := lookIn_ns hns
  have l : List.lookup f [((f : Str), v)] = some v := by simp [List.lookup]
  obtain ⟨u, hu, ru⟩ := RelO.some_of (v := v) (o := mA f) (by rw [← l]; exact hr f)
  have J : PySem.W.InstAt s1.heap a _ C (some od) := ⟨ho, rfl, rfl, hod⟩
  exact HandSPX.exc_get I1.kIn J T.ga T.gg T.exC (PySem.W.findObj_own T.hdC T.noN rfl (by rw [hl, hu])) (handed_of ru) ⟨v, H1, I1.tok _, ru, q⟩
/-- isinstance(e, c) of such an error -/
def rIsD (K : PySem.W.Frag) : List V → Hp → VK → Prop := fun xs H Q => ∃ (a C : Addr) (d : Option Addr) (c : V) (u : Value) (b : Bool), xs = [.ref a, c] ∧ ClsV c u ∧ H a = some (ExD C d a) ∧
  (∀ dd, d = some dd → ∃ fs, H dd = some (.xd fs)) ∧ ExcC K C ∧ PySem.W.kitOne K (.ref C) u = some b ∧ Q (.bl b) H
theorem call_isD : CallR X (.builtin "isinstance") (rIsD X.K) := by
  intro pins s σ H xs us Q I r h
  obtain ⟨a, C, d, c, u, b, rfl, k, ea, ed, T, e, q⟩ := h
  obtain ⟨u1, u2, rfl, r1, r2⟩ := vals2 r
  have e2 := k.eq r2
  subst e2
  obtain rfl : u1 = Value.ref a := r1
  obtain ⟨⟨t1, ho⟩, _⟩ := (show ObjOk X.prog X.w H s.heap a (ExD C d a) from I.hok a _ ea)
  obtain ⟨od, J⟩ : ∃ od, PySem.W.InstAt s.heap a { cls := .ref C, dict := d, data := .fields #[.ref t1, .none, .none, .none, .bool false, .none] } C od := by
    cases d with
    | none => exact ⟨none, ho, rfl, rfl, trivial⟩
    | some dd =>
      obtain ⟨fs, hd⟩ := ed dd rfl
      obtain ⟨mA, hns, _⟩ := (show ObjOk X.prog X.w H s.heap dd (.xd fs) from I.hok dd _ hd)
      obtain ⟨od, hod, _⟩ := lookIn_ns hns
      exact ⟨some od, ho, rfl, rfl, hod⟩
  exact PySem.W.kia_one (kitx_e T) I.kIn J e (fun z => nomatch z) fun tk => ⟨.bl b, H, I.tok tk, rfl, q⟩
end
end My

namespace My
open PySem PySem.W PySem.Calls PyProof.Rows PySem.HandSPX
/-! ### an own error class whose __init__ does nothing -/
def cA (p1 : Pos) : Arguments :=
  { posonlyargs := [], args := [{ arg := "self", annotation := none, pos := p1 }], vararg := none,
    kwonlyargs := [], kw_defaults := [], kwarg := none, defaults := [] }
def cB (q1 : Pos) : List Stmt := [.Pass q1]
def cS : Scope :=
  { kind := .function, names := [(PySem.Str.ofString "self", .local)], isGenerator := false, isCoroutine := false, more := [] }
structure NilTxt (K : Frag) (mg : Str → Option Value) (cn : Str) (C fI : Addr) : Prop where
  gC : mg cn = some (.ref C)
  cls : ∃ nm q N bs bm sn sub ab col dd k0 k1 k2 k3 k5,
    K.lookup C = some (excClassObj nm q C N bs bm true sn sub ab col dd k0 k1 k2 k3 k5 "ValueError.__new__") ∧ refsVE bm = true
  iC : findIn K (.ref C) "__init__" = some (some (.ref fI))
  tC : typeIn K (.ref fI) = some (.type "function")
  kC : keepIn K (.ref C) = true
  exC : subIn K (.ref C) (.type "BaseException") = some true
  tyC : typeIn K (.ref C) = some (.type "type")
  fn : ∃ (oc : Value) (od : Option Addr) (q : Str) (doc pm : Value) (an : Option Addr) (cdv ct : Value) (osl : Array (Option Value)) (p1 q1 : Pos),
    K.lookup fI = some ⟨oc, od, .func (fnOf "__init__" q (cA p1) (cB q1) cS .none .none doc pm an cdv ct), osl⟩ ∧ codeIn K cdv q = true
structure NMade (h h' : Heap) (e C : Addr) : Prop where
  keep : ∀ b o, h.get? b = some o → h'.get? b = some o
  new : h.objs.size ≤ e
  obj : ∃ t1, h'.get? e = some { cls := .ref C, dict := none, data := .fields #[.ref t1, .none, .none, .none, .bool false, .none] }
section
variable {prog : Program} {w : World} {A : Around} {E : Value → Shared → Prop} {R : Result → Shared → Prop} {s : Shared} {K : Frag} {mg : Str → Option Value} {cn f : Str} {C fI : Addr}
theorem nil_made (T : NilTxt K mg cn C fI) (X : K.In s.heap) (hlim : s.heap.NoLimit) (hroom : A.depth + 1 < recursionLimit)
    (hq : ∀ h' tk e, NMade s.heap h' e C → R (.ok (.ret (.ref e))) { s with heap := h', toks := tk }) :
    codeAny (model prog w) A (.call (.ref C) ⟨[], []⟩) R s := by
  obtain ⟨nm, q, N, bs, bm, sn, sub, ab, col, dd, k0, k1, k2, k3, k5, hC, hbm⟩ := T.cls
  obtain ⟨oc, od, q0, doc, pm, an, cdv, ct, osl, p1, q1, ho, hcd⟩ := T.fn
  obtain ⟨hp, g, dr, tk, os⟩ := s
  have kp : ∀ b o, hp.get? b = some o → ((hp.push (kdv_tup [])).push (excO C hp.objs.size)).get? b = some o :=
    fun b o e => Heap.get?_push_of_some _ (Heap.get?_push_of_some _ e)
  have hget : ((hp.push (kdv_tup [])).push (excO C hp.objs.size)).get? (hp.objs.size + 1) = some (excO C hp.objs.size) := by heap_get
  refine call_kw F.excBase_ValueError (fun X => refsVE_contains X bm hbm) (X _ _ hC) (looks_findIn X T.iC) (fun self => bind_fn X self T.tC) (Nat.zero_le _) ?_
  refine Att.call_fn (binds := [(("self" : Str), .ref (hp.objs.size + 1))]) (s := ⟨(hp.push (kdv_tup [])).push (excO C hp.objs.size), g, dr, tk, os⟩) (X.keeps kp) (hlim.keeps kp) ho hcd
    (by show A.depth + 1 < recursionLimit; exact hroom) (BindsTo.of_eq (by first | rfl | with_unfolding_all rfl)) (by first | rfl | decide) (fun s₁ IC => ?_) rfl rfl rfl
  obtain ⟨h₁, tk₁, rfl⟩ := IC.toInCall.same
  have k1 := IC.toInCall.keep
  show wpAny _ _ (execs _ _) _ _ _
  refine wpAny_execs_cons (wpAny_Pass ?_)
  show wpAny _ _ (execs _ _) _ _ _
  refine wpAny_execs_nil ?_
  exact ⟨rfl, hq h₁ tk₁ (hp.objs.size + 1) ⟨fun b o e => k1 b o (kp b o e), Nat.le_succ _, ⟨_, k1 _ _ hget⟩⟩⟩
end
end My
namespace My
open PySem PySem.Spec PyProof.Rows L2
section
variable {X : Cx} {C fI : Addr} {cn f : Str}
def tErr0 (C : Addr) : TE := fun _ H Q => ∀ a, H a = none → Q (.ref a) (upd H a (ExD C none a))
theorem pe_err0 {p pos : Pos} {k : Nat} (T : NilTxt X.K X.mg cn C fI) (hr : Room k X.A) (hg : Gl X cn)
    (hdb : (cn == ("__debug__" : Str)) = false := by decide)
    (hall : (backToKw pos (keywordEach [] X.env)).all (·.1.isSome) = true := by rfl)
    (hpl : ((backTo pos (starEach [] X.env)).any (·.1) || (backToKw pos (keywordEach [] X.env)).any (·.1.isNone)) = false := by rfl) :
    PE X (.Call (.Name cn p) [] [] pos) (tErr0 C) := by
  refine ⟨fun pins s σ H Q I h => ?_⟩
  refine wpAny_Call_Name_kw (ld_glob I hg T.gC ?_ hdb)
  refine PySem.W.callWith_KW0 (h₀ := X.base) I.ok.mod.kin T.kC hall ?_ hpl
  show wpAny _ _ (evalAll []) _ _ _
  refine wpAny_pure ⟨I.kIn, ?_⟩
  show wpAny _ _ (call (.ref C) [] []) _ _ _
  have hlim := I.nolimit
  obtain ⟨hp, g, dr, tk, os⟩ := s
  refine wpAny_call (nil_made T I.kIn hlim (by have := hr.dp; omega) fun h' tk' e M => ?_)
  obtain ⟨t1, ho⟩ := M.obj
  have J := I.laid (t' := tk') (a := e) (o := ExD C none e) M.keep M.new (exD_ok ho)
  exact ⟨.ref e, _, J, rfl, h e (I.hok.fresh M.new)⟩
/-! ### raising them -/
def tMkE (C : Addr) (f : Str) (ta : TA) : L2.St → Hp → XK → Prop := fun σ H Q => ta σ H fun vs H1 => ∃ v, vs = [v] ∧ ∀ d, H1 d = none → Q (.ref C) (some d) (upd H1 d (.xd [(f, v)]))
theorem pmk_err {a : Expr} {ta : TA} {p pos : Pos} {k : Nat} (T : ErrTxt X.K X.mg cn f C fI) (hr : Room k X.A) (ha : PA X [a] ta) (hg : Gl X cn)
    (hdb : (cn == ("__debug__" : Str)) = false := by decide)
    (he : starEach (a :: []) X.env = (false, eval a X.env) :: starEach [] X.env := by rfl) (hpl : (backTo pos (starEach [] X.env)).any (·.1) = false := by rfl) :
    L2.PMk X (.Call (.Name cn p) [a] [] pos) (tMkE C f ta) := by
  intro pins s σ H Q I h
  refine wpAny_Call_Name_kw (ld_glob I hg T.gC ?_ hdb)
  refine PySem.W.callWith_K (h₀ := X.base) I.ok.mod.kin T.kC (thn (ha.run pos pins s σ H _ I h) fun us s1 hh => ?_) he hpl
  obtain ⟨vs, H1, I1, r1, v, ev, q1⟩ := hh
  subst ev
  refine ⟨I1.kIn, ?_⟩
  cases r1 with
  | cons rv rn =>
    cases rn
    rename_i u
    have hlim := I1.nolimit
    obtain ⟨hp, g, dr, tk, os⟩ := s1
    refine wpAny_call (err_made T (.inl rfl) I1.kIn hlim (by have := hr.dp; omega) fun h' tk' e d M => ?_)
    obtain ⟨t1, ho⟩ := M.obj
    obtain ⟨G', g1, g2⟩ := restrict h' fun b => decide (b ≠ e)
    have gk : ∀ b, b ≠ e → G'.get? b = h'.get? b := fun b hb => g1 b (decide_eq_true hb)
    have ge : G'.get? e = none := g2 e (by simp)
    have old : ∀ b o, hp.get? b = some o → G'.get? b = some o := fun b o q =>
      (gk b (Nat.ne_of_lt (Nat.lt_of_lt_of_le (Heap.lt_size q) M.new))).trans (M.keep b o q)
    have ob : ObjOk X.prog X.w (upd H1 d (.xd [(f, v)])) G' d (.xd [(f, v)]) :=
      ⟨_, M.ns.at (fun o q => (gk d M.dne).trans q), fun y => relO_f rv y⟩
    have J : Inv X pins σ (upd H1 d (.xd [(f, v)])) ⟨G', g, dr, tk', os⟩ := I1.laid (t' := tk') old M.dbig ob
    have sub : ∀ b o, G'.get? b = some o → h'.get? b = some o := fun b o q => by
      by_cases hb : b = e
      · rw [hb, ge] at q; cases q
      · exact (gk b hb).symm.trans q
    refine ⟨e, _, _, ⟨G', g, dr, tk', os⟩, _, .ref C, some d, rfl, J, sub, ge, ho, ⟨rfl, rfl⟩, rfl, rfl, ?_, rfl, I1.bare, raises_own T.exC T.tyC, q1 d (I1.hok.fresh M.dbig)⟩
    rw [upd_ne (Ne.symm M.dne)]
    exact I1.hok.fresh M.new
theorem pmk_nil {p pos : Pos} {k : Nat} (T : NilTxt X.K X.mg cn C fI) (hr : Room k X.A) (hg : Gl X cn)
    (hdb : (cn == ("__debug__" : Str)) = false := by decide)
    (hall : (backToKw pos (keywordEach [] X.env)).all (·.1.isSome) = true := by rfl)
    (hpl : ((backTo pos (starEach [] X.env)).any (·.1) || (backToKw pos (keywordEach [] X.env)).any (·.1.isNone)) = false := by rfl) :
    L2.PMk X (.Call (.Name cn p) [] [] pos) (fun _ H Q => Q (.ref C) none H) := by
  intro pins s σ H Q I h
  refine wpAny_Call_Name_kw (ld_glob I hg T.gC ?_ hdb)
  refine PySem.W.callWith_KW0 (h₀ := X.base) I.ok.mod.kin T.kC hall ?_ hpl
  show wpAny _ _ (evalAll []) _ _ _
  refine wpAny_pure ⟨I.kIn, ?_⟩
  show wpAny _ _ (call (.ref C) [] []) _ _ _
  have hlim := I.nolimit
  obtain ⟨hp, g, dr, tk, os⟩ := s
  refine wpAny_call (nil_made T I.kIn hlim (by have := hr.dp; omega) fun h' tk' e M => ?_)
  obtain ⟨t1, ho⟩ := M.obj
  have ne : hp.get? e = none := by
    cases q : hp.get? e with
    | none => rfl
    | some o => exact absurd (Heap.lt_size q) (Nat.not_lt.mpr M.new)
  exact ⟨e, _, _, ⟨hp, g, dr, tk', os⟩, H, .ref C, none, rfl, I.tok tk', M.keep, ne, ho, ⟨rfl, rfl⟩, rfl, rfl, I.hok.fresh M.new, rfl, I.bare, raises_own T.exC T.tyC, h⟩
end
end My

namespace My
open PySem PySem.Spec PyProof.Rows L2
open L2H (RoomH PinOk cxH inv_startH)
/-! ### a def that is called within an except suite with the exception that is handled -/
structure FnZ (P : Program) (w : World) (K : PySem.W.Frag) (mg : Str → Option Value) (base : Heap) (k : Nat) (f : Addr) (fd : FuncData) (ps : List Str)
    (cls : Value) (d : Option Addr) (sp : Addr → Sp) : Prop where
  len : ∀ a vs H Q E, sp a vs H Q E → vs.length = ps.length
  run : ∀ (A : Around) (outer : List Env) (s : Shared) (H : Hp) (args : Args) (us : List Value) (vs : List V) (Q : VK) (p : Addr × Obj), RoomH k A → Zc cls d p.2 → (∃ fv, p.2.data = .fields fv) →
    PinOk outer H s p → Env0 P w K mg base A outer s H → BindsTo s fd args (ps.zip us) → Vals vs us → sp p.1 vs H Q E0 →
    codeAny (model P w) A (.call (.ref f) args) (CR CX0 outer P w H s Q E0) s
theorem Fun.okZ {P : Program} {w : World} {K : PySem.W.Frag} {mg : Str → Option Value} {base : Heap} {x qual : Str} {st : Stmt} {f : Addr} {fd : FuncData} {N ps : List Str} {k : Nat}
    {cls : Value} {d : Option Addr} {sp : Addr → Sp} (F : Fun K x qual st f fd) (S : FnScope N ps (defScope st)) (len : ∀ a vs H Q E, sp a vs H Q E → vs.length = ps.length)
    (hbody : ∀ (cdv : Value) (A : Around) (outer : List Env) (s : Shared) (H : Hp) (vs : List V) (Q : VK) (p : Addr × Obj), Zc cls d p.2 → (∃ fv, p.2.data = .fields fv) →
      RoomH k (A.deeper (envOfC qual (defScope st) s.heap.objs.size f cdv)) → sp p.1 vs H Q E0 →
      ∃ t, PSs (cxH CX0 P w K mg base N qual (defScope st) f cdv A outer s H E0 p) (defBody st) t ∧ t { nx := fun _ H' => Q .non H', rt := Q } (L2.start N vs) H) :
    FnZ P w K mg base (k + 1) f fd ps cls d sp := by
  obtain ⟨oc, od, kV, doc, pm, an, cdv, ct, osl, rfl, lk, hcd⟩ := F.ex
  refine ⟨len, fun A outer s H args us vs Q p hr hz hf hpin e0 hb r hsp => ?_⟩
  have hl := len _ _ _ _ _ hsp
  have KX : K.In s.heap := e0.mod.kin.keeps fun b o e => (e0.bs b o e).1
  have lim : s.heap.NoLimit := e0.mod.nolimit.keeps fun b o e => (e0.bs b o e).1
  have hkind : ∀ y ∈ ps.zip us, (defScope st).names.lookup y.1 = some .local ∨
      ((defScope st).names.lookup y.1 = some .cell ∧ ((cellsFrom (s.heap.objs.size + 1) (defScope st).names []).lookup y.1).isSome = true) := by
    rintro ⟨n, v⟩ hy
    rcases S.par n (List.of_mem_zip hy).1 with q | q
    · exact .inl q
    · exact .inr ⟨q, PySem.W.cellsFrom_some _ _ _ (.inl q)⟩
  refine codeAny_call_function hr.depth (KX _ _ lk) rfl S.co S.gen rfl (PySem.W.codeRec_of KX hcd) (hb _ _ _ _ ?_)
  refine wpAny_newFunctionEnv_cells S.kind hkind fun env he s1 x => ?_
  subst he
  refine ⟨lim.keeps x.toInCall.keep, codeAny_func ?_⟩
  obtain ⟨t, ht, hq⟩ := hbody cdv A outer s H vs Q p hz hf (hr.deeper _) hsp
  have I := inv_startH (CX := CX0) (E := E0) S hpin e0 hl r x
  refine wpAny_mono (ht.run [] s1 (L2.start N vs) H _ I hq) (fun fl s' hs => ?_) fun e s' hs => hs
  cases fl with
  | ret u =>
    obtain ⟨v, σ', H', J, rv, q⟩ := hs
    exact ⟨v, H', J.os, J.bare, J.base, J.hok, rv, q⟩
  | next =>
    obtain ⟨σ', H', J, q⟩ := hs
    exact ⟨V.non, H', J.os, J.bare, J.base, J.hok, rfl, q⟩
  | brk =>
    obtain ⟨_, _, _, q⟩ := hs
    exact q.elim
  | cont =>
    obtain ⟨_, _, _, q⟩ := hs
    exact q.elim
section
variable {X : Cx} {k : Nat} {f a : Addr} {oe : Obj} {pn : List (Addr × Obj)} {fd : FuncData} {ps : List Str} {sp : Addr → Sp} {cls : Value} {d : Option Addr} {x : Str} {q pos : Pos} {e : Expr} {es : List Expr} {t : TA}
def tCallZ (sp : Sp) (t : TA) : TE := fun σ H Q => t σ H fun vs H1 => sp vs H1 Q E0
theorem pe_callZ (F : FnZ X.prog X.w X.K X.mg X.base k f fd ps cls d sp) (hz : Zc cls d oe) (hf : ∃ fv, oe.data = .fields fv) (hr : RoomH k (X.suite a ((a, oe) :: pn)).A) (hg : Gl X x) (hm : X.mg x = some (.ref f))
    (hk : PySem.W.keepIn X.K (.ref f) = true) (hb : Binds X.K fd ps []) (ha : PA (X.suite a ((a, oe) :: pn)) (e :: es) t) (hdb : (x == ("__debug__" : Str)) = false := by decide)
    (he : starEach (e :: es) X.env = (false, eval e X.env) :: starEach es X.env := by rfl) (hpl : (backTo pos (starEach es X.env)).any (·.1) = false := by rfl) :
    PE (X.suite a ((a, oe) :: pn)) (.Call (.Name x q) (e :: es) [] pos) (tCallZ (sp a) t) := by
  refine ⟨fun pins s σ H Q I h => ?_⟩
  refine wpAny_Call_Name_kw (ld_glob I hg hm ?_ hdb)
  refine PySem.W.callWith_K (h₀ := X.base) I.ok.mod.kin hk (thn (ha.run pos pins s σ H _ I h) fun us s1 ⟨vs, H1, I1, r, hq⟩ => ⟨I1.kIn, ?_⟩) he hpl
  have hl : us.length = ps.length := by rw [← r.length]; exact F.len _ _ _ _ _ hq
  have b := hb s1 us I1.kIn (by rw [List.append_nil]; exact hl)
  rw [List.append_nil] at b
  have P1 := I1.pin (a, oe) (List.mem_append_left _ List.mem_cons_self)
  have hpin : PinOk X.stack H1 s1 (a, oe) :=
    ⟨P1.1, P1.2.1, fun hm => (List.mem_cons.mp (I1.stkSub a hm)).elim P1.2.2.1 P1.2.2.2.1, P1.2.2.2.2⟩
  refine wpAny_call (codeAny_mono (F.run _ X.stack s1 H1 ⟨us, []⟩ us vs Q (a, oe) hr hz hf hpin I1.env0 b r hq) fun r s' hq => ?_)
  cases r with
  | error e =>
    exact (pass0 (X := X.suite a ((a, oe) :: pn)) pins σ _ _ e s' I1 hq)
  | ok fl =>
    cases fl with
    | ret u => exact I1.after hq
    | next => exact hq.elim
    | brk => exact hq.elim
    | cont => exact hq.elim
/-- isinstance of a pinned exception -/
def rIsP (K : PySem.W.Frag) (D a : Addr) (d : Option Addr) : List V → Hp → VK → Prop := fun xs H Q => ∃ (c : V) (u : Value) (b : Bool), xs = [.ref a, c] ∧ ClsV c u ∧
  (∀ dd, d = some dd → ∃ fs, H dd = some (.xd fs)) ∧ ExcC K D ∧ PySem.W.kitOne K (.ref D) u = some b ∧ Q (.bl b) H
theorem call_isP {D : Addr} (hp : (a, oe) ∈ X.pn) (hz : Zc (.ref D) d oe) (hf : ∃ fv, oe.data = .fields fv) : CallR X (.builtin "isinstance") (rIsP X.K D a d) := by
  intro pins s σ H xs us Q I r h
  obtain ⟨c, u, b, rfl, k, ed, T, e, q⟩ := h
  obtain ⟨u1, u2, rfl, r1, r2⟩ := vals2 r
  have e2 := k.eq r2
  subst e2
  obtain rfl : u1 = Value.ref a := r1
  have ho := (I.pin (a, oe) (List.mem_append_left _ hp)).1
  obtain ⟨od, J⟩ : ∃ od, PySem.W.InstAt s.heap a oe D od := by
    obtain ⟨fv, hv⟩ := hf
    obtain ⟨h1, h2⟩ := hz
    have hn : PySem.W.notCls oe = true := by unfold PySem.W.notCls; rw [hv] <;> rfl
    cases d with
    | none => exact ⟨none, ho, h1, hn, by rw [h2]; trivial⟩
    | some dd =>
      obtain ⟨fs, hd⟩ := ed dd rfl
      obtain ⟨mA, hns, _⟩ := (show ObjOk X.prog X.w H s.heap dd (.xd fs) from I.hok dd _ hd)
      obtain ⟨od, hod, _⟩ := lookIn_ns hns
      exact ⟨some od, ho, h1, hn, by rw [h2]; exact hod⟩
  exact PySem.W.kia_one (kitx_e T) I.kIn J e (fun z => nomatch z) fun tk => ⟨.bl b, H, I.tok tk, rfl, q⟩
end
end My

namespace My
open PySem PySem.Spec PyProof.Rows L2
/-- dict(zip(ks, xs)): two lists, the first one of texts -/
def tDZ (K : PySem.W.Frag) (t : TA) : TE := fun σ H Q => t σ H fun vs H1 => ∃ (a b : Addr) (ks : List Str) (xs : List V), vs = [.ref a, .ref b] ∧ SqL K H1 a (ks.map V.str) ∧ SqL K H1 b xs ∧
  ∀ p, H1 p = none → Q (.ref p) (upd H1 p (.dK (mergeK [] ((ks.zip xs).map fun kv => (Sum.inr kv.1, kv.2)))))
theorem kv_zip : ∀ {ks : List Str} {xs : List V} {us ws : List Value}, Vals (ks.map V.str) us → Vals xs ws →
    ∃ prs : List (Key × Value), KV ((ks.zip xs).map fun kv => ((Sum.inr kv.1 : Key), kv.2)) prs ∧ prs.length = min us.length ws.length ∧
      ∀ (i : Nat) (key v : Value), us[i]? = some key → ws[i]? = some v → ∃ k, prs[i]? = some (k, v) ∧ keyIs k key = true
  | [], xs, us, ws, h1, _ => by
    cases h1
    exact ⟨[], .nil, by simp, fun i key v h => by simp at h⟩
  | k :: ks, [], us, ws, h1, h2 => by
    cases h2
    exact ⟨[], .nil, by simp, fun i key v _ h => by simp at h⟩
  | k :: ks, x :: xs, us, ws, h1, h2 => by
    cases h1 with
    | cons r t =>
      cases h2 with
      | cons r2 t2 =>
        obtain ⟨prs, q1, q2, q3⟩ := kv_zip t t2
        obtain ⟨tk, rfl⟩ := (show ∃ t, _ = Value.str k t from r)
        rename_i u _
        refine ⟨(Sum.inr k, u) :: prs, .cons ⟨rfl, r2⟩ q1, ?_, ?_⟩
        · simp only [List.length_cons, q2]; omega
        · intro i key v e1 e2
          cases i with
          | zero =>
            simp at e1 e2
            subst e1 e2
            exact ⟨_, rfl, by simp [keyIs, Value.isStrOf]⟩
          | succ i =>
            simp at e1 e2
            obtain ⟨k', e3, e4⟩ := q3 i key v e1 e2
            exact ⟨k', by simpa using e3, e4⟩
section
variable {X : Cx}
theorem pe_dictZip {e1 e2 : Expr} {ta : TA} {p pos p2 pos2 : Pos} (hc : X.calm = true) (hg : Gl X "dict") (hm : X.mg "dict" = none) (hg2 : Gl X "zip") (hm2 : X.mg "zip" = none) (ha : PA X [e1, e2] ta)
    (hs : starEach [e1, e2] X.env = (false, eval e1 X.env) :: starEach [e2] X.env := by rfl) (hpl : (backTo pos2 (starEach [e2] X.env)).any (·.1) = false := by rfl)
    (hs2 : starEach [(.Call (.Name "zip" p2) [e1, e2] [] pos2)] X.env = (false, eval (.Call (.Name "zip" p2) [e1, e2] [] pos2) X.env) :: starEach [] X.env := by rfl) :
    PE X (.Call (.Name "dict" p) [.Call (.Name "zip" p2) [e1, e2] [] pos2] [] pos) (tDZ X.K ta) := by
  refine ⟨fun pins s σ H Q I h => ?_⟩
  refine wpAny_Call_Name_kw (ld_blt I hg hm PyProof.Rows.boot_dict ?_)
  refine PyProof.Rows.callWith_type1 ?_ hs2 (by rfl)
  rw [hs2]
  show wpAny _ _ (spliced ((false, eval _ X.env) :: backTo pos (starEach [] X.env))) _ _ s
  refine Calls.spliced_cons ?_
  refine wpAny_Call_Name_kw (ld_blt I hg2 hm2 PyProof.Rows.boot_zip ?_)
  refine PyProof.Rows.callWith_type1 (thn (ha.run pos2 pins s σ H _ I h) fun us s1 hh => ?_) hs hpl
  obtain ⟨vs, H1, I1, r1, a, b, ks, xs, rfl, hqx, hqy, q⟩ := hh
  cases r1 with
  | cons r rr =>
    cases rr with
    | cons r' rr =>
      cases rr
      cases r
      cases r'
      obtain ⟨its, rv, p1, _⟩ := I1.list hqx
      obtain ⟨its2, rv2, p2, hz2⟩ := I1.list hqy
      have la : a < s1.heap.objs.size := p1.lt
      have lb : b < s1.heap.objs.size := p2.lt
      refine call_zip_2 p1.isList p2.isList fun h' hz hTI hTO hi1 hi2 hsz hk => ?_
      refine Calls.spliced_nil ?_
      obtain ⟨prs, rel, hl, hpr⟩ := kv_zip rv rv2
      have P := PairArg.zip (prog := X.prog) (w := X.w) _ _ _ _ _ _ _ (PySem.W.ktu_apart s1.heap.objs.size a b la lb) its.toArray its2.toArray
      have hlen : prs.length = min its.toArray.size its2.toArray.size := by simpa using hl
      refine PySem.call_dict_pairs (knd := mixKind X.prog X.w) (kvs := prs) (s := { s1 with heap := h' }) P (I.ok.hd hc) ⟨hz, hTI, ⟨_, _, hTO⟩, hi1, hi2, p1.isList.at fun o e => hk _ o e, p2.isList.at fun o e => hk _ o e⟩ ⟨hlen, ?_⟩ ?_ ?_
      · rintro i key v ⟨e3, e4⟩
        exact hpr i key v (by simpa using e3) (by simpa using e4)
      · have e5 : xs.length = its2.length := rv2.length
        have e6 : its2.toArray.size = its2.length := by simp
        rw [e6]
        exact Nat.le_trans (Nat.min_le_right _ _) (e5 ▸ hz2)
      · intro h'' tk hd hkk
        have old : ∀ c o, s1.heap.get? c = some o → h''.get? c = some o := fun c o e => by
          have lt := Heap.lt_size e
          refine hkk c o ?_ (hk c o e)
          intro hmem
          have e' : c = s1.heap.objs.size + 4 ∨ c = s1.heap.objs.size + 3 ∨ c = s1.heap.objs.size ∨ c = s1.heap.objs.size + 1 := by simpa using hmem
          have hle : s1.heap.objs.size ≤ c := by
            rcases e' with z | z | z | z
            · rw [z]; exact Nat.le_add_right _ _
            · rw [z]; exact Nat.le_add_right _ _
            · rw [z]; exact Nat.le_refl _
            · rw [z]; exact Nat.le_add_right _ _
          exact absurd lt (Nat.not_lt.mpr hle)
        have big : s1.heap.objs.size ≤ h'.objs.size := by omega
        have hm' : (h'.objs.size == sysModules) = false := by
          exact beq_eq_false_iff_ne.mpr (Nat.ne_of_gt (Nat.lt_of_lt_of_le I1.big big))
        have hlen2 : (mergeK [] ((ks.zip xs).map fun kv => ((Sum.inr kv.1 : Key), kv.2))).length ≤ sizeLine := by
          refine Nat.le_trans (length_mergeK _ []) ?_
          simp only [List.length_nil, List.length_map, List.length_zip]
          omega
        exact ⟨.ref h'.objs.size, _, I1.laid (t' := tk) old big (show ObjOk X.prog X.w _ _ _ (.dK (mergeK [] ((ks.zip xs).map fun kv => (Sum.inr kv.1, kv.2)))) from ⟨hlen2, hm', merged [] prs, KV.merge rel .nil, hd⟩), rfl, q _ (I1.hok.fresh big)⟩
end
end My

namespace My
open PySem PySem.Spec PyProof.Rows L2
/-! ### rules that leave the heap a letter: what stood stands, what is new is told -/
theorem sameNew {H : Hp} {x : Addr} {o : HO} (hx : H x = none) : Same H (upd H x o) := fun b u e => by
  rw [upd_ne (ne_of_none e hx)]
  exact e
section
variable {X : Cx}
/-- [a, b] -/
def tLstG (t : TA) : TE := fun σ H Q => t σ H fun xs H1 => xs.length ≤ sizeLine ∧ ∀ (p : Addr) (H' : Hp), H1 p = none → H' p = some (.lst xs) → Same H1 H' → Q (.ref p) H'
theorem pe_lstG {es : List Expr} {t : TA} {pos : Pos} (h : PA X es t) : PE X (.List es pos) (tLstG t) := by
  refine ⟨fun pins s σ H Q I hq => ?_⟩
  refine wpAny_List_spliced (thn (h.run pos pins s σ H _ I hq) fun us s1 hh => ?_)
  obtain ⟨xs, H1, I1, r, z, q⟩ := hh
  have hf : H1 s1.heap.objs.size = none := I1.hok.fresh (Nat.le_refl _)
  exact ⟨by rw [← r.length]; exact z, .ref s1.heap.objs.size, upd H1 s1.heap.objs.size (.lst xs),
    I1.laid (t' := s1.toks) (fun b u e => Heap.get?_push_of_some _ e) (Nat.le_refl _) (show ObjOk X.prog X.w _ _ _ (.lst xs) from ⟨z, us, 0, r, Heap.get?_push_size _ rfl⟩), rfl, q _ _ hf upd_same (sameNew hf)⟩
/-- xs + ys, two lists -/
def rCatG : R2 := fun x y H Q => ∃ l b xs zs, x = .ref l ∧ y = .ref b ∧ H l = some (.lst xs) ∧ H b = some (.lst zs) ∧ xs.length + zs.length ≤ sizeLine ∧
  ∀ (p : Addr) (H' : Hp), H p = none → H' p = some (.lst (xs ++ zs)) → Same H H' → Q (.ref p) H'
theorem op_catG : OpR X (binaryOp .Add) rCatG := fun pins s σ H x y v u Q I rx ry h => op_cat pins s σ H x y v u Q I rx ry (by
  obtain ⟨l, b, xs, zs, e1, e2, h1, h2, hz, q⟩ := h
  exact ⟨l, b, xs, zs, e1, e2, h1, h2, hz, fun p hp => q p _ hp upd_same (sameNew hp)⟩)
/-- a new error as a value -/
def tErrG (C : Addr) (f : Str) (t : TA) : TE := fun σ H Q => t σ H fun vs H1 => ∃ v, vs = [v] ∧
  ∀ (a d : Addr) (H' : Hp), H1 a = none → H' a = some (ExD C (some d) a) → H' d = some (.xd [(f, v)]) → Same H1 H' → Q (.ref a) H'
variable {C fI : Addr} {cn f : Str}
theorem pe_errG {a : Expr} {ta : TA} {p pos : Pos} {k : Nat} (T : ErrTxt X.K X.mg cn f C fI) (hr : Room k X.A) (ha : PA X [a] ta) (hg : Gl X cn)
    (hdb : (cn == ("__debug__" : Str)) = false := by decide)
    (he : starEach (a :: []) X.env = (false, eval a X.env) :: starEach [] X.env := by rfl) (hpl : (backTo pos (starEach [] X.env)).any (·.1) = false := by rfl) :
    PE X (.Call (.Name cn p) [a] [] pos) (tErrG C f ta) := by
  refine ⟨fun pins s σ H Q I h => ?_⟩
  refine wpAny_Call_Name_kw (ld_glob I hg T.gC ?_ hdb)
  refine PySem.W.callWith_K (h₀ := X.base) I.ok.mod.kin T.kC (thn (ha.run pos pins s σ H _ I h) fun us s1 hh => ?_) he hpl
  obtain ⟨vs, H1, I1, r1, v, ev, q1⟩ := hh
  subst ev
  refine ⟨I1.kIn, ?_⟩
  cases r1 with
  | cons rv rn =>
    cases rn
    exact err_run T hr (.inl ⟨rfl, rfl⟩) I1 rv fun a d h1 h2 h3 => q1 a d _ h1 upd_same (by rw [upd_ne h3.symm]; exact upd_same) (fun b o e => by
      rw [upd_ne (ne_of_none e h1), upd_ne (ne_of_none e h2)]; exact e)
theorem pe_errGK {kws : List Keyword} {tk : TA} {p pos : Pos} {k : Nat} (T : ErrTxt X.K X.mg cn f C fI) (hr : Room k X.A) (ha : PK X kws tk) (hg : Gl X cn)
    (hall : (backToKw pos (keywordEach kws X.env)).all (·.1.isSome) = true := by rfl)
    (hks : (backToKw pos (keywordEach kws X.env)).filterMap (·.1) = [f] := by rfl)
    (hdb : (cn == ("__debug__" : Str)) = false := by decide)
    (hpl : ((backTo pos (starEach [] X.env)).any (·.1) || (backToKw pos (keywordEach kws X.env)).any (·.1.isNone)) = false := by rfl) :
    PE X (.Call (.Name cn p) [] kws pos) (tErrG C f tk) := by
  refine ⟨fun pins s σ H Q I h => ?_⟩
  refine wpAny_Call_Name_kw (ld_glob I hg T.gC ?_ hdb)
  refine PySem.W.callWith_KW0 (h₀ := X.base) I.ok.mod.kin T.kC hall (thn (ha.run pos pins s σ H _ I h) fun us s1 hh => ?_) hpl
  obtain ⟨vs, H1, I1, r1, v, ev, q1⟩ := hh
  subst ev
  refine ⟨I1.kIn, ?_⟩
  rw [hks]
  cases r1 with
  | cons rv rn =>
    cases rn
    exact err_run T hr (.inr ⟨rfl, rfl⟩) I1 rv fun a d h1 h2 h3 => q1 a d _ h1 upd_same (by rw [upd_ne h3.symm]; exact upd_same) (fun b o e => by
      rw [upd_ne (ne_of_none e h1), upd_ne (ne_of_none e h2)]; exact e)
end
end My

namespace My
open PySem PySem.Spec PyProof.Rows L2
def top (i : Nat) : Stmt := PySem.Challenge.pw_recordyard_k01_errors_made.main.body.getD i (.Pass ⟨0, 0, 0, 0⟩)
abbrev s_BadLevel___init__ : Stmt := inClass (top 2) 0
abbrev s_BadName___init__ : Stmt := inClass (top 3) 0
abbrev s_BadExtra___init__ : Stmt := inClass (top 4) 0
abbrev s_BadMessage___init__ : Stmt := inClass (top 5) 0
abbrev s_BadField___init__ : Stmt := inClass (top 6) 0
abbrev s_BadFormat___init__ : Stmt := inClass (top 7) 0
abbrev s_BadStyle___init__ : Stmt := inClass (top 8) 0
abbrev s_BadMode___init__ : Stmt := inClass (top 9) 0
abbrev s_BadWhen___init__ : Stmt := inClass (top 10) 0
abbrev s_BadSettings___init__ : Stmt := inClass (top 11) 0
abbrev s_NotJudged___init__ : Stmt := inClass (top 12) 0
abbrev s_BadCuts___init__ : Stmt := inClass (top 13) 0
abbrev s_BadDeed___init__ : Stmt := inClass (top 14) 0
abbrev s__law_draw : Stmt := top 16
abbrev s__law_pick : Stmt := top 17
abbrev s__law_object : Stmt := top 18
abbrev s__law_copied : Stmt := top 19
abbrev s__law_same : Stmt := top 20
abbrev s__law_fields : Stmt := top 21
abbrev s__law_errors : Stmt := top 22
abbrev s__law_classes : Stmt := top 23
abbrev s__law_caught : Stmt := top 24
abbrev s__law_raised : Stmt := top 25
abbrev s_law : Stmt := top 26
theorem sc_BadLevel___init__ : FnScope ["self", "level"] ["self", "level"] (defScope s_BadLevel___init__) := ⟨rfl, rfl, rfl, by decide +kernel, rfl, by decide +kernel, by decide +kernel⟩
theorem sc_BadName___init__ : FnScope ["self", "name"] ["self", "name"] (defScope s_BadName___init__) := ⟨rfl, rfl, rfl, by decide +kernel, rfl, by decide +kernel, by decide +kernel⟩
theorem sc_BadExtra___init__ : FnScope ["self", "name"] ["self", "name"] (defScope s_BadExtra___init__) := ⟨rfl, rfl, rfl, by decide +kernel, rfl, by decide +kernel, by decide +kernel⟩
theorem sc_BadMessage___init__ : FnScope ["self", "msg"] ["self", "msg"] (defScope s_BadMessage___init__) := ⟨rfl, rfl, rfl, by decide +kernel, rfl, by decide +kernel, by decide +kernel⟩
theorem sc_BadField___init__ : FnScope ["self", "name"] ["self", "name"] (defScope s_BadField___init__) := ⟨rfl, rfl, rfl, by decide +kernel, rfl, by decide +kernel, by decide +kernel⟩
theorem sc_BadFormat___init__ : FnScope ["self", "fmt"] ["self", "fmt"] (defScope s_BadFormat___init__) := ⟨rfl, rfl, rfl, by decide +kernel, rfl, by decide +kernel, by decide +kernel⟩
theorem sc_BadStyle___init__ : FnScope ["self", "style"] ["self", "style"] (defScope s_BadStyle___init__) := ⟨rfl, rfl, rfl, by decide +kernel, rfl, by decide +kernel, by decide +kernel⟩
theorem sc_BadMode___init__ : FnScope ["self", "mode"] ["self", "mode"] (defScope s_BadMode___init__) := ⟨rfl, rfl, rfl, by decide +kernel, rfl, by decide +kernel, by decide +kernel⟩
theorem sc_BadWhen___init__ : FnScope ["self", "when"] ["self", "when"] (defScope s_BadWhen___init__) := ⟨rfl, rfl, rfl, by decide +kernel, rfl, by decide +kernel, by decide +kernel⟩
theorem sc_BadSettings___init__ : FnScope ["self", "path"] ["self", "path"] (defScope s_BadSettings___init__) := ⟨rfl, rfl, rfl, by decide +kernel, rfl, by decide +kernel, by decide +kernel⟩
theorem sc_NotJudged___init__ : FnScope ["self", "path"] ["self", "path"] (defScope s_NotJudged___init__) := ⟨rfl, rfl, rfl, by decide +kernel, rfl, by decide +kernel, by decide +kernel⟩
theorem sc_BadCuts___init__ : FnScope ["self"] ["self"] (defScope s_BadCuts___init__) := ⟨rfl, rfl, rfl, by decide +kernel, rfl, by decide +kernel, by decide +kernel⟩
theorem sc_BadDeed___init__ : FnScope ["self", "deed"] ["self", "deed"] (defScope s_BadDeed___init__) := ⟨rfl, rfl, rfl, by decide +kernel, rfl, by decide +kernel, by decide +kernel⟩
theorem sc__law_draw : FnScope ["_law_stream", "_law_many", "_law_digit", "_law_mixed", "_law_last"] ["_law_stream", "_law_many"] (defScope s__law_draw) := ⟨rfl, rfl, rfl, by decide +kernel, rfl, by decide +kernel, by decide +kernel⟩
theorem sc__law_pick : FnScope ["_law_stream", "_law_some"] ["_law_stream", "_law_some"] (defScope s__law_pick) := ⟨rfl, rfl, rfl, by decide +kernel, rfl, by decide +kernel, by decide +kernel⟩
theorem sc__law_object : FnScope ["_law_stream", "_law_deep", "_law_way", "_law_some", "_law_parts", "_law_k"] ["_law_stream", "_law_deep"] (defScope s__law_object) := ⟨rfl, rfl, rfl, by decide +kernel, rfl, by decide +kernel, by decide +kernel⟩
theorem sc__law_copied : FnScope ["_law_thing", "_law_part", "_law_key"] ["_law_thing"] (defScope s__law_copied) := ⟨rfl, rfl, rfl, by decide +kernel, rfl, by decide +kernel, by decide +kernel⟩
theorem sc__law_same : FnScope ["_law_found", "_law_due", "_law_key", "_law_one", "_law_other"] ["_law_found", "_law_due"] (defScope s__law_same) := ⟨rfl, rfl, rfl, by decide +kernel, rfl, by decide +kernel, by decide +kernel⟩
theorem sc__law_fields : FnScope ["_law_thing", "_law_found"] ["_law_thing"] (defScope s__law_fields) := ⟨rfl, rfl, rfl, by decide +kernel, rfl, by decide +kernel, by decide +kernel⟩
theorem sc__law_errors : FnScope ["_law_thing", "_law_found"] ["_law_thing"] (defScope s__law_errors) := ⟨rfl, rfl, rfl, by decide +kernel, rfl, by decide +kernel, by decide +kernel⟩
theorem sc__law_classes : FnScope ["_law_e", "_law_found"] ["_law_e"] (defScope s__law_classes) := ⟨rfl, rfl, rfl, by decide +kernel, rfl, by decide +kernel, by decide +kernel⟩
theorem sc__law_caught : FnScope ["_law_k", "_law_thing", "_law_found", "_law_e"] ["_law_k", "_law_thing"] (defScope s__law_caught) := ⟨rfl, rfl, rfl, by decide +kernel, rfl, by decide +kernel, by decide +kernel⟩
theorem sc__law_raised : FnScope ["_law_k", "_law_thing"] ["_law_k", "_law_thing"] (defScope s__law_raised) := ⟨rfl, rfl, rfl, by decide +kernel, rfl, by decide +kernel, by decide +kernel⟩
theorem sc_law : FnScope ["_law_script", "_law_stream", "_law_turn", "_law_thing", "_law_kept", "_law_found", "_law_k", "_law_e", "_law_due", "_law_one", "_law_other"] ["_law_script"] (defScope s_law) := ⟨rfl, rfl, rfl, by decide +kernel, rfl, by decide +kernel, by decide +kernel⟩
structure Dfn (K : PySem.W.Frag) (mg : Str → Option Value) (x qual : Str) (st : Stmt) (ps : List Str) (f : Addr) (fd : FuncData) : Prop where
  F : Fun K x qual st f fd
  g : mg x = some (.ref f)
  b : Binds K fd ps []
structure Blt (mg : Str → Option Value) : Prop where
  n_ValueError : mg "ValueError" = none
  n_all : mg "all" = none
  n_bool : mg "bool" = none
  n_dict : mg "dict" = none
  n_enumerate : mg "enumerate" = none
  n_int : mg "int" = none
  n_isinstance : mg "isinstance" = none
  n_len : mg "len" = none
  n_list : mg "list" = none
  n_range : mg "range" = none
  n_sorted : mg "sorted" = none
  n_tuple : mg "tuple" = none
  n_zip : mg "zip" = none
structure Txt (K : PySem.W.Frag) (mg : Str → Option Value) where
  B : Blt mg
  f__law_draw : Addr
  fd__law_draw : FuncData
  D__law_draw : Dfn K mg "_law_draw" "_law_draw" s__law_draw ["_law_stream", "_law_many"] f__law_draw fd__law_draw
  f__law_pick : Addr
  fd__law_pick : FuncData
  D__law_pick : Dfn K mg "_law_pick" "_law_pick" s__law_pick ["_law_stream", "_law_some"] f__law_pick fd__law_pick
  f__law_object : Addr
  fd__law_object : FuncData
  D__law_object : Dfn K mg "_law_object" "_law_object" s__law_object ["_law_stream", "_law_deep"] f__law_object fd__law_object
  f__law_copied : Addr
  fd__law_copied : FuncData
  D__law_copied : Dfn K mg "_law_copied" "_law_copied" s__law_copied ["_law_thing"] f__law_copied fd__law_copied
  f__law_same : Addr
  fd__law_same : FuncData
  D__law_same : Dfn K mg "_law_same" "_law_same" s__law_same ["_law_found", "_law_due"] f__law_same fd__law_same
  f__law_fields : Addr
  fd__law_fields : FuncData
  D__law_fields : Dfn K mg "_law_fields" "_law_fields" s__law_fields ["_law_thing"] f__law_fields fd__law_fields
  f__law_errors : Addr
  fd__law_errors : FuncData
  D__law_errors : Dfn K mg "_law_errors" "_law_errors" s__law_errors ["_law_thing"] f__law_errors fd__law_errors
  f__law_classes : Addr
  fd__law_classes : FuncData
  D__law_classes : Dfn K mg "_law_classes" "_law_classes" s__law_classes ["_law_e"] f__law_classes fd__law_classes
  f__law_caught : Addr
  fd__law_caught : FuncData
  D__law_caught : Dfn K mg "_law_caught" "_law_caught" s__law_caught ["_law_k", "_law_thing"] f__law_caught fd__law_caught
  f__law_raised : Addr
  fd__law_raised : FuncData
  D__law_raised : Dfn K mg "_law_raised" "_law_raised" s__law_raised ["_law_k", "_law_thing"] f__law_raised fd__law_raised
  f_law : Addr
  fd_law : FuncData
  D_law : Dfn K mg "law" "law" s_law ["_law_script"] f_law fd_law
  c : Nat → Addr
  ini : Nat → Addr
  E_BadLevel : ErrTxt K mg "BadLevel" "level" (c 0) (ini 0)
  E_BadName : ErrTxt K mg "BadName" "name" (c 1) (ini 1)
  E_BadExtra : ErrTxt K mg "BadExtra" "name" (c 2) (ini 2)
  E_BadMessage : ErrTxt K mg "BadMessage" "msg" (c 3) (ini 3)
  E_BadField : ErrTxt K mg "BadField" "name" (c 4) (ini 4)
  E_BadFormat : ErrTxt K mg "BadFormat" "fmt" (c 5) (ini 5)
  E_BadStyle : ErrTxt K mg "BadStyle" "style" (c 6) (ini 6)
  E_BadMode : ErrTxt K mg "BadMode" "mode" (c 7) (ini 7)
  E_BadWhen : ErrTxt K mg "BadWhen" "when" (c 8) (ini 8)
  E_BadSettings : ErrTxt K mg "BadSettings" "path" (c 9) (ini 9)
  E_NotJudged : ErrTxt K mg "NotJudged" "path" (c 10) (ini 10)
  E_BadCuts : NilTxt K mg "BadCuts" (c 11) (ini 11)
  E_BadDeed : ErrTxt K mg "BadDeed" "deed" (c 12) (ini 12)
  xc : ∀ i, i < 13 → ExcC K (c i)
  kit : ∀ i j, i < 13 → j < 13 → PySem.W.kitOne K (.ref (c i)) (.ref (c j)) = some (decide (j = i))
  cY : Addr
  gY : mg "YardError" = some (.ref cY)
  kitY : ∀ i, i < 13 → PySem.W.kitOne K (.ref (c i)) (.ref cY) = some true
  kitV : ∀ i, i < 13 → PySem.W.kitOne K (.ref (c i)) (.type "ValueError") = some true
  exm : ∀ i, i < 13 → PySem.W.exmOne K (.ref (c i)) (.ref cY) = some true
local macro_rules | `(tactic| walk_at "hp") => `(tactic| first | assumption | exact upd_same | (refine Eq.trans (upd_ne (by first | assumption | (apply Ne.symm; assumption))) ?_; walk_at "hp"))
local macro_rules | `(tactic| walk_at "ixl") => `(tactic| (refine' ⟨_, ?xs, _, ?vv, rfl, rfl, SqL.of ?hh, ?aa, ?qq⟩; (case hh => walk_at "hp"); (case aa => rfl)))
local macro_rules | `(tactic| walk_at "setl") => `(tactic| (refine' ⟨_, ?xs, _, ?jj, rfl, rfl, ?hh, ?aa, ?qq⟩; (case hh => walk_at "hp"); (case aa => rfl)))
local macro_rules | `(tactic| walk_at "cond") => `(tactic| first | exact Nat.le_of_lt (small1000 (Nat.le_of_ble_eq_true rfl)) | decide | omega | (dsimp only; omega) | exact ⟨by decide, by decide⟩ | exact Or.inr ⟨by decide, by decide⟩ | exact Or.inl ⟨by decide, by decide⟩ | exact ⟨by decide, by decide, by decide⟩ | exact ⟨by omega, by omega⟩ | exact ⟨by omega, by omega, by omega⟩)
local macro_rules | `(tactic| walk_at "st") => `(tactic| repeat (first | refine ⟨_, rfl, ?_⟩ | refine ⟨_, _, rfl, rfl, ?_⟩ | walk_at "ixl" | walk_at "setl" | refine ⟨rfl, ?_⟩ | refine Or.inl ⟨_, rfl, ?_⟩ | refine And.intro (by walk_at "cond") ?_))
/-- what the stepper does not open -/
inductive Hd (p : Prop) : Prop where
  | a (h : p)
  | b (h : p)
theorem Hd.out {p : Prop} (h : Hd p) : p := by
  cases h <;> assumption
/-! ### the stream of draws -/
structure StmA (H : Hp) (p q : Addr) (n : Int) (cs : List Int) (a c : Int) : Prop where
  hp : H p = some (.lst [.ref q, .int a, .int n, .int c])
  hq : H q = some (.lst (cs.map V.int))
  a0 : 0 ≤ a
  c0 : 0 ≤ c
  c1 : c < 2147483647
structure Stm (H : Hp) (p q : Addr) (n : Int) : Prop where
  ex : ∃ (cs : List Int) (a c : Int), StmA H p q n cs a c
  n0 : 0 ≤ n
  n1 : n ≤ 100000
theorem StmA.ne {H : Hp} {p q : Addr} {a n c : Int} {cs : List Int} (S : StmA H p q n cs a c) : p ≠ q := by
  intro e
  have h2 := S.hq
  rw [← e, S.hp] at h2
  cases cs with
  | nil => cases h2
  | cons x r => simp at h2
/-- all but the stream's two lists -/
def off (H : Hp) (p q : Addr) : Hp := fun b => if b = p ∨ b = q then none else H b
theorem off_p {H : Hp} {p q : Addr} {o : HO} : off (upd H p o) p q = off H p q := by
  funext b
  unfold off
  by_cases h : b = p ∨ b = q
  · rw [if_pos h, if_pos h]
  · rw [if_neg h, if_neg h, upd_ne (fun e => h (.inl e))]
theorem off_q {H : Hp} {p q : Addr} {o : HO} : off (upd H q o) p q = off H p q := by
  funext b
  unfold off
  by_cases h : b = p ∨ b = q
  · rw [if_pos h, if_pos h]
  · rw [if_neg h, if_neg h, upd_ne (fun e => h (.inr e))]
/-- something new -/
theorem off_new {H : Hp} {p q x : Addr} {o : HO} (hx : H x = none) : Same (off H p q) (off (upd H x o) p q) := by
  intro b u e
  unfold off at e ⊢
  by_cases h : b = p ∨ b = q
  · rw [if_pos h] at e; cases e
  · rw [if_neg h] at e ⊢
    rw [upd_ne (ne_of_none e hx)]
    exact e
def spDraw : Sp := fun vs H Q _ => Hd (∃ (p q : Addr) (n m : Int), vs = [.ref p, .int m] ∧ Stm H p q n ∧ n + 1 ≤ 100000 ∧ 0 < m ∧ m < 1000000 ∧
  ∀ (d n' : Int) (H' : Hp), 0 ≤ d → d < m → n' ≤ n + 1 → Stm H' p q n' → Same (off H p q) (off H' p q) → Q (.int d) H')
theorem if_true_of {c : Bool} {A B : Prop} (hc : c = true) (h : A) : if c = true then A else B := by
  rw [if_pos hc]
  exact h
theorem if_false_of {c : Bool} {A B : Prop} (hc : c = false) (h : B) : if c = true then A else B := by
  rw [hc, if_neg Bool.false_ne_true]
  exact h
theorem eqvAll_nil (cs : List Int) : PyData.eqv (.list (cs.map PyData.int)) (.list []) = cs.isEmpty := by
  cases cs with
  | nil => rfl
  | cons x r => rfl
theorem canLay_ints : ∀ (cs : List Int), PyData.canLayAll0 (cs.map PyData.int) = true
  | [] => rfl
  | x :: r => by
    show (PyData.canLay0 (.int x) && PyData.canLayAll0 (r.map PyData.int)) = true
    rw [canLay_ints r]
    rfl
theorem depth_ints : ∀ (cs : List Int), PyData.depthAll (cs.map PyData.int) = 0
  | [] => rfl
  | x :: r => by
    show max (PyData.depth (.int x)) (PyData.depthAll (r.map PyData.int)) = 0
    rw [depth_ints r]
    rfl
theorem shaped_ints (cs : List Int) : SeqAt.shaped (.list (cs.map PyData.int)) = true := by
  show (PyData.canLayAll0 (cs.map PyData.int) && decide (PyData.depthAll (cs.map PyData.int) + 1 ≤ 64)) = true
  rw [canLay_ints, depth_ints]
  rfl
theorem dpAll_ints {K : PySem.W.Frag} {H : Hp} : ∀ (cs : List Int), DpAll K H (cs.map V.int) (cs.map PyData.int)
  | [] => .nil
  | x :: r => .cons (.int x) (dpAll_ints r)
theorem while_ex {c : TT} {tb : TS} {D : Ends} {σ : L2.St} {H : Hp} (Pv : Nat → L2.St → Hp → Prop) (Ex : L2.St → Hp → Prop) (h0 : ∃ m, Pv m σ H) (hfin : ∀ σ H, Ex σ H → D.nx σ H)
    (hs : ∀ (R : L2.St → Hp → Prop), (∀ σ H, Ex σ H → R σ H) → ∀ m σ H, Pv m σ H → ∀ NW : L2.St → Hp → Prop, NW = (fun σ' H' => Hd (∃ m', m' < m ∧ Pv m' σ' H')) →
      c σ H fun b H1 => if b = true then ∃ N : L2.St → Hp → Prop, (∀ σ' H', N σ' H' → ∃ m', m' < m ∧ Pv m' σ' H') ∧ tb { D with nx := N, ct := N, bk := R } σ H1 else R σ H1) : tWhile c tb D σ H :=
  ⟨Pv, h0, fun m σ H hp => hs D.nx hfin m σ H hp _ rfl⟩
theorem seqIndex0 {n : Nat} : seqIndex? 0 (n + 1) = some 0 := by
  unfold seqIndex?
  simp
def lenAt (H : Hp) (q : Addr) : Nat := match H q with
  | some (.lst xs) => xs.length
  | _ => 0
theorem lenAt_of {H : Hp} {q : Addr} {xs : List V} (h : H q = some (.lst xs)) : lenAt H q = xs.length := by
  unfold lenAt; rw [h]
/-! ### data -/
inductive D where
  | non | bl (b : Bool) | int (i : Int) | str (z : Str)
  | lst (ds : List D) | tup (ds : List D) | dct (ds : List D)
def keys3 : List Str := ["a", "b", "message"]
def kz (xs : List V) : List (Key × V) := (keys3.zip xs).map fun kv => (Sum.inr kv.1, kv.2)
theorem mergeK_nd : ∀ (l acc : List (Key × V)), ((acc ++ l).map (·.1)).Nodup → mergeK acc l = acc ++ l
  | [], acc, _ => (List.append_nil acc).symm
  | kv :: l, acc, h => by
    have hn : valV acc kv.1 = none := by
      cases e : valV acc kv.1 with
      | none => rfl
      | some v =>
        have m := valV_in e
        rw [List.map_append, List.map_cons] at h
        exact absurd m (fun z => (List.nodup_append.mp h).2.2 _ z _ List.mem_cons_self rfl)
    show mergeK (putK acc kv.1 kv.2) l = _
    rw [putK_new _ hn, mergeK_nd l (acc ++ [kv]) (by simpa using h)]
    simp
theorem kz_keys (xs : List V) : (kz xs).map (·.1) = (keys3.take xs.length).map Sum.inr := by
  unfold kz
  rw [List.map_map]
  have e : ((fun x : Key × V => x.1) ∘ fun kv : Str × V => ((Sum.inr kv.1 : Key), kv.2)) = (fun kv : Str × V => (Sum.inr kv.1 : Key)) := rfl
  rw [e]
  have q : ∀ (ks : List Str) (ys : List V), (ks.zip ys).map (fun kv : Str × V => (Sum.inr kv.1 : Key)) = (ks.take ys.length).map Sum.inr := by
    intro ks
    induction ks with
    | nil => intro ys; simp
    | cons k ks ih =>
      intro ys
      cases ys with
      | nil => simp
      | cons y ys => simp [ih ys]
  exact q _ _
theorem keys3_nd : (keys3.map (Sum.inr : Str → Key)).Nodup := by decide +kernel
theorem kz_nd (xs : List V) : ((kz xs).map (·.1)).Nodup := by
  rw [kz_keys, List.map_take]
  exact keys3_nd.sublist (List.take_sublist _ _)
theorem mergeK_kz (xs : List V) : mergeK [] (kz xs) = kz xs := by
  rw [mergeK_nd _ _ (by simpa using kz_nd xs)]
  rfl
theorem kz_len {xs : List V} (h : xs.length ≤ 3) : (kz xs).length = xs.length := by
  unfold kz
  rw [List.length_map, List.length_zip]
  exact Nat.min_eq_right h
theorem kz_at {xs : List V} {i : Nat} {k : Key} {v : V} (h : (kz xs)[i]? = some (k, v)) : ∃ z, keys3[i]? = some z ∧ k = Sum.inr z ∧ xs[i]? = some v := by
  unfold kz at h
  rw [List.getElem?_map] at h
  cases e : (keys3.zip xs)[i]? with
  | none => rw [e] at h; cases h
  | some p =>
    rw [e] at h
    obtain ⟨h1, h2⟩ := List.getElem?_zip_eq_some.mp e
    injection h with h
    injection h with h3 h4
    exact ⟨p.1, h1, h3.symm, by rw [h2, h4]⟩
theorem kz_get {xs : List V} {i : Nat} {z : Str} {v : V} (h1 : keys3[i]? = some z) (h2 : xs[i]? = some v) : (kz xs)[i]? = some (Sum.inr z, v) := by
  unfold kz
  have e : (keys3.zip xs)[i]? = some (z, v) := List.getElem?_zip_eq_some.mpr ⟨h1, h2⟩
  rw [List.getElem?_map, e]
  rfl
theorem valV_at : ∀ {l : List (Key × V)} {i : Nat} {k : Key} {v : V}, (l.map (·.1)).Nodup → l[i]? = some (k, v) → valV l k = some v
  | [], i, _, _, _, h => by simp at h
  | p :: l, 0, k, v, _, h => by
    simp at h
    subst h
    exact valV_pos rfl
  | p :: l, i + 1, k, v, hn, h => by
    have h' : l[i]? = some (k, v) := by simpa using h
    rw [List.map_cons, List.nodup_cons] at hn
    rw [valV_neg (fun e => hn.1 (by rw [e]; exact List.mem_map.mpr ⟨(k, v), List.mem_of_getElem? h', rfl⟩))]
    exact valV_at hn.2 h'
mutual
inductive Rep (H : Hp) : V → D → Prop
  | non : Rep H .non .non
  | bl (b : Bool) : Rep H (.bl b) (.bl b)
  | int (i : Int) : Rep H (.int i) (.int i)
  | str (z : Str) : Rep H (.str z) (.str z)
  | lst {a : Addr} {xs : List V} {ds : List D} : Rd H a (.lst xs) → xs.length ≤ 3 → RepA H xs ds → Rep H (.ref a) (.lst ds)
  | tup {a : Addr} {xs : List V} {ds : List D} : Rd H a (.tup xs) → xs.length ≤ 3 → RepA H xs ds → Rep H (.ref a) (.tup ds)
  | dct {a : Addr} {xs : List V} {ds : List D} : Rd H a (.dK (kz xs)) → xs.length ≤ 3 → RepA H xs ds → Rep H (.ref a) (.dct ds)
inductive RepA (H : Hp) : List V → List D → Prop
  | nil : RepA H [] []
  | cons {x : V} {d : D} {xs : List V} {ds : List D} : Rep H x d → RepA H xs ds → RepA H (x :: xs) (d :: ds)
end
mutual
def D.depth : D → Nat
  | .lst ds => D.depthA ds + 1
  | .tup ds => D.depthA ds + 1
  | .dct ds => D.depthA ds + 1
  | .non => 0
  | .bl _ => 0
  | .int _ => 0
  | .str _ => 0
def D.depthA : List D → Nat
  | [] => 0
  | d :: ds => max d.depth (D.depthA ds)
end
/-- what is read stays to be read -/
def RdS (H H' : Hp) : Prop := ∀ a o, Rd H a o → Rd H' a o
theorem same_rd {H H' : Hp} (h : Same H H') : RdS H H' := fun a o r => by
  rcases r with r | ⟨u, r⟩
  · exact .inl (h _ _ r)
  · exact .inr ⟨u, h _ _ r⟩
mutual
theorem Rep.mono {H H' : Hp} (h : RdS H H') : ∀ {v : V} {d : D}, Rep H v d → Rep H' v d
  | _, _, .non => .non
  | _, _, .bl b => .bl b
  | _, _, .int i => .int i
  | _, _, .str z => .str z
  | _, _, .lst r l a => .lst (h _ _ r) l (RepA.mono h a)
  | _, _, .tup r l a => .tup (h _ _ r) l (RepA.mono h a)
  | _, _, .dct r l a => .dct (h _ _ r) l (RepA.mono h a)
theorem RepA.mono {H H' : Hp} (h : RdS H H') : ∀ {xs : List V} {ds : List D}, RepA H xs ds → RepA H' xs ds
  | _, _, .nil => .nil
  | _, _, .cons r t => .cons (Rep.mono h r) (RepA.mono h t)
end
theorem RepA.length {H : Hp} : ∀ {xs : List V} {ds : List D}, RepA H xs ds → xs.length = ds.length
  | _, _, .nil => rfl
  | _, _, .cons _ t => congrArg Nat.succ (RepA.length t)
theorem RepA.at {H : Hp} : ∀ {xs : List V} {ds : List D} {i : Nat} {x : V}, RepA H xs ds → xs[i]? = some x → ∃ d, ds[i]? = some d ∧ Rep H x d ∧ d.depth ≤ D.depthA ds
  | _, _, _, _, .nil, h => by simp at h
  | _, _, 0, _, .cons r t, h => by
    simp at h
    subst h
    exact ⟨_, rfl, r, by simp only [D.depthA]; omega⟩
  | _, _, i + 1, _, .cons r t, h => by
    obtain ⟨d, e, q, l⟩ := RepA.at t (by simpa using h)
    exact ⟨d, by simpa using e, q, by simp only [D.depthA]; omega⟩
theorem RepA.snoc {H : Hp} {x : V} {d : D} (r : Rep H x d) : ∀ {xs : List V} {ds : List D}, RepA H xs ds → RepA H (xs ++ [x]) (ds ++ [d])
  | _, _, .nil => .cons r .nil
  | _, _, .cons q t => .cons q (RepA.snoc r t)
theorem depthA_snoc : ∀ (ds : List D) (d : D), D.depthA (ds ++ [d]) = max (D.depthA ds) d.depth
  | [], d => by simp [D.depthA]
  | e :: ds, d => by
    simp only [List.cons_append, D.depthA, depthA_snoc ds d]
    omega
/-- a comprehension, a for over a dict: under a lock of its own, or of one that stands -/
def tLockO (t : TE) : TE := fun σ H Q => tLockE t σ H Q ∨ t σ H Q
theorem pe_lockO {X : Cx} {e : Expr} {t : TE} (h : PE X e t) : PE X e (tLockO t) := ⟨fun pins s σ H Q I hw => by
  rcases hw with hw | hw
  · exact (pe_lock h).run pins s σ H Q I hw
  · exact h.run pins s σ H Q I hw⟩
theorem ty_lst {K : PySem.W.Frag} {H : Hp} {a : Addr} {xs : List V} (r : Rd H a (.lst xs)) : TyX K H (.ref a) (.type "list") := by
  rcases r with r | ⟨u, r⟩
  · exact .base (.lst r)
  · exact .base (.frz r)
theorem ty_tup {K : PySem.W.Frag} {H : Hp} {a : Addr} {xs : List V} (r : Rd H a (.tup xs)) : TyX K H (.ref a) (.type "tuple") := by
  rcases r with r | ⟨u, r⟩
  · exact .base (.tup r)
  · exact .fTuple r
theorem ty_dct {K : PySem.W.Frag} {H : Hp} {a : Addr} {kvs : List (Key × V)} (r : Rd H a (.dK kvs)) : TyX K H (.ref a) (.type "dict") := by
  rcases r with r | ⟨u, r⟩
  · exact .base (.dK r)
  · exact .fDict r
/-- the name of a datum's type -/
def D.ty : D → String
  | .lst _ => "list"
  | .tup _ => "tuple"
  | .dct _ => "dict"
  | .non => "NoneType"
  | .bl _ => "bool"
  | .int _ => "int"
  | .str _ => "str"
theorem Rep.ty {K : PySem.W.Frag} {H : Hp} {v : V} {d : D} (r : Rep H v d) : TyX K H v (.type d.ty) := by
  cases r with
  | non => exact .base .non
  | bl b => exact .base (.bl b)
  | int i => exact .base (.int i)
  | str z => exact .base (.str z)
  | lst r => exact ty_lst r
  | tup r => exact ty_tup r
  | dct r => exact ty_dct r
theorem rIsi_rep {K : PySem.W.Frag} {H : Hp} {v : V} {d : D} {T : String} {b : Bool} {Q : VK} (r : Rep H v d) (h : kitB d.ty T = some b) (q : Q (.bl b) H) : rIsi K [v, .ty T] H Q :=
  ⟨v, .ty T, _, _, b, rfl, .ty T, r.ty, kit_ty h, q⟩
end My

namespace My
open PySem PySem.Spec PyProof.Rows L2
local macro_rules | `(tactic| walk_at "hp") => `(tactic| first | assumption | exact upd_same | (refine Eq.trans (upd_ne (by first | assumption | (apply Ne.symm; assumption))) ?_; walk_at "hp"))
local macro_rules | `(tactic| walk_at "ixl") => `(tactic| (refine' ⟨_, ?xs, _, ?vv, rfl, rfl, SqL.of ?hh, ?aa, ?qq⟩; (case hh => walk_at "hp"); (case aa => rfl)))
local macro_rules | `(tactic| walk_at "setl") => `(tactic| (refine' ⟨_, ?xs, _, ?jj, rfl, rfl, ?hh, ?aa, ?qq⟩; (case hh => walk_at "hp"); (case aa => rfl)))
local macro_rules | `(tactic| walk_at "cond") => `(tactic| first | exact Nat.le_of_lt (small1000 (Nat.le_of_ble_eq_true rfl)) | decide | omega | (dsimp only; omega) | exact ⟨by decide, by decide⟩ | exact Or.inr ⟨by decide, by decide⟩ | exact Or.inl ⟨by decide, by decide⟩ | exact ⟨by decide, by decide, by decide⟩ | exact ⟨by omega, by omega⟩ | exact ⟨by omega, by omega, by omega⟩)
local macro_rules | `(tactic| walk_at "st") => `(tactic| repeat (first | refine ⟨_, rfl, ?_⟩ | refine ⟨_, _, rfl, rfl, ?_⟩ | walk_at "ixl" | walk_at "setl" | refine ⟨rfl, ?_⟩ | refine Or.inl ⟨_, rfl, ?_⟩ | refine And.intro (by walk_at "cond") ?_))
section
variable {P : Program} {w : World} {K : PySem.W.Frag} {mg : Str → Option Value} {base : Heap}
theorem ok_draw (T : Txt K mg) : FnOk P w K mg base CX0 1 T.f__law_draw T.fd__law_draw ["_law_stream", "_law_many"] spDraw := by
  refine T.D__law_draw.F.ok sc__law_draw (fun vs H Q E h => ?_) (fun cdv A outer s H vs Q E hr h => ?_)
  · obtain ⟨p, q, n, m, rfl, _⟩ := h.out
    rfl
  · obtain ⟨p, q, n, m, rfl, S, hn, hm, hm2, k⟩ := h.out
    have hu64 := hr.units
    refine ⟨_, (pss_cons (ps_while PassesOwn.never (PW.pt (pw_and (pt_cmpR op_eq (pe_ix ix_list (pv 0) pe_int (fun _ _ => rfl)) pe_int (nomark _)) (pw_and1 (pt_cmpR (op_neD hu64) (pe_ix ix_list (pv 0) pe_int (fun _ _ => rfl)) (pe_lst pa_nil) (nomark _)))))
    (pss_cons (ps_asg (pe_bm PySem.F.plainAttrs_list PySem.F.slot_list_pop PySem.F.type_list_pop mt_popAt (pe_ix ix_list (pv 0) pe_int (fun _ _ => rfl)) (pa_cons pe_int pa_nil)) (pg_sub (pv 0) pe_int set_list (fun _ => rfl)))
  (pss_one (ps_if (pt_cmpR op_lt (pe_ix ix_list (pv 0) pe_int (fun _ _ => rfl)) (pe_op op_pow pe_int pe_int) (nomark _))
    (pss_cons (ps_asg (pe_op op_mod (pe_callTy call_int1 (by rfl) T.B.n_int (by decide +kernel) (pa_cons (pe_op op_add (pe_op op_add (pe_op op_mul (pe_ix ix_list (pv 0) pe_int (fun _ _ => rfl)) pe_int) (pe_ix ix_list (pv 0) pe_int (fun _ _ => rfl))) pe_int) pa_nil)) pe_int) (pg_sub (pv 0) pe_int set_list (fun _ => rfl)))
  (pss_one (ps_asg pe_int (pg_sub (pv 0) pe_int set_list (fun _ => rfl)))))
    pss_nil))))
  (pss_cons (ps_if (pt_cmpR op_gt (pe_ix ix_list (pv 0) pe_int (fun _ _ => rfl)) pe_int (nomark _))
    (pss_cons (ps_set (i := 2) sc__law_draw.nd rfl (by first | exact Or.inl rfl | exact Or.inr rfl) (pe_op op_mod (pe_callTy call_int1 (by rfl) T.B.n_int (by decide +kernel) (pa_cons (pe_ix ix_list (pv 0) pe_int (fun _ _ => rfl)) pa_nil)) (pv 1)))
  (pss_cons (ps_asg (pe_op op_fdiv (pe_ix ix_list (pv 0) pe_int (fun _ _ => rfl)) (pv 1)) (pg_sub (pv 0) pe_int set_list (fun _ => rfl)))
  (pss_one (ps_ret (pv 2)))))
    pss_nil)
  (pss_cons (ps_asg (pe_op op_add (pe_ix ix_list (pv 0) pe_int (fun _ _ => rfl)) pe_int) (pg_sub (pv 0) pe_int set_list (fun _ => rfl)))
  (pss_cons (ps_set (i := 3) sc__law_draw.nd rfl (by first | exact Or.inl rfl | exact Or.inr rfl) (pe_op op_mod (pe_callTy call_int1 (by rfl) T.B.n_int (by decide +kernel) (pa_cons (pe_op op_pow (pe_op op_add (pe_op op_add (pe_ix ix_list (pv 0) pe_int (fun _ _ => rfl)) (pe_op op_mul pe_int (pe_ix ix_list (pv 0) pe_int (fun _ _ => rfl)))) pe_int) pe_int) pa_nil)) pe_int))
  (pss_cons (ps_set (i := 4) sc__law_draw.nd rfl (by first | exact Or.inl rfl | exact Or.inr rfl) (pe_op op_mod (pe_callTy call_int1 (by rfl) T.B.n_int (by decide +kernel) (pa_cons (pe_op op_pow (pe_op op_add (pe_op op_add (pe_op op_mul (pv 3) pe_int) (pe_op op_mul (pe_op op_mul pe_int (pe_ix ix_list (pv 0) pe_int (fun _ _ => rfl))) (pe_ix ix_list (pv 0) pe_int (fun _ _ => rfl)))) pe_int) pe_int) pa_nil)) pe_int))
  (pss_one (ps_ret (pe_op op_mod (pe_callTy call_int1 (by rfl) T.B.n_int (by decide +kernel) (pa_cons (pv 4) pa_nil)) (pv 1))))))))), ?_⟩
    obtain ⟨⟨cs, a, c, SA⟩, n0, n1⟩ := S
    refine while_ex (fun l σ H1 => ∃ cs a c, cs.length = l ∧ σ = [some (.ref p), some (.int m), none, none, none] ∧ StmA H1 p q n cs a c ∧ Same (off H p q) (off H1 p q))
      (fun σ H1 => ∃ cs a c, σ = [some (.ref p), some (.int m), none, none, none] ∧ StmA H1 p q n cs a c ∧ Same (off H p q) (off H1 p q)) ⟨cs.length, cs, a, c, rfl, rfl, SA, Same.refl _⟩ ?_ ?_
    · rintro σ H1 ⟨cs, a, c, rfl, SA, fr⟩
      have hpq := SA.ne
      obtain ⟨hp, hq, a0, c0, c1⟩ := SA
      walk_at "st"
      by_cases ha : a > 0
      · refine if_true_of (decide_eq_true ha) ?_
        walk_at "st"
        refine k (a % m) n _ (Int.emod_nonneg _ (by omega)) (Int.emod_lt_of_pos _ hm) (by omega) ⟨⟨cs, a / m, c, ⟨upd_same, ?_, Int.ediv_nonneg a0 (by omega), c0, c1⟩⟩, n0, n1⟩ ?_
        · rw [upd_ne hpq.symm]; exact hq
        · rw [off_p]; exact fr
      · refine if_false_of (decide_eq_false ha) ?_
        walk_at "st"
        have sq0 : 0 ≤ (n + 1) * (n + 1) := Int.mul_nonneg (by omega) (by omega)
        have sq1 : (n + 1) * (n + 1) ≤ 100000 * 100000 := Int.mul_le_mul hn hn (by omega) (by omega)
        have sqe : 40503 * (n + 1) * (n + 1) = 40503 * ((n + 1) * (n + 1)) := Int.mul_assoc _ _ _
        refine ⟨Or.inr ⟨by omega, by omega⟩, ?_⟩
        walk_at "st"
        refine k _ (n + 1) _ (Int.emod_nonneg _ (by omega)) (Int.emod_lt_of_pos _ hm) (by omega) ⟨⟨cs, a, c, ⟨upd_same, ?_, a0, c0, c1⟩⟩, by omega, hn⟩ ?_
        · rw [upd_ne hpq.symm]; exact hq
        · rw [off_p]; exact fr
    · rintro R fin l σ H1 ⟨cs, a, c, rfl, rfl, SA, fr⟩ NW hNW
      have hpq := SA.ne
      obtain ⟨hp, hq, a0, c0, c1⟩ := SA
      walk_at "st"
      by_cases ha : a = 0
      · refine if_true_of (decide_eq_true (congrArg V.int ha)) ?_
        walk_at "st"
        intro x hx
        have xp : p ≠ x := ne_of_none hp hx
        have xq : q ≠ x := ne_of_none hq hx
        refine ⟨.list (cs.map PyData.int), .list [], .lst (SqL.of (by rw [upd_ne xq]; exact hq)) (dpAll_ints cs), .lst (SqL.of upd_same) .nil, shaped_ints cs, rfl, _, rfl, ?_⟩
        have fr2 : Same (off H p q) (off (upd H1 x (.lst [])) p q) := fr.trans (off_new hx)
        have hp2 : (upd H1 x (.lst [])) p = some (.lst [.ref q, .int a, .int n, .int c]) := by rw [upd_ne xp]; exact hp
        have hq2 : (upd H1 x (.lst [])) q = some (.lst (cs.map V.int)) := by rw [upd_ne xq]; exact hq
        generalize upd H1 x (.lst []) = H2 at fr2 hp2 hq2 ⊢
        cases cs with
        | nil =>
          refine if_false_of rfl ?_
          exact fin _ _ ⟨[], a, c, rfl, ⟨hp2, hq2, a0, c0, c1⟩, fr2⟩
        | cons z r =>
          refine if_true_of rfl ⟨NW, by rw [hNW]; exact fun _ _ => Hd.out, ?_⟩
          walk_at "st"
          refine ⟨.inl ⟨rfl, _, SqL.of hq2⟩, q, _, 0, 0, _, rfl, rfl, hq2, by decide, by decide, seqIndex0, rfl, ?_⟩
          walk_at "st"
          by_cases hz : z < 10 ^ 18
          · refine if_true_of (decide_eq_true hz) ?_
            walk_at "st"
            rw [hNW]; refine .a ⟨r.length, Nat.lt_succ_self _, r, 0, (c * 31 + z + 7) % 2147483647, rfl, rfl, ⟨upd_same, ?_, by decide, Int.emod_nonneg _ (by decide), Int.emod_lt_of_pos _ (by decide)⟩, ?_⟩
            · rw [upd_ne hpq.symm, upd_ne hpq.symm, upd_ne hpq.symm]; exact upd_same
            · rw [off_p, off_p, off_p, off_q]; exact fr2
          · refine if_false_of (decide_eq_false hz) ?_
            walk_at "st"
            rw [hNW]; refine .a ⟨r.length, Nat.lt_succ_self _, r, z, c, rfl, rfl, ⟨upd_same, ?_, by omega, c0, c1⟩, ?_⟩
            · rw [upd_ne hpq.symm]; exact upd_same
            · rw [off_p, off_q]; exact fr2
      · refine if_false_of (decide_eq_false fun e => ha (V.int.inj e)) ?_
        exact fin _ _ ⟨cs, a, c, rfl, ⟨hp, hq, a0, c0, c1⟩, fr⟩
end
end My

namespace My
open PySem PySem.Spec PyProof.Rows L2
local macro_rules | `(tactic| walk_at "hp") => `(tactic| first | assumption | exact upd_same | (refine Eq.trans (upd_ne (by first | assumption | (apply Ne.symm; assumption))) ?_; walk_at "hp"))
local macro_rules | `(tactic| walk_at "ixl") => `(tactic| (refine' ⟨_, ?xs, _, ?vv, rfl, rfl, SqL.of ?hh, ?aa, ?qq⟩; (case hh => walk_at "hp"); (case aa => rfl)))
local macro_rules | `(tactic| walk_at "setl") => `(tactic| (refine' ⟨_, ?xs, _, ?jj, rfl, rfl, ?hh, ?aa, ?qq⟩; (case hh => walk_at "hp"); (case aa => rfl)))
local macro_rules | `(tactic| walk_at "cond") => `(tactic| first | exact Nat.le_of_lt (small1000 (Nat.le_of_ble_eq_true rfl)) | decide | omega | (dsimp only; omega) | exact ⟨by decide, by decide⟩ | exact Or.inr ⟨by decide, by decide⟩ | exact Or.inl ⟨by decide, by decide⟩ | exact ⟨by decide, by decide, by decide⟩ | exact ⟨by omega, by omega⟩ | exact ⟨by omega, by omega, by omega⟩)
local macro_rules | `(tactic| walk_at "st") => `(tactic| repeat (first | refine ⟨_, rfl, ?_⟩ | refine ⟨_, _, rfl, rfl, ?_⟩ | walk_at "ixl" | walk_at "setl" | refine ⟨rfl, ?_⟩ | refine Or.inl ⟨_, rfl, ?_⟩ | refine And.intro (by walk_at "cond") ?_))
theorem off_same {H : Hp} {p q : Addr} : Same (off H p q) H := fun b o e => by
  unfold off at e
  by_cases h : b = p ∨ b = q
  · rw [if_pos h] at e; cases e
  · rw [if_neg h] at e; exact e
theorem off_mono {H H' : Hp} {p q : Addr} (h : Same H H') : Same (off H p q) (off H' p q) := fun b o e => by
  unfold off at e ⊢
  by_cases c : b = p ∨ b = q
  · rw [if_pos c] at e; cases e
  · rw [if_neg c] at e ⊢
    exact h _ _ e
theorem same_new {H : Hp} {x : Addr} {o : HO} (hx : H x = none) : Same H (upd H x o) := fun b u e => by
  rw [upd_ne (ne_of_none e hx)]
  exact e
theorem Stm.same {H H' : Hp} {p q : Addr} {n : Int} (S : Stm H p q n) (h : Same H H') : Stm H' p q n := by
  obtain ⟨⟨cs, a, c, SA⟩, n0, n1⟩ := S
  exact ⟨⟨cs, a, c, ⟨h _ _ SA.hp, h _ _ SA.hq, SA.a0, SA.c0, SA.c1⟩⟩, n0, n1⟩
/-- a list of the call's own that is none of the stream's -/
def spPick : Sp := fun vs H Q _ => Hd (∃ (p q l : Addr) (n : Int) (xs : List V), vs = [.ref p, .ref l] ∧ Stm H p q n ∧ n + 1 ≤ 100000 ∧ off H p q l = some (.lst xs) ∧ 0 < xs.length ∧ xs.length < 1000 ∧
  ∀ (v : V) (n' : Int) (H' : Hp), v ∈ xs → n' ≤ n + 1 → Stm H' p q n' → Same (off H p q) (off H' p q) → Q v H')
section
variable {P : Program} {w : World} {K : PySem.W.Frag} {mg : Str → Option Value} {base : Heap}
theorem ok_pick (T : Txt K mg) : FnOk P w K mg base CX0 2 T.f__law_pick T.fd__law_pick ["_law_stream", "_law_some"] spPick := by
  have G__law_draw : FnOk P w K mg base CX0 1 T.f__law_draw T.fd__law_draw _ spDraw := ok_draw T
  refine T.D__law_pick.F.ok sc__law_pick (fun vs H Q E h => ?_) (fun cdv A outer s H vs Q E hr h => ?_)
  · obtain ⟨p, q, l, n, xs, rfl, _⟩ := h.out
    rfl
  · obtain ⟨p, q, l, n, xs, rfl, S, hn, hl, l0, l1, k⟩ := h.out
    refine ⟨_, (pss_one (ps_ret (pe_ix ix_list (pv 1) (pe_call G__law_draw (hr.mono (by first | decide | omega)) rfl T.D__law_draw.g T.D__law_draw.F.kp T.D__law_draw.b .nil pass0 (pa_cons (pv 0) (pa_cons (pe_callB call_len_seq (by rfl) T.B.n_len (by decide +kernel) (pa_cons (pv 1) pa_nil)) pa_nil))) (fun _ _ => rfl)))), ?_⟩
    have hl2 := off_same _ _ hl
    refine ⟨_, rfl, _, rfl, _, rfl, l, xs, rfl, .inl (SqL.of hl2), ?_⟩
    refine .a ⟨p, q, n, (xs.length : Int), rfl, S, hn, by omega, by omega, fun d n' H' d0 d1 hn' S' fr => ?_⟩
    obtain ⟨j, rfl⟩ : ∃ j : Nat, d = (j : Int) := ⟨d.toNat, by omega⟩
    have hj : j < xs.length := by omega
    refine ⟨l, xs, _, xs[j], rfl, rfl, SqL.of (off_same _ _ (fr _ _ hl)), atI_nat (by simp [hj]), ?_⟩
    exact k _ n' H' (List.getElem_mem hj) hn' S' fr
/-- a datum of at most so many levels; the draws that it takes -/
def cost : Nat → Int
  | 0 => 1
  | d + 1 => 2 + 3 * cost d
theorem cost_pos : ∀ d, 1 ≤ cost d
  | 0 => by decide
  | d + 1 => by have := cost_pos d; simp only [cost]; omega
/-- what is new since H0 -/
def nw (H0 H : Hp) : Hp := fun b => if (H0 b).isNone = true then H b else none
theorem nw_none {H0 H : Hp} {b : Addr} (h : H0 b = none) : nw H0 H b = H b := by
  unfold nw
  rw [h]
  rfl
theorem nw_some {H0 H : Hp} {b : Addr} {o : HO} (h : nw H0 H b = some o) : H0 b = none ∧ H b = some o := by
  unfold nw at h
  cases e : H0 b with
  | none => rw [e] at h; exact ⟨rfl, h⟩
  | some u => rw [e] at h; cases h
theorem nw_same {H0 H : Hp} : Same (nw H0 H) H := fun b o e => (nw_some e).2
/-- all but the stream stands, and what stood is there -/
structure Xt (H H' : Hp) (p q : Addr) : Prop where
  fr : Same (off H p q) (off H' p q)
  dm : ∀ b, H' b = none → H b = none
theorem Xt.refl {H : Hp} {p q : Addr} : Xt H H p q := ⟨Same.refl _, fun _ h => h⟩
theorem Xt.trans {H H1 H2 : Hp} {p q : Addr} (a : Xt H H1 p q) (b : Xt H1 H2 p q) : Xt H H2 p q := ⟨a.fr.trans b.fr, fun c h => a.dm c (b.dm c h)⟩
theorem Xt.new {H : Hp} {p q x : Addr} {o : HO} (hx : H x = none) : Xt H (upd H x o) p q := ⟨off_new hx, fun b h => by
  by_cases e : b = x
  · rw [e]; exact hx
  · rw [upd_ne e] at h; exact h⟩
theorem Xt.same {H H' : Hp} {p q : Addr} (h : Same H H') : Xt H H' p q := ⟨off_mono h, fun b e => h.free e⟩
/-- what is written at a place that is new since H -/
theorem Xt.put {H H' : Hp} {p q x : Addr} {o : HO} (a : Xt H H' p q) (hx : H x = none) : Xt H (upd H' x o) p q := ⟨fun b u e => by
  have hb : b ≠ x := fun z => by
    have := off_same _ _ e
    rw [z, hx] at this; cases this
  have q1 := a.fr _ _ e
  unfold off at q1 ⊢
  by_cases c : b = p ∨ b = q
  · rw [if_pos c] at q1; cases q1
  · rw [if_neg c] at q1 ⊢
    rw [upd_ne hb]; exact q1, fun b h => by
  by_cases e : b = x
  · rw [e]; exact hx
  · rw [upd_ne e] at h; exact a.dm b h⟩
theorem Xt.of {H H' : Hp} {p q : Addr} {n n' : Int} (S' : Stm H' p q n') (fr : Same (off H p q) (off H' p q)) : Xt H H' p q := ⟨fr, fun b h => by
  obtain ⟨⟨cs, a, c, SA⟩, _, _⟩ := S'
  cases e : H b with
  | none => rfl
  | some o =>
    by_cases z : b = p ∨ b = q
    · rcases z with rfl | rfl
      · rw [SA.hp] at h; cases h
      · rw [SA.hq] at h; cases h
    · have q1 : off H' p q b = some o := fr b o (by unfold off; rw [if_neg z]; exact e)
      rw [off_same _ _ q1] at h; cases h⟩
theorem Stm.there {H : Hp} {p q : Addr} {n : Int} (S : Stm H p q n) : H p ≠ none ∧ H q ≠ none := by
  obtain ⟨⟨cs, a, c, SA⟩, _, _⟩ := S
  exact ⟨by rw [SA.hp]; exact (fun z => nomatch z), by rw [SA.hq]; exact (fun z => nomatch z)⟩
/-- what is new stays behind draws -/
theorem nw_mono {H0 H H' : Hp} {p q : Addr} (hp : H0 p ≠ none) (hq : H0 q ≠ none) (fr : Same (off H p q) (off H' p q)) : Same (nw H0 H) (nw H0 H') := fun b o e => by
  obtain ⟨h0, h1⟩ := nw_some e
  rw [nw_none h0]
  have z : ¬ (b = p ∨ b = q) := fun z => by
    rcases z with rfl | rfl
    · exact hp h0
    · exact hq h0
  exact off_same _ _ (fr b o (by unfold off; rw [if_neg z]; exact h1))
/-- new since later, new since earlier -/
theorem nw_low {H0 H1 H : Hp} (dm : ∀ b, H1 b = none → H0 b = none) : Same (nw H1 H) (nw H0 H) := fun b o e => by
  obtain ⟨h0, h1⟩ := nw_some e
  rw [nw_none (dm b h0)]
  exact h1
theorem Xt.at {H H' : Hp} {p q b : Addr} {o : HO} (x : Xt H H' p q) (h : H b = some o) (hp : b ≠ p) (hq : b ≠ q) : H' b = some o :=
  off_same _ _ (x.fr b o (by unfold off; rw [if_neg (fun z => z.elim hp hq)]; exact h))
theorem Stm.put {H : Hp} {p q x : Addr} {n : Int} {o : HO} (S : Stm H p q n) (hp : x ≠ p) (hq : x ≠ q) : Stm (upd H x o) p q n := by
  obtain ⟨⟨cs, a, c, SA⟩, n0, n1⟩ := S
  exact ⟨⟨cs, a, c, ⟨by rw [upd_ne hp.symm]; exact SA.hp, by rw [upd_ne hq.symm]; exact SA.hq, SA.a0, SA.c0, SA.c1⟩⟩, n0, n1⟩
theorem nw_put {H0 H : Hp} {x : Addr} {o : HO} (hx : H0 x ≠ none) : nw H0 (upd H x o) = nw H0 H := by
  funext b
  unfold nw
  cases e : H0 b with
  | none =>
    have hb : b ≠ x := fun z => hx (by rw [← z]; exact e)
    simp [upd_ne hb]
  | some u => rfl
def spObj (deep : Nat) : Sp := fun vs H Q _ => Hd (∃ (p q : Addr) (n : Int), vs = [.ref p, .int (deep : Int)] ∧ Stm H p q n ∧ n + cost deep ≤ 100000 ∧
  ∀ (v : V) (d : D) (n' : Int) (H' : Hp), Rep (nw H H') v d → d.depth ≤ deep → n' ≤ n + cost deep → Stm H' p q n' → Xt H H' p q → Q v H')
theorem off_at {H : Hp} {p q x : Addr} {n : Int} {o : HO} (S : Stm H p q n) (hx : H x = none) : off (upd H x o) p q x = some o := by
  obtain ⟨⟨cs, a, c, SA⟩, _, _⟩ := S
  unfold off
  rw [if_neg (fun h => by
    rcases h with rfl | rfl
    · rw [SA.hp] at hx; cases hx
    · rw [SA.hq] at hx; cases hx)]
  exact upd_same
/-- the plain values -/
def IsSc (v : V) : Prop := ∃ d : D, d.depth = 0 ∧ ∀ H, Rep H v d
theorem sc_mem {xs : List V} (h : ∀ v ∈ xs, IsSc v) {v : V} (hv : v ∈ xs) : IsSc v := h v hv
theorem sc_non : IsSc .non := ⟨.non, rfl, fun _ => .non⟩
theorem sc_bl {b : Bool} : IsSc (.bl b) := ⟨.bl b, rfl, fun _ => .bl b⟩
theorem sc_int {i : Int} : IsSc (.int i) := ⟨.int i, rfl, fun _ => .int i⟩
theorem sc_str {z : Str} : IsSc (.str z) := ⟨.str z, rfl, fun _ => .str z⟩
theorem sc_nil : ∀ v ∈ ([] : List V), IsSc v := fun _ h => nomatch h
theorem sc_cons {x : V} {xs : List V} (h : IsSc x) (t : ∀ v ∈ xs, IsSc v) : ∀ v ∈ x :: xs, IsSc v := fun v hv => by
  rcases List.mem_cons.mp hv with rfl | hv
  · exact h
  · exact t v hv
theorem ok_obj0 (T : Txt K mg) : FnOk P w K mg base CX0 3 T.f__law_object T.fd__law_object ["_law_stream", "_law_deep"] (spObj 0) := by
  have G__law_draw : FnOk P w K mg base CX0 1 T.f__law_draw T.fd__law_draw _ spDraw := ok_draw T
  have G__law_pick : FnOk P w K mg base CX0 2 T.f__law_pick T.fd__law_pick _ spPick := ok_pick T
  have G__law_object : FnOk P w K mg base CX0 1 T.f__law_object T.fd__law_object ["_law_stream", "_law_deep"] (fun _ _ _ _ => False) := ⟨fun _ _ _ _ h => h.elim, fun _ _ _ _ _ _ _ _ _ _ _ _ _ h => h.elim⟩
  refine T.D__law_object.F.ok sc__law_object (fun vs H Q E h => ?_) (fun cdv A outer s H vs Q E hr h => ?_)
  · obtain ⟨p, q, n, rfl, _⟩ := h.out
    rfl
  · obtain ⟨p, q, n, rfl, S, hn, k⟩ := h.out
    refine ⟨_, (pss_cons (ps_set (i := 2) sc__law_object.nd rfl (by first | exact Or.inl rfl | exact Or.inr rfl) (pe_ifExp (pt_cmpR op_gt (pv 1) pe_int (nomark _)) (pe_call G__law_draw (hr.mono (by first | decide | omega)) rfl T.D__law_draw.g T.D__law_draw.F.kp T.D__law_draw.b .nil pass0 (pa_cons (pv 0) (pa_cons pe_int pa_nil))) pe_int))
  (pss_cons (ps_if (pt_cmpR op_lt (pv 2) pe_int (nomark _))
    (pss_cons (ps_set (i := 3) sc__law_object.nd rfl (by first | exact Or.inl rfl | exact Or.inr rfl) (pe_lst (pa_cons pe_non (pa_cons pe_bl (pa_cons pe_bl (pa_cons pe_int (pa_cons pe_int (pa_cons (pe_un un_neg pe_int) (pa_cons (pe_op op_pow pe_int pe_int) (pa_cons pe_str (pa_cons pe_str (pa_cons pe_str (pa_cons pe_str (pa_cons pe_str (pa_cons pe_str pa_nil)))))))))))))))
  (pss_one (ps_ret (pe_call G__law_pick (hr.mono (by first | decide | omega)) rfl T.D__law_pick.g T.D__law_pick.F.kp T.D__law_pick.b .nil pass0 (pa_cons (pv 0) (pa_cons (pv 3) pa_nil))))))
    pss_nil)
  (pss_cons (ps_setLc (i := 4) (own := [("_law_k", 5)]) (g := gName 5) rfl sc__law_object.nd rfl rfl (sw_true rfl rfl rfl (by decide +kernel)) (pi_range1 rfl T.B.n_range (pa_cons (pe_call G__law_draw (hr.mono (by first | decide | omega)) rfl T.D__law_draw.g T.D__law_draw.F.kp T.D__law_draw.b .nil pass0 (pa_cons (pv 0) (pa_cons pe_int pa_nil))) pa_nil)) (blkOk_by (N := ["_law_stream", "_law_deep", "_law_way", "_law_some", "_law_parts", "_law_k"]) (sc := defScope s__law_object) (by decide +kernel)) (fun _ _ _ _ _ => (pg_name (i := 5) sc__law_object.nd rfl (by first | exact Or.inl rfl | exact Or.inr rfl))) (fun _ _ _ _ _ => pts_nil) (fun _ _ _ _ _ => (pe_call G__law_object (hr.mono (by first | decide | omega)) rfl T.D__law_object.g T.D__law_object.F.kp T.D__law_object.b .nil pass0 (pa_cons (pv 0) (pa_cons (pe_op op_sub (pv 1) pe_int) pa_nil)))))
  (pss_cons (ps_if (pt_cmpR op_eq (pv 2) pe_int (nomark _))
    (pss_one (ps_ret (pv 4)))
    pss_nil)
  (pss_one (ps_ret (pe_ifExp (pt_cmpR op_eq (pv 2) pe_int (nomark _)) (pe_callTy call_tuple_of (by rfl) T.B.n_tuple (by decide +kernel) (pa_cons (pv 4) pa_nil)) (pe_dictZip rfl (by rfl) T.B.n_dict (by rfl) T.B.n_zip (pa_cons (pe_lst (pa_cons pe_str (pa_cons pe_str (pa_cons pe_str pa_nil)))) (pa_cons (pv 4) pa_nil)))))))))), ?_⟩
    walk_at "st"
    intro l hl
    walk_at "st"
    refine .a ⟨p, q, l, n, _, rfl, S.same (same_new hl), hn, off_at S hl, Nat.zero_lt_succ _, by dsimp only [List.length]; omega, fun v n' H' hv hn' S' fr => ?_⟩
    obtain ⟨d, d0, r⟩ := sc_mem (by repeat' (first | exact sc_non | exact sc_bl | exact sc_int | exact sc_str | exact sc_nil | refine sc_cons ?_ ?_)) hv
    exact k v d n' H' (r _) (Nat.le_of_eq d0) hn' S' (.of (n := n) S' ((off_new hl).trans fr))
theorem ok_objS (T : Txt K mg) (deep : Nat) (G__law_object : FnOk P w K mg base CX0 (deep + 3) T.f__law_object T.fd__law_object ["_law_stream", "_law_deep"] (spObj deep)) :
    FnOk P w K mg base CX0 (deep + 1 + 3) T.f__law_object T.fd__law_object ["_law_stream", "_law_deep"] (spObj (deep + 1)) := by
  have G__law_draw : FnOk P w K mg base CX0 1 T.f__law_draw T.fd__law_draw _ spDraw := ok_draw T
  have G__law_pick : FnOk P w K mg base CX0 2 T.f__law_pick T.fd__law_pick _ spPick := ok_pick T
  refine T.D__law_object.F.ok sc__law_object (fun vs H Q E h => ?_) (fun cdv A outer s H vs Q E hr h => ?_)
  · obtain ⟨p, q, n, rfl, _⟩ := h.out
    rfl
  · obtain ⟨p, q, n, rfl, S, hn, k⟩ := h.out
    have hc := cost_pos deep
    have hn2 : n + (2 + 3 * cost deep) ≤ 100000 := hn
    refine ⟨_, (pss_cons (ps_set (i := 2) sc__law_object.nd rfl (by first | exact Or.inl rfl | exact Or.inr rfl) (pe_ifExp (pt_cmpR op_gt (pv 1) pe_int (nomark _)) (pe_call G__law_draw (hr.mono (by first | decide | omega)) rfl T.D__law_draw.g T.D__law_draw.F.kp T.D__law_draw.b .nil pass0 (pa_cons (pv 0) (pa_cons pe_int pa_nil))) pe_int))
  (pss_cons (ps_if (pt_cmpR op_lt (pv 2) pe_int (nomark _))
    (pss_cons (ps_set (i := 3) sc__law_object.nd rfl (by first | exact Or.inl rfl | exact Or.inr rfl) (pe_lst (pa_cons pe_non (pa_cons pe_bl (pa_cons pe_bl (pa_cons pe_int (pa_cons pe_int (pa_cons (pe_un un_neg pe_int) (pa_cons (pe_op op_pow pe_int pe_int) (pa_cons pe_str (pa_cons pe_str (pa_cons pe_str (pa_cons pe_str (pa_cons pe_str (pa_cons pe_str pa_nil)))))))))))))))
  (pss_one (ps_ret (pe_call G__law_pick (hr.mono (by first | decide | omega)) rfl T.D__law_pick.g T.D__law_pick.F.kp T.D__law_pick.b .nil pass0 (pa_cons (pv 0) (pa_cons (pv 3) pa_nil))))))
    pss_nil)
  (pss_cons (ps_setLc (i := 4) (own := [("_law_k", 5)]) (g := gName 5) rfl sc__law_object.nd rfl rfl (sw_true rfl rfl rfl (by decide +kernel)) (pi_range1 rfl T.B.n_range (pa_cons (pe_call G__law_draw (hr.mono (by first | decide | omega)) rfl T.D__law_draw.g T.D__law_draw.F.kp T.D__law_draw.b .nil pass0 (pa_cons (pv 0) (pa_cons pe_int pa_nil))) pa_nil)) (blkOk_by (N := ["_law_stream", "_law_deep", "_law_way", "_law_some", "_law_parts", "_law_k"]) (sc := defScope s__law_object) (by decide +kernel)) (fun _ _ _ _ _ => (pg_name (i := 5) sc__law_object.nd rfl (by first | exact Or.inl rfl | exact Or.inr rfl))) (fun _ _ _ _ _ => pts_nil) (fun _ _ _ _ _ => (pe_call G__law_object (hr.mono (by first | decide | omega)) rfl T.D__law_object.g T.D__law_object.F.kp T.D__law_object.b .nil pass0 (pa_cons (pv 0) (pa_cons (pe_op op_sub (pv 1) pe_int) pa_nil)))))
  (pss_cons (ps_if (pt_cmpR op_eq (pv 2) pe_int (nomark _))
    (pss_one (ps_ret (pv 4)))
    pss_nil)
  (pss_one (ps_ret (pe_ifExp (pt_cmpR op_eq (pv 2) pe_int (nomark _)) (pe_callTy call_tuple_of (by rfl) T.B.n_tuple (by decide +kernel) (pa_cons (pv 4) pa_nil)) (pe_dictZip rfl (by rfl) T.B.n_dict (by rfl) T.B.n_zip (pa_cons (pe_lst (pa_cons pe_str (pa_cons pe_str (pa_cons pe_str pa_nil)))) (pa_cons (pv 4) pa_nil)))))))))), ?_⟩
    walk_at "st"
    refine if_true_of (decide_eq_true (by omega)) ?_
    walk_at "st"
    refine .a ⟨p, q, n, 6, rfl, S, by omega, by decide, by decide, fun d n1 H1 d0 d1 hn1 S1 fr1 => ?_⟩
    walk_at "st"
    by_cases h3 : d < 3
    · refine if_true_of (decide_eq_true h3) ?_
      walk_at "st"
      intro l hl
      walk_at "st"
      refine .a ⟨p, q, l, n1, _, rfl, S1.same (same_new hl), by omega, off_at S1 hl, Nat.zero_lt_succ _, by dsimp only [List.length]; omega, fun v n' H' hv hn' S' fr => ?_⟩
      obtain ⟨dd, e0, r⟩ := sc_mem (by repeat' (first | exact sc_non | exact sc_bl | exact sc_int | exact sc_str | exact sc_nil | refine sc_cons ?_ ?_)) hv
      exact k v dd n' H' (r _) (by omega) (by simp only [cost]; omega) S' (.of (n := n) S' ((fr1.trans (off_new hl)).trans fr))
    · refine if_false_of (decide_eq_false h3) ?_
      walk_at "st"
      refine .a ⟨p, q, n1, 4, rfl, S1, by omega, by decide, by decide, fun m n2 H2 m0 m1 hn2' S2 fr2 => ?_⟩
      have x2 : Xt H H2 p q := .of (n := n) S2 (fr1.trans fr2)
      refine ⟨m, rfl, by omega, by omega, fun D0 hD => ?_⟩
      have hHD : (upd H2 D0 (.lst [])) D0 ≠ none := by rw [upd_same]; exact fun z => nomatch z
      have th := (S2.same (same_new (o := .lst []) hD)).there
      refine lc_range (lo := 0) (n := m.toNat) (fun i H3 => ∃ xs ds n3, H3 D0 = some (.lst xs) ∧ xs.length = i ∧ RepA (nw (upd H2 D0 (.lst [])) H3) xs ds ∧ D.depthA ds ≤ deep ∧ n3 ≤ n2 + i * cost deep ∧
        Stm H3 p q n3 ∧ Xt H2 H3 p q) ⟨[], [], n2, upd_same, rfl, .nil, Nat.zero_le _, by omega, S2.same (same_new hD), .new hD⟩ ?_ ?_
      · rintro i H3 hi ⟨xs, ds, n3, h1, h2, h3, h4, h5, S3, x3⟩
        have hcost : (i : Int) * cost deep ≤ 2 * cost deep := Int.mul_le_mul_of_nonneg_right (by omega) (by omega)
        refine ⟨rfl, ?_⟩
        walk_at "st"
        have dp : D0 ≠ p := fun z => S2.there.1 (by rw [← z]; exact hD)
        have dq : D0 ≠ q := fun z => S2.there.2 (by rw [← z]; exact hD)
        refine .a ⟨p, q, n3, ?_, S3, by omega, fun v dv n4 H4 rv hdv hn4 S4 x4 => ⟨xs, x4.at h1 dp dq, ?_, xs ++ [v], ds ++ [dv], n4, upd_same, by simp [h2], ?_, ?_, ?_, S4.put dp dq, (x3.trans x4).put hD⟩⟩
        · show [V.ref p, V.int (((deep + 1 : Nat) : Int) - 1)] = _
          rw [show (((deep + 1 : Nat) : Int) - 1) = (deep : Int) by omega]
        · rw [h2]; exact small1000 (by omega)
        · rw [nw_put hHD]
          refine .snoc (rv.mono (same_rd (nw_low fun b hb => ?_))) (h3.mono (same_rd (nw_mono th.1 th.2 x4.fr)))
          by_cases e : b = D0
          · rw [e, h1] at hb; cases hb
          · rw [upd_ne e]; exact x3.dm b hb
        · rw [depthA_snoc]; omega
        · have e : ((i + 1 : Nat) : Int) * cost deep = i * cost deep + cost deep := by
            rw [show ((i + 1 : Nat) : Int) = (i : Int) + 1 by omega, Int.add_mul, Int.one_mul]
          omega
      · rintro H3 ⟨xs, ds, n3, h1, h2, h3, h4, h5, S3, x3⟩
        have hcost : (m.toNat : Int) * cost deep ≤ 3 * cost deep := Int.mul_le_mul_of_nonneg_right (by omega) (by omega)
        have hn3 : n3 ≤ n + cost (deep + 1) := by simp only [cost]; omega
        have lx : xs.length ≤ 3 := by omega
        have x13 : Xt H H3 p q := x2.trans x3
        have dm : ∀ b, (upd H2 D0 (.lst [])) b = none → H b = none := fun b hb => by
          by_cases e : b = D0
          · rw [e, upd_same] at hb; cases hb
          · rw [upd_ne e] at hb; exact x2.dm b hb
        have r3 : RepA (nw H H3) xs ds := h3.mono (same_rd (nw_low dm))
        have hD0 : H D0 = none := x2.dm D0 hD
        walk_at "st"
        by_cases d3 : d = 3
        · refine if_true_of (decide_eq_true (congrArg V.int d3)) ?_
          walk_at "st"
          exact k (.ref D0) (.lst ds) n3 H3 (.lst (.inl (by rw [nw_none hD0]; exact h1)) lx r3) (by simp only [D.depth]; omega) hn3 S3 x13
        · refine if_false_of (decide_eq_false fun e => d3 (V.int.inj e)) ?_
          walk_at "st"
          by_cases d4 : d = 4
          · refine if_true_of (decide_eq_true (congrArg V.int d4)) ?_
            walk_at "st"
            refine ⟨D0, xs, rfl, .inl ⟨SqL.of h1, fun t ht => ?_⟩⟩
            have hHt : H t = none := x13.dm t ht
            exact k (.ref t) (.tup ds) n3 _ (.tup (.inl (by rw [nw_none hHt]; exact upd_same)) lx (r3.mono (same_rd fun b o e => by
              obtain ⟨e1, e2⟩ := nw_some e
              rw [nw_none e1, upd_ne (ne_of_none e2 ht)]
              exact e2))) (by simp only [D.depth]; omega) hn3 (S3.same (same_new ht)) (x13.trans (.new ht))
          · refine if_false_of (decide_eq_false fun e => d4 (V.int.inj e)) ?_
            walk_at "st"
            intro l hl
            walk_at "st"
            refine ⟨l, D0, keys3, xs, rfl, SqL.of upd_same, SqL.of (by rw [upd_ne (ne_of_none h1 hl)]; exact h1), fun t ht => ?_⟩
            have hHl : H l = none := x13.dm l hl
            have x14 : Xt H (upd H3 l (.lst [.str "a", .str "b", .str "message"])) p q := x13.trans (.new hl)
            have hHt : H t = none := x14.dm t ht
            have em : mergeK [] ((keys3.zip xs).map fun kv => ((Sum.inr kv.1 : Key), kv.2)) = kz xs := mergeK_kz xs
            rw [em]
            exact k (.ref t) (.dct ds) n3 _ (.dct (.inl (by rw [nw_none hHt]; exact upd_same)) lx (r3.mono (same_rd fun b o e => by
              obtain ⟨e1, e2⟩ := nw_some e
              have e3 : (upd H3 l (.lst [.str "a", .str "b", .str "message"])) b = some o := by rw [upd_ne (ne_of_none e2 hl)]; exact e2
              rw [nw_none e1, upd_ne (ne_of_none e3 ht)]
              exact e3))) (by simp only [D.depth]; omega) hn3 ((S3.same (same_new hl)).same (same_new ht)) (x14.trans (.new ht))
/-- for every number of levels -/
theorem ok_obj (T : Txt K mg) : ∀ deep, FnOk P w K mg base CX0 (deep + 3) T.f__law_object T.fd__law_object ["_law_stream", "_law_deep"] (spObj deep)
  | 0 => ok_obj0 T
  | deep + 1 => ok_objS T deep (ok_obj T deep)
end
end My

namespace My
open PySem PySem.Spec PyProof.Rows L2
local macro_rules | `(tactic| walk_at "hp") => `(tactic| first | assumption | exact upd_same | (refine Eq.trans (upd_ne (by first | assumption | (apply Ne.symm; assumption))) ?_; walk_at "hp"))
local macro_rules | `(tactic| walk_at "ixl") => `(tactic| (refine' ⟨_, ?xs, _, ?vv, rfl, rfl, SqL.of ?hh, ?aa, ?qq⟩; (case hh => walk_at "hp"); (case aa => rfl)))
local macro_rules | `(tactic| walk_at "setl") => `(tactic| (refine' ⟨_, ?xs, _, ?jj, rfl, rfl, ?hh, ?aa, ?qq⟩; (case hh => walk_at "hp"); (case aa => rfl)))
local macro_rules | `(tactic| walk_at "cond") => `(tactic| first | exact Nat.le_of_lt (small1000 (Nat.le_of_ble_eq_true rfl)) | decide | omega | (dsimp only; omega) | exact ⟨by decide, by decide⟩ | exact Or.inr ⟨by decide, by decide⟩ | exact Or.inl ⟨by decide, by decide⟩ | exact ⟨by decide, by decide, by decide⟩ | exact ⟨by omega, by omega⟩ | exact ⟨by omega, by omega, by omega⟩)
local macro_rules | `(tactic| walk_at "st") => `(tactic| repeat (first | refine ⟨_, rfl, ?_⟩ | refine ⟨_, _, rfl, rfl, ?_⟩ | walk_at "ixl" | walk_at "setl" | refine ⟨rfl, ?_⟩ | refine Or.inl ⟨_, rfl, ?_⟩ | refine And.intro (by walk_at "cond") ?_))
/-- a copy of a datum of fewer levels -/
def spCop (k : Nat) : Sp := fun vs H Q _ => Hd (∃ (v : V) (d : D), vs = [v] ∧ Rep H v d ∧ d.depth < k ∧ ∀ (v' : V) (H' : Hp), Rep (nw H H') v' d → Same H H' → Q v' H')
theorem take_snoc {α : Type} {l : List α} {i : Nat} {x : α} (h : l[i]? = some x) : l.take (i + 1) = l.take i ++ [x] := by
  obtain ⟨h1, h2⟩ := List.getElem?_eq_some_iff.mp h
  rw [← h2, List.take_append_getElem h1]
theorem same_put {H H' : Hp} {x : Addr} {o : HO} (h : Same H H') (hx : H x = none) : Same H (upd H' x o) := fun b u e => by
  rw [upd_ne (ne_of_none e hx)]
  exact h _ _ e
theorem nw_step {H0 H H' : Hp} (h : Same H H') : Same (nw H0 H) (nw H0 H') := fun b o e => by
  obtain ⟨e1, e2⟩ := nw_some e
  rw [nw_none e1]
  exact h _ _ e2
section
variable {P : Program} {w : World} {K : PySem.W.Frag} {mg : Str → Option Value} {base : Heap}
/-- what a turn of the copying comprehensions leaves -/
structure CopP (H : Hp) (D0 : Addr) (ds : List D) (i : Nat) (H3 : Hp) : Prop where
  ex : ∃ ys, H3 D0 = some (.lst ys) ∧ ys.length = i ∧ RepA (nw (upd H D0 (.lst [])) H3) ys (ds.take i)
  sm : Same H H3
theorem CopP.zero {H : Hp} {D0 : Addr} (hD : H D0 = none) (ds : List D) : CopP H D0 ds 0 (upd H D0 (.lst [])) :=
  ⟨⟨[], upd_same, rfl, .nil⟩, same_put (Same.refl _) hD⟩
theorem CopP.next {H H3 H4 : Hp} {D0 : Addr} {ds : List D} {i : Nat} {d : D} {v : V} (c : CopP H D0 ds i H3) (hD : H D0 = none) (hd : ds[i]? = some d) (hi : i < 1000) (r : Rep (nw H3 H4) v d) (sm : Same H3 H4) :
    ∃ acc, H4 D0 = some (.lst acc) ∧ acc.length < sizeLine ∧ CopP H D0 ds (i + 1) (upd H4 D0 (.lst (acc ++ [v]))) := by
  obtain ⟨⟨ys, h1, h2, h3⟩, h4⟩ := c
  have hHD : (upd H D0 (.lst [])) D0 ≠ none := by rw [upd_same]; exact (fun z => nomatch z)
  refine ⟨ys, sm _ _ h1, by rw [h2]; exact small1000 (by omega), ⟨ys ++ [v], upd_same, by simp [h2], ?_⟩, same_put (h4.trans sm) hD⟩
  rw [nw_put hHD, take_snoc hd]
  refine .snoc (r.mono (same_rd (nw_low fun b hb => ?_))) (h3.mono (same_rd (nw_step sm)))
  by_cases e : b = D0
  · rw [e, h1] at hb; cases hb
  · rw [upd_ne e]; exact h4.free hb
theorem CopP.done {H H3 : Hp} {D0 : Addr} {ds : List D} (c : CopP H D0 ds ds.length H3) (hD : H D0 = none) : ∃ ys, H3 D0 = some (.lst ys) ∧ ys.length = ds.length ∧ RepA (nw H H3) ys ds ∧ Same H H3 := by
  obtain ⟨⟨ys, h1, h2, h3⟩, h4⟩ := c
  rw [List.take_length] at h3
  refine ⟨ys, h1, h2, h3.mono (same_rd (nw_low fun b hb => ?_)), h4⟩
  by_cases e : b = D0
  · rw [e, upd_same] at hb; cases hb
  · rw [upd_ne e] at hb; exact hb
/-- what the comprehension over a dict leaves -/
structure PairP (H0 : Hp) (D0 : Addr) (ds : List D) (i : Nat) (H3 : Hp) : Prop where
  ex : ∃ (ps : List Addr) (ys : List V), H3 D0 = some (.lst (ps.map V.ref)) ∧ ps.length = i ∧ ys.length = i ∧
    (∀ (j : Nat) (p : Addr), ps[j]? = some p → ∃ z y, keys3[j]? = some z ∧ ys[j]? = some y ∧ H3 p = some (.tup [.str z, y])) ∧ RepA (nw (upd H0 D0 (.lst [])) H3) ys (ds.take i)
  sm : Same H0 H3
theorem paired_at {α β : Type} {R : α → β → Prop} : ∀ {xs : List α} {ys : List β}, xs.length = ys.length → (∀ (i : Nat) x y, xs[i]? = some x → ys[i]? = some y → R x y) → Paired R xs ys
  | [], [], _, _ => .nil
  | x :: xs, y :: ys, hl, h => .cons (h 0 x y rfl rfl) (paired_at (by simpa using hl) fun i a b e1 e2 => h (i + 1) a b (by simpa using e1) (by simpa using e2))
  | [], y :: ys, hl, _ => by simp at hl
  | x :: xs, [], hl, _ => by simp at hl
theorem cop_dict {n : Nat} {a : Addr} {od : Obj} {xs : List V} {ds : List D} {H0 : Hp} {R : VK} (hf : H0 a = some (.frz od (.dK (kz xs)))) (lx : xs.length ≤ 3) (rep : RepA H0 xs ds) (dp : D.depthA ds < n)
    (k : ∀ (D0 : Addr) (ps : List Addr) (ys : List V) (H3 : Hp), H0 D0 = none → H3 D0 = some (.lst (ps.map V.ref)) → ps.length = ys.length →
      (∀ (j : Nat) (p : Addr), ps[j]? = some p → ∃ z y, keys3[j]? = some z ∧ ys[j]? = some y ∧ H3 p = some (.tup [.str z, y])) → ys.length = ds.length → RepA (nw H0 H3) ys ds → Same H0 H3 → R (.ref D0) H3) :
    tLc (iKeys (tVar 0)) (gName 2) tYes (tTup (tCons (tVar 2) (tCons (tCall (spCop n) [] E0 (tCons (tDGet (tVar 0) (tVar 2)) tNil)) tNil))) [2] [some (.ref a), none, none] H0 R := by
  have hl := rep.length
  refine ⟨_, rfl, a, od, rfl, .inl ⟨kz xs, hf, fun D0 hD => ?_⟩⟩
  have hHD : (upd H0 D0 (.lst [])) D0 ≠ none := by rw [upd_same]; exact (fun z => nomatch z)
  refine lc_it (n := (kz xs).length) walk_keys (PairP H0 D0 ds) ⟨⟨[], [], upd_same, rfl, rfl, fun j p h => by simp at h, .nil⟩, same_put (Same.refl _) hD⟩ (fun i H _ c => c.sm _ _ hf) ?_ ?_
  · rintro i x H3 _ hi c ⟨rfl, key, v, e1, rfl⟩
    obtain ⟨⟨ps, ys, h1, h2, h3, h4, h5⟩, s3⟩ := c
    obtain ⟨z, e2, rfl, e3⟩ := kz_at e1
    obtain ⟨d', e4, e5, e6⟩ := rep.at e3
    refine ⟨rfl, ?_⟩
    walk_at "st"
    refine ⟨a, v, rfl, .inl ⟨_, Sum.inr z, .inr ⟨od, s3 _ _ hf⟩, rfl, (valV_at (kz_nd xs) e1).symm⟩, ?_⟩
    walk_at "st"
    refine .a ⟨v, d', rfl, e5.mono (same_rd s3), by omega, fun v' H4 r4 s4 => ?_⟩
    walk_at "st"
    intro p hp
    refine ⟨ps.map V.ref, ?_, ?_, ⟨⟨ps ++ [p], ys ++ [v'], by rw [upd_same]; simp, by simp [h2], by simp [h3], ?_, ?_⟩, same_put (s3.trans (s4.trans (same_new hp))) hD⟩⟩
    · rw [upd_ne (ne_of_none (s4 _ _ h1) hp)]; exact s4 _ _ h1
    · rw [List.length_map, h2]; have := (kz_len lx); exact small1000 (by omega)
    · have hpD : p ≠ D0 := fun e => by rw [e, s4 _ _ h1] at hp; cases hp
      intro j q hq
      by_cases hj : j < ps.length
      · rw [List.getElem?_append_left hj] at hq
        obtain ⟨z', y', f1, f2, f3⟩ := h4 j q hq
        have hqD : q ≠ D0 := fun e => by rw [e, h1] at f3; cases f3
        refine ⟨z', y', f1, ?_, ?_⟩
        · rw [List.getElem?_append_left (by omega)]; exact f2
        · rw [upd_ne hqD, upd_ne (ne_of_none (s4 _ _ f3) hp)]; exact s4 _ _ f3
      · rw [List.getElem?_append_right (by omega)] at hq
        obtain ⟨rfl, rfl⟩ : j = ps.length ∧ p = q := by
          cases e : j - ps.length with
          | zero => rw [e] at hq; exact ⟨by omega, by simpa using hq⟩
          | succ m => rw [e] at hq; simp at hq
        refine ⟨z, v', by rw [h2]; exact e2, ?_, ?_⟩
        · rw [List.getElem?_append_right (by omega)]; simp [h2, h3]
        · rw [upd_ne hpD, upd_same]; rfl
    · rw [nw_put hHD, take_snoc e4]
      refine .snoc (r4.mono ?_) (h5.mono ?_)
      · exact same_rd fun b o e => by
          obtain ⟨q1, q2⟩ := nw_some e
          have q3 : (upd H0 D0 (.lst [])) b = none := by
            by_cases q : b = D0
            · rw [q, h1] at q1; cases q1
            · rw [upd_ne q]; exact s3.free q1
          rw [nw_none q3, upd_ne (ne_of_none q2 hp)]
          exact q2
      · exact same_rd (nw_step (s4.trans (same_new hp)))
  · intro H3 c
    obtain ⟨⟨ps, ys, h1, h2, h3, h4, h5⟩, s3⟩ := c
    have hlen := kz_len lx
    rw [hlen, hl, List.take_length] at h5
    refine k D0 ps ys H3 hD h1 (by omega) h4 (by omega) (h5.mono (same_rd (nw_low fun b hb => ?_))) s3
    by_cases e : b = D0
    · rw [e, upd_same] at hb; cases hb
    · rw [upd_ne e] at hb; exact hb
theorem ok_cop0 (T : Txt K mg) : FnOk P w K mg base CX0 1 T.f__law_copied T.fd__law_copied ["_law_thing"] (spCop 0) :=
  ⟨fun _ _ _ _ h => by obtain ⟨v, d, _, _, hd, _⟩ := h.out; exact absurd hd (Nat.not_lt_zero _), fun _ _ _ _ _ _ _ _ _ _ _ _ _ h => by obtain ⟨v, d, _, _, hd, _⟩ := h.out; exact absurd hd (Nat.not_lt_zero _)⟩
theorem ok_copS (T : Txt K mg) (n : Nat) (G__law_copied : FnOk P w K mg base CX0 (n + 1) T.f__law_copied T.fd__law_copied ["_law_thing"] (spCop n)) :
    FnOk P w K mg base CX0 (n + 1 + 1) T.f__law_copied T.fd__law_copied ["_law_thing"] (spCop (n + 1)) := by
  refine T.D__law_copied.F.ok sc__law_copied (fun vs H Q E h => ?_) (fun cdv A outer s H vs Q E hr h => ?_)
  · obtain ⟨v, d, rfl, _⟩ := h.out
    rfl
  · obtain ⟨v, d, rfl, r, hd, k⟩ := h.out
    have hu := hu_of hr
    refine ⟨_, (pss_cons (ps_if (pt_val (pe_callB call_isi (by rfl) T.B.n_isinstance (by decide +kernel) (pa_cons (pv 0) (pa_cons (pe_bltn (v := .ty "list") (u := .type "list") (by rfl) T.B.n_list (by decide +kernel) rfl) pa_nil))))
    (pss_one (ps_ret (pe_lc (own := [("_law_part", 1)]) (g := gName 1) rfl sc__law_copied.nd (pi_list (pv 0)) (blkOk_by (N := ["_law_thing", "_law_part", "_law_key"]) (sc := defScope s__law_copied) (by decide +kernel)) (fun _ _ _ _ _ => (pg_name (i := 1) sc__law_copied.nd rfl (by first | exact Or.inl rfl | exact Or.inr rfl))) (fun _ _ _ _ _ => pts_nil) (fun _ _ _ _ _ => (pe_call G__law_copied (hr.mono (by first | decide | omega)) rfl T.D__law_copied.g T.D__law_copied.F.kp T.D__law_copied.b .nil pass0 (pa_cons (pv 1) pa_nil))))))
    pss_nil)
  (pss_cons (ps_if (pt_val (pe_callB call_isi (by rfl) T.B.n_isinstance (by decide +kernel) (pa_cons (pv 0) (pa_cons (pe_bltn (v := .ty "tuple") (u := .type "tuple") (by rfl) T.B.n_tuple (by decide +kernel) rfl) pa_nil))))
    (pss_one (ps_ret (pe_callTy call_tuple_of (by rfl) T.B.n_tuple (by decide +kernel) (pa_cons (pe_lc (own := [("_law_part", 1)]) (g := gName 1) rfl sc__law_copied.nd (pi_tup (pv 0)) (blkOk_by (N := ["_law_thing", "_law_part", "_law_key"]) (sc := defScope s__law_copied) (by decide +kernel)) (fun _ _ _ _ _ => (pg_name (i := 1) sc__law_copied.nd rfl (by first | exact Or.inl rfl | exact Or.inr rfl))) (fun _ _ _ _ _ => pts_nil) (fun _ _ _ _ _ => (pe_call G__law_copied (hr.mono (by first | decide | omega)) rfl T.D__law_copied.g T.D__law_copied.F.kp T.D__law_copied.b .nil pass0 (pa_cons (pv 1) pa_nil)))) pa_nil))))
    pss_nil)
  (pss_one (ps_ret (pe_ifExp (pt_val (pe_callB call_isi (by rfl) T.B.n_isinstance (by decide +kernel) (pa_cons (pv 0) (pa_cons (pe_bltn (v := .ty "dict") (u := .type "dict") (by rfl) T.B.n_dict (by decide +kernel) rfl) pa_nil)))) (pe_callTy (call_dictP rfl) (by rfl) T.B.n_dict (by decide +kernel) (pa_cons (pe_lockO (pe_lc (own := [("_law_key", 2)]) (g := gName 2) rfl sc__law_copied.nd (pi_keys (pv 0)) (blkOk_by (N := ["_law_thing", "_law_part", "_law_key"]) (sc := defScope s__law_copied) (by decide +kernel)) (fun _ _ _ _ _ => (pg_name (i := 2) sc__law_copied.nd rfl (by first | exact Or.inl rfl | exact Or.inr rfl))) (fun _ _ _ _ _ => pts_nil) (fun _ _ _ _ _ => (pe_tup (pa_cons (pv 2) (pa_cons (pe_call G__law_copied (hr.mono (by first | decide | omega)) rfl T.D__law_copied.g T.D__law_copied.F.kp T.D__law_copied.b .nil pass0 (pa_cons (pe_dget hu (pv 0) (pv 2) (fun _ _ => rfl)) pa_nil)) pa_nil)))))) pa_nil)) (pv 0)))))), ?_⟩
    walk_at "st"
    have r0 := r
    cases r with
    | non | bl b | int i | str z =>
      refine ⟨_, .ty "list", _, _, false, rfl, .ty "list", r0.ty, kit_ty (by simp only [D.ty]; decide +kernel), ?_⟩
      walk_at "st"
      walk_at "st"
      refine ⟨_, .ty "tuple", _, _, false, rfl, .ty "tuple", r0.ty, kit_ty (by simp only [D.ty]; decide +kernel), ?_⟩
      walk_at "st"
      walk_at "st"
      refine ⟨_, .ty "dict", _, _, false, rfl, .ty "dict", r0.ty, kit_ty (by simp only [D.ty]; decide +kernel), ?_⟩
      walk_at "st"
      walk_at "st"
      exact k _ H (by constructor) (Same.refl _)
    | @lst a xs ds h1 h2 h3 =>
      have hl := h3.length
      refine ⟨_, .ty "list", _, _, true, rfl, .ty "list", r0.ty, kit_ty (by simp only [D.ty]; decide +kernel), ?_⟩
      walk_at "st"
      walk_at "st"
      refine ⟨⟨xs, .inl h1⟩, fun D0 hD => ?_⟩
      refine lc_list (K := K) (a := a) (xs := xs) (fun i H3 => CopP H D0 ds i H3) (.zero hD ds) (fun i H3 _ c => .inl (same_rd c.sm _ _ h1)) ?_ ?_
      · intro i x H3 hx c
        obtain ⟨d', e1, e2, e3⟩ := h3.at hx
        have hi := (List.getElem?_eq_some_iff.mp hx).1
        refine ⟨rfl, ?_⟩
        walk_at "st"
        refine .a ⟨x, d', rfl, e2.mono (same_rd c.sm), ?_, fun v' H4 r4 s4 => c.next hD e1 (by omega) r4 s4⟩
        simp only [D.depth] at hd; omega
      · intro H3 c
        rw [hl] at c
        obtain ⟨ys, c1, c2, c3, c4⟩ := c.done hD
        walk_at "st"
        exact k (.ref D0) H3 (.lst (.inl (by rw [nw_none hD]; exact c1)) (by omega) c3) c4
    | @tup a xs ds h1 h2 h3 =>
      have hl := h3.length
      refine ⟨_, .ty "list", _, _, false, rfl, .ty "list", r0.ty, kit_ty (by simp only [D.ty]; decide +kernel), ?_⟩
      walk_at "st"
      walk_at "st"
      refine ⟨_, .ty "tuple", _, _, true, rfl, .ty "tuple", r0.ty, kit_ty (by simp only [D.ty]; decide +kernel), ?_⟩
      walk_at "st"
      walk_at "st"
      refine ⟨⟨xs, .inl h1⟩, fun D0 hD => ?_⟩
      refine lc_tup (K := K) (a := a) (xs := xs) (fun i H3 => CopP H D0 ds i H3) (.zero hD ds) (fun i H3 _ c => .inl (same_rd c.sm _ _ h1)) ?_ ?_
      · intro i x H3 hx c
        obtain ⟨d', e1, e2, e3⟩ := h3.at hx
        have hi := (List.getElem?_eq_some_iff.mp hx).1
        refine ⟨rfl, ?_⟩
        walk_at "st"
        refine .a ⟨x, d', rfl, e2.mono (same_rd c.sm), ?_, fun v' H4 r4 s4 => c.next hD e1 (by omega) r4 s4⟩
        simp only [D.depth] at hd; omega
      · intro H3 c
        rw [hl] at c
        obtain ⟨ys, c1, c2, c3, c4⟩ := c.done hD
        walk_at "st"
        refine ⟨D0, ys, rfl, .inl ⟨SqL.of c1, fun t ht => ?_⟩⟩
        have hHt := c4.free ht
        exact k (.ref t) _ (.tup (.inl (by rw [nw_none hHt]; exact upd_same)) (by omega) (c3.mono (same_rd (nw_step (same_new ht))))) (c4.trans (same_new ht))
    | @dct a xs ds h1 h2 h3 =>
      have hl := h3.length
      refine ⟨_, .ty "list", _, _, false, rfl, .ty "list", r0.ty, kit_ty (by simp only [D.ty]; decide +kernel), ?_⟩
      walk_at "st"
      walk_at "st"
      refine ⟨_, .ty "tuple", _, _, false, rfl, .ty "tuple", r0.ty, kit_ty (by simp only [D.ty]; decide +kernel), ?_⟩
      walk_at "st"
      walk_at "st"
      refine ⟨_, .ty "dict", _, _, true, rfl, .ty "dict", r0.ty, kit_ty (by simp only [D.ty]; decide +kernel), ?_⟩
      walk_at "st"
      walk_at "st"
      refine if_true_of rfl ?_
      have hdd : D.depthA ds < n := by simp only [D.depth] at hd; omega
      have fin : ∀ (D0 : Addr) (ps : List Addr) (ys : List V) (H5 : Hp), H5 D0 = some (.lst (ps.map V.ref)) → ps.length = ys.length →
          (∀ (j : Nat) (p : Addr), ps[j]? = some p → ∃ z y, keys3[j]? = some z ∧ ys[j]? = some y ∧ H5 p = some (.tup [.str z, y])) → ys.length = ds.length → RepA (nw H H5) ys ds → Same H H5 →
          ∃ (a : Addr) (qs : List Addr) (kvs : List (Key × V)), [V.ref D0] = [.ref a] ∧ SqL K H5 a (qs.map V.ref) ∧ Paired (fun p kv => SqT K H5 p [kV kv.1, kv.2]) qs kvs ∧
            ∀ p, H5 p = none → Q (.ref p) (upd H5 p (.dK (mergeK [] kvs))) := by
        intro D0 ps ys H5 g1 g2 g3 g4 g5 g6
        refine ⟨D0, ps, kz ys, rfl, SqL.of g1, paired_at (by rw [kz_len (by omega)]; exact g2) ?_, fun t ht => ?_⟩
        · rintro j p ⟨key, v⟩ e1 e2
          obtain ⟨z, y, f1, f2, f3⟩ := g3 j p e1
          obtain ⟨z', f4, rfl, f5⟩ := kz_at e2
          rw [f1] at f4
          rw [f2] at f5
          cases f4
          cases f5
          exact SqT.of f3
        · rw [mergeK_kz]
          have hHt := g6.free ht
          exact k (.ref t) _ (.dct (.inl (by rw [nw_none hHt]; exact upd_same)) (by omega) (g5.mono (same_rd (nw_step (same_new ht))))) (g6.trans (same_new ht))
      rcases h1 with h1 | ⟨u, h1⟩
      · refine .inl ⟨a, _, h1, trivial, fun od => ?_⟩
        have r0 : RdS H (upd H a (.frz od (.dK (kz xs)))) := fun b o e => by
          by_cases q : b = a
          · rcases e with e | ⟨w, e⟩
            · rw [q, h1] at e; cases e; exact .inr ⟨od, by rw [q, upd_same]⟩
            · rw [q, h1] at e; cases e
          · rcases e with e | ⟨w, e⟩
            · exact .inl (by rw [upd_ne q]; exact e)
            · exact .inr ⟨w, by rw [upd_ne q]; exact e⟩
        refine cop_dict (n := n) upd_same h2 (h3.mono r0) hdd fun D0 ps ys H3 g0 g1 g2 g3 g4 g5 g6 => ?_
        have ha := g6 a _ upd_same
        have hDa : D0 ≠ a := fun e => by rw [e, ha] at g1; cases g1
        refine ⟨ha, ?_⟩
        walk_at "st"
        have s5 : Same H (upd H3 a (.dK (kz xs))) := fun b o e => by
          by_cases q : b = a
          · rw [q, h1] at e; rw [q, upd_same]; exact e
          · rw [upd_ne q]; exact g6 b o (by rw [upd_ne q]; exact e)
        refine fin D0 ps ys _ (by rw [upd_ne hDa]; exact g1) g2 (fun j p e => ?_) g4 (g5.mono (same_rd fun b o e => ?_)) s5
        · obtain ⟨z, y, f1, f2, f3⟩ := g3 j p e
          exact ⟨z, y, f1, f2, by rw [upd_ne (fun q => by rw [q, ha] at f3; cases f3)]; exact f3⟩
        · obtain ⟨q1, q2⟩ := nw_some e
          have q : b ≠ a := fun z => by rw [z, upd_same] at q1; cases q1
          rw [upd_ne q] at q1
          rw [nw_none q1, upd_ne q]
          exact q2
      · refine .inr (cop_dict (n := n) h1 h2 h3 hdd fun D0 ps ys H3 g0 g1 g2 g3 g4 g5 g6 => ?_)
        walk_at "st"
        exact fin D0 ps ys H3 g1 g2 g3 g4 g5 g6
theorem ok_cop (T : Txt K mg) : ∀ n, FnOk P w K mg base CX0 (n + 1) T.f__law_copied T.fd__law_copied ["_law_thing"] (spCop n)
  | 0 => ok_cop0 T
  | n + 1 => ok_copS T n (ok_cop T n)
end
end My

namespace My
open PySem PySem.Spec PyProof.Rows L2
local macro_rules | `(tactic| walk_at "hp") => `(tactic| first | assumption | exact upd_same | (refine Eq.trans (upd_ne (by first | assumption | (apply Ne.symm; assumption))) ?_; walk_at "hp"))
local macro_rules | `(tactic| walk_at "ixl") => `(tactic| (refine' ⟨_, ?xs, _, ?vv, rfl, rfl, SqL.of ?hh, ?aa, ?qq⟩; (case hh => walk_at "hp"); (case aa => rfl)))
local macro_rules | `(tactic| walk_at "setl") => `(tactic| (refine' ⟨_, ?xs, _, ?jj, rfl, rfl, ?hh, ?aa, ?qq⟩; (case hh => walk_at "hp"); (case aa => rfl)))
local macro_rules | `(tactic| walk_at "cond") => `(tactic| first | exact Nat.le_of_lt (small1000 (Nat.le_of_ble_eq_true rfl)) | decide | omega | (dsimp only; omega) | exact ⟨by decide, by decide⟩ | exact Or.inr ⟨by decide, by decide⟩ | exact Or.inl ⟨by decide, by decide⟩ | exact ⟨by decide, by decide, by decide⟩ | exact ⟨by omega, by omega⟩ | exact ⟨by omega, by omega, by omega⟩)
local macro_rules | `(tactic| walk_at "st") => `(tactic| repeat (first | refine ⟨_, rfl, ?_⟩ | refine ⟨_, _, rfl, rfl, ?_⟩ | walk_at "ixl" | walk_at "setl" | refine ⟨rfl, ?_⟩ | refine Or.inl ⟨_, rfl, ?_⟩ | refine And.intro (by walk_at "cond") ?_))
/-- two equal data -/
def spSame (k : Nat) : Sp := fun vs H Q _ => Hd (∃ (v v2 : V) (d : D), vs = [v, v2] ∧ Rep H v d ∧ Rep H v2 d ∧ d.depth < k ∧ ∀ (H' : Hp), Same H H' → Q (.bl true) H')
theorem sorted_one {m : Nat} (hm : m ≤ 3) {ys : List Str} (hp : ys.Perm (keys3.take m)) (hs : sortedS ys = true) : ys = keys3.take m := by
  have hl := hp.length_eq
  have hmem : ∀ y ∈ ys, y ∈ keys3.take m := fun y hy => hp.mem_iff.mp hy
  match m, hm with
  | 0, _ => exact List.eq_nil_of_length_eq_zero hl
  | 1, _ =>
    match ys, hl with
    | [x], _ =>
      have h := hmem x List.mem_cons_self
      simp only [keys3, List.take, List.mem_cons, List.not_mem_nil, or_false] at h
      rw [h]; rfl
  | 2, _ =>
    match ys, hl with
    | [x, y], _ =>
      have hn : (["a", "b"] : List Str).Nodup := by decide +kernel
      have hn2 : [x, y].Nodup := hp.nodup_iff.mpr hn
      have h := hmem x List.mem_cons_self
      have h2 := hmem y (List.mem_cons_of_mem _ List.mem_cons_self)
      simp only [keys3, List.take, List.mem_cons, List.not_mem_nil, or_false] at h h2
      rcases h with rfl | rfl <;> rcases h2 with rfl | rfl <;> first | rfl | exact absurd hs (by decide +kernel) | exact absurd hn2 (by decide +kernel)
  | 3, _ =>
    match ys, hl with
    | [x, y, z], _ =>
      have hn2 : [x, y, z].Nodup := hp.nodup_iff.mpr (by decide +kernel)
      have h := hmem x List.mem_cons_self
      have h2 := hmem y (List.mem_cons_of_mem _ List.mem_cons_self)
      have h3 := hmem z (List.mem_cons_of_mem _ (List.mem_cons_of_mem _ List.mem_cons_self))
      simp only [keys3, List.take, List.mem_cons, List.not_mem_nil, or_false] at h h2 h3
      rcases h with rfl | rfl | rfl <;> rcases h2 with rfl | rfl | rfl <;> rcases h3 with rfl | rfl | rfl <;> first | rfl | exact absurd hs (by decide +kernel) | exact absurd hn2 (by decide +kernel)
theorem keys_eqv : ∀ {m : Nat}, m ≤ 3 → PyData.eqv (.list ((keys3.take m).map PyData.str)) (.list ((keys3.take m).map PyData.str)) = true ∧ SeqAt.shaped (.list ((keys3.take m).map PyData.str)) = true
  | 0, _ => by decide +kernel
  | 1, _ => by decide +kernel
  | 2, _ => by decide +kernel
  | 3, _ => by decide +kernel
theorem dpAll_strs {K : PySem.W.Frag} {H : Hp} : ∀ (cs : List Str), DpAll K H (cs.map V.str) (cs.map PyData.str)
  | [] => .nil
  | x :: r => .cons (.str x) (dpAll_strs r)
theorem kz_kV {xs : List V} : (kz xs).map (fun kv => kV kv.1) = (keys3.take xs.length).map V.str := by
  have e : (kz xs).map (fun kv => kV kv.1) = ((kz xs).map (·.1)).map kV := by rw [List.map_map]; rfl
  rw [e, kz_keys, List.map_map]
  rfl
theorem keys_len {m : Nat} : (keys3.take m).length < 64 := by rw [List.length_take]; exact Nat.lt_of_le_of_lt (Nat.min_le_right _ _) (by decide)
theorem walk_zipT {K : PySem.W.Frag} {a b : Addr} {xs ys : List V} {n : Nat} (hn : n = min xs.length ys.length) : Walk (RZ.ItzT K a b) n (fun H => SqT K H a xs ∧ SqT K H b ys) (YPair (fun i => xs[i]?) (fun i => ys[i]?)) := by
  subst hn
  refine ⟨fun i _ hi q => ?_, fun _ q => ⟨xs, ys, q.1, q.2, by omega⟩, ?_⟩
  · have h1 : i < xs.length := by omega
    have h2 : i < ys.length := by omega
    exact ⟨xs, ys, xs[i], ys[i], q.1, q.2, by simp [h1], by simp [h2]⟩
  · rintro i H v H' _ q ⟨T, x, z, h1, h2, h3, h4, h5⟩
    exact ⟨T, x, z, h1, h2, h3, h4 xs q.1, h5 ys q.2⟩
/-- the comprehensions of truths: all of them true -/
structure TruP (H : Hp) (D0 : Addr) (i : Nat) (H3 : Hp) : Prop where
  at_ : H3 D0 = some (.lst ((List.replicate i true).map V.bl))
  sm : Same H H3
theorem TruP.zero {H : Hp} {D0 : Addr} (hD : H D0 = none) : TruP H D0 0 (upd H D0 (.lst [])) := ⟨upd_same, same_put (Same.refl _) hD⟩
theorem TruP.next {H H3 H4 : Hp} {D0 : Addr} {i : Nat} (c : TruP H D0 i H3) (hD : H D0 = none) (hi : i < 1000) (sm : Same H3 H4) :
    ∃ acc, H4 D0 = some (.lst acc) ∧ acc.length < sizeLine ∧ TruP H D0 (i + 1) (upd H4 D0 (.lst (acc ++ [V.bl true]))) := by
  refine ⟨_, sm _ _ c.at_, by rw [List.length_map, List.length_replicate]; exact small1000 (by omega), ⟨?_, same_put (c.sm.trans sm) hD⟩⟩
  rw [upd_same, List.replicate_succ', List.map_append]
  rfl
theorem all_true (i : Nat) : (List.replicate i true).all id = true := by simp
theorem same_dict {n : Nat} {a b : Addr} {od : Obj} {xs ys : List V} {ds : List D} {H0 : Hp} {R : VK} (hf : H0 b = some (.frz od (.dK (kz ys)))) (ha : Rd H0 a (.dK (kz xs))) (lx : xs.length ≤ 3) (ly : ys.length ≤ 3)
    (r1 : RepA H0 xs ds) (r2 : RepA H0 ys ds) (dp : D.depthA ds < n) (k : ∀ (D0 : Addr) (H3 : Hp), TruP H0 D0 ys.length H3 → H0 D0 = none → R (.ref D0) H3) :
    tLc (iKeys (tVar 1)) (gName 2) tYes (tCall (spSame n) [] E0 (tCons (tDGet (tVar 0) (tVar 2)) (tCons (tDGet (tVar 1) (tVar 2)) tNil))) [2] [some (.ref a), some (.ref b), none, none, none] H0 R := by
  have hl1 := r1.length
  have hl2 := r2.length
  refine ⟨_, rfl, b, od, rfl, .inl ⟨kz ys, hf, fun D0 hD => ?_⟩⟩
  refine lc_it (n := (kz ys).length) walk_keys (TruP H0 D0) (.zero hD) (fun i H _ c => c.sm _ _ hf) ?_ ?_
  · rintro i x H3 _ hi c ⟨rfl, key, v, e1, rfl⟩
    rw [kz_len ly] at hi
    obtain ⟨z, e2, rfl, e3⟩ := kz_at e1
    obtain ⟨d', e4, e5, e6⟩ := r2.at e3
    have hi2 : i < xs.length := by omega
    have e7 : xs[i]? = some xs[i] := by simp [hi2]
    obtain ⟨d2, f4, f5, f6⟩ := r1.at e7
    rw [e4] at f4
    cases f4
    have e8 := kz_get e2 e7
    refine ⟨rfl, ?_⟩
    walk_at "st"
    refine ⟨a, xs[i], rfl, .inl ⟨_, Sum.inr z, same_rd c.sm _ _ ha, rfl, (valV_at (kz_nd xs) e8).symm⟩, ?_⟩
    walk_at "st"
    refine ⟨b, v, rfl, .inl ⟨_, Sum.inr z, .inr ⟨od, c.sm _ _ hf⟩, rfl, (valV_at (kz_nd ys) e1).symm⟩, ?_⟩
    walk_at "st"
    exact .a ⟨_, v, d', rfl, f5.mono (same_rd c.sm), e5.mono (same_rd c.sm), by omega, fun H4 s4 => c.next hD (by omega) s4⟩
  · intro H3 c
    rw [kz_len ly] at c
    exact k D0 H3 c hD
section
variable {P : Program} {w : World} {K : PySem.W.Frag} {mg : Str → Option Value} {base : Heap}
theorem ok_same0 (T : Txt K mg) : FnOk P w K mg base CX0 1 T.f__law_same T.fd__law_same ["_law_found", "_law_due"] (spSame 0) :=
  ⟨fun _ _ _ _ h => by obtain ⟨v, v2, d, _, _, _, hd, _⟩ := h.out; exact absurd hd (Nat.not_lt_zero _), fun _ _ _ _ _ _ _ _ _ _ _ _ _ h => by obtain ⟨v, v2, d, _, _, _, hd, _⟩ := h.out; exact absurd hd (Nat.not_lt_zero _)⟩
theorem ok_sameS (T : Txt K mg) (n : Nat) (G__law_same : FnOk P w K mg base CX0 (n + 1) T.f__law_same T.fd__law_same ["_law_found", "_law_due"] (spSame n)) :
    FnOk P w K mg base CX0 (n + 1 + 1) T.f__law_same T.fd__law_same ["_law_found", "_law_due"] (spSame (n + 1)) := by
  refine T.D__law_same.F.ok sc__law_same (fun vs H Q E h => ?_) (fun cdv A outer s H vs Q E hr h => ?_)
  · obtain ⟨v, v2, d, rfl, _⟩ := h.out
    rfl
  · obtain ⟨v, v2, d, rfl, r, r2, hd, k⟩ := h.out
    have hu := hu_of hr
    have hu64 := hr.units
    refine ⟨_, (pss_cons (ps_if (pt_val (pe_callB call_isi (by rfl) T.B.n_isinstance (by decide +kernel) (pa_cons (pv 1) (pa_cons (pe_bltn (v := .ty "dict") (u := .type "dict") (by rfl) T.B.n_dict (by decide +kernel) rfl) pa_nil))))
    (pss_cons (ps_if (PW.pt (pw_or (pt_not (pt_val (pe_callB call_isi (by rfl) T.B.n_isinstance (by decide +kernel) (pa_cons (pv 0) (pa_cons (pe_bltn (v := .ty "dict") (u := .type "dict") (by rfl) T.B.n_dict (by decide +kernel) rfl) pa_nil))))) (pw_or1 (pt_cmpR (op_neD hu64) (pe_callB cr_sortedS (by rfl) T.B.n_sorted (by decide +kernel) (pa_cons (pe_callTy (call_listD rfl) (by rfl) T.B.n_list (by decide +kernel) (pa_cons (pv 0) pa_nil)) pa_nil)) (pe_callB cr_sortedS (by rfl) T.B.n_sorted (by decide +kernel) (pa_cons (pe_callTy (call_listD rfl) (by rfl) T.B.n_list (by decide +kernel) (pa_cons (pv 1) pa_nil)) pa_nil)) (nomark _)))))
    (pss_one (ps_ret pe_bl))
    pss_nil)
  (pss_one (ps_ret (pe_callB (cr_all rfl) (by rfl) T.B.n_all (by decide +kernel) (pa_cons (pe_lockO (pe_lc (own := [("_law_key", 2)]) (g := gName 2) rfl sc__law_same.nd (pi_keys (pv 1)) (blkOk_by (N := ["_law_found", "_law_due", "_law_key", "_law_one", "_law_other"]) (sc := defScope s__law_same) (by decide +kernel)) (fun _ _ _ _ _ => (pg_name (i := 2) sc__law_same.nd rfl (by first | exact Or.inl rfl | exact Or.inr rfl))) (fun _ _ _ _ _ => pts_nil) (fun _ _ _ _ _ => (pe_call G__law_same (hr.mono (by first | decide | omega)) rfl T.D__law_same.g T.D__law_same.F.kp T.D__law_same.b .nil pass0 (pa_cons (pe_dget hu (pv 0) (pv 2) (fun _ _ => rfl)) (pa_cons (pe_dget hu (pv 1) (pv 2) (fun _ _ => rfl)) pa_nil)))))) pa_nil)))))
    pss_nil)
  (pss_cons (ps_if (pt_val (pe_callB call_isiT (by rfl) T.B.n_isinstance (by decide +kernel) (pa_cons (pv 1) (pa_cons (pe_tup (pa_cons (pe_bltn (v := .ty "list") (u := .type "list") (by rfl) T.B.n_list (by decide +kernel) rfl) (pa_cons (pe_bltn (v := .ty "tuple") (u := .type "tuple") (by rfl) T.B.n_tuple (by decide +kernel) rfl) pa_nil))) pa_nil))))
    (pss_cons (ps_if (PW.pt (pw_or (pt_cmpR op_ne (pe_callB call_isi (by rfl) T.B.n_isinstance (by decide +kernel) (pa_cons (pv 0) (pa_cons (pe_bltn (v := .ty "list") (u := .type "list") (by rfl) T.B.n_list (by decide +kernel) rfl) pa_nil))) (pe_callB call_isi (by rfl) T.B.n_isinstance (by decide +kernel) (pa_cons (pv 1) (pa_cons (pe_bltn (v := .ty "list") (u := .type "list") (by rfl) T.B.n_list (by decide +kernel) rfl) pa_nil))) (nomark _)) (pw_or1 (pt_cmpR op_ne (pe_callB call_isi (by rfl) T.B.n_isinstance (by decide +kernel) (pa_cons (pv 0) (pa_cons (pe_bltn (v := .ty "tuple") (u := .type "tuple") (by rfl) T.B.n_tuple (by decide +kernel) rfl) pa_nil))) (pe_callB call_isi (by rfl) T.B.n_isinstance (by decide +kernel) (pa_cons (pv 1) (pa_cons (pe_bltn (v := .ty "tuple") (u := .type "tuple") (by rfl) T.B.n_tuple (by decide +kernel) rfl) pa_nil))) (nomark _)))))
    (pss_one (ps_ret pe_bl))
    pss_nil)
  (pss_one (ps_ret (pe_and (pe_cmpR op_eq (pe_callB call_len_seq (by rfl) T.B.n_len (by decide +kernel) (pa_cons (pv 0) pa_nil)) (pe_callB call_len_seq (by rfl) T.B.n_len (by decide +kernel) (pa_cons (pv 1) pa_nil)) (nomark _)) (pe_one (pe_callB (cr_all rfl) (by rfl) T.B.n_all (by decide +kernel) (pa_cons (pe_lc (own := [("_law_one", 3), ("_law_other", 4)]) (g := gTup K 2 (gCons (gName 3) (gCons (gName 4) gNil))) rfl sc__law_same.nd (RZ.pi_zipA (by rfl) T.B.n_zip (pa_cons (pv 0) (pa_cons (pv 1) pa_nil))) (blkOk_by (N := ["_law_found", "_law_due", "_law_key", "_law_one", "_law_other"]) (sc := defScope s__law_same) (by decide +kernel)) (fun _ _ _ _ _ => (pg_tup rfl (pgs_cons (pg_name (i := 3) sc__law_same.nd rfl (by first | exact Or.inl rfl | exact Or.inr rfl)) (pgs_cons (pg_name (i := 4) sc__law_same.nd rfl (by first | exact Or.inl rfl | exact Or.inr rfl)) pgs_nil)))) (fun _ _ _ _ _ => pts_nil) (fun _ _ _ _ _ => (pe_call G__law_same (hr.mono (by first | decide | omega)) rfl T.D__law_same.g T.D__law_same.F.kp T.D__law_same.b .nil pass0 (pa_cons (pv 3) (pa_cons (pv 4) pa_nil))))) pa_nil)))))))
    pss_nil)
  (pss_cons (ps_if (pt_val (pe_callB call_isi (by rfl) T.B.n_isinstance (by decide +kernel) (pa_cons (pv 1) (pa_cons (pe_bltn (v := .ty "int") (u := .type "int") (by rfl) T.B.n_int (by decide +kernel) rfl) pa_nil))))
    (pss_one (ps_ret (pe_and (pe_callB call_isi (by rfl) T.B.n_isinstance (by decide +kernel) (pa_cons (pv 0) (pa_cons (pe_bltn (v := .ty "int") (u := .type "int") (by rfl) T.B.n_int (by decide +kernel) rfl) pa_nil))) (pe_and (pe_cmpR op_eq (pe_callB call_isi (by rfl) T.B.n_isinstance (by decide +kernel) (pa_cons (pv 0) (pa_cons (pe_bltn (v := .ty "bool") (u := .type "bool") (by rfl) T.B.n_bool (by decide +kernel) rfl) pa_nil))) (pe_callB call_isi (by rfl) T.B.n_isinstance (by decide +kernel) (pa_cons (pv 1) (pa_cons (pe_bltn (v := .ty "bool") (u := .type "bool") (by rfl) T.B.n_bool (by decide +kernel) rfl) pa_nil))) (nomark _)) (pe_one (pe_cmpR op_eq (pv 0) (pv 1) (nomark _)))))))
    pss_nil)
  (pss_one (ps_ret (pe_and (pe_cmpR op_eq (pv 0) (pv 1) (nomark _)) (pe_one (pe_not (pe_callB call_isiT (by rfl) T.B.n_isinstance (by decide +kernel) (pa_cons (pv 0) (pa_cons (pe_tup (pa_cons (pe_bltn (v := .ty "int") (u := .type "int") (by rfl) T.B.n_int (by decide +kernel) rfl) (pa_cons (pe_bltn (v := .ty "list") (u := .type "list") (by rfl) T.B.n_list (by decide +kernel) rfl) (pa_cons (pe_bltn (v := .ty "tuple") (u := .type "tuple") (by rfl) T.B.n_tuple (by decide +kernel) rfl) (pa_cons (pe_bltn (v := .ty "dict") (u := .type "dict") (by rfl) T.B.n_dict (by decide +kernel) rfl) pa_nil))))) pa_nil))))))))))), ?_⟩
    walk_at "st"
    have r0 := r
    have r02 := r2
    cases r with
    | bl b =>
      cases r2
      refine ⟨_, .ty "dict", _, _, false, rfl, .ty "dict", r02.ty, kit_ty (by simp only [D.ty]; decide +kernel), ?_⟩
      walk_at "st"
      intro t ht
      have st := same_new (o := .tup [.ty "list", .ty "tuple"]) ht
      refine ⟨_, t, _, _, _, false, rfl, upd_same, (.cons (.ty "list") (.cons (.ty "tuple") .nil)), (r02.mono (same_rd st)).ty, (kitAny_cons (b := false) (kit_ty (by simp only [D.ty]; decide +kernel)) (fun _ => (kitAny_cons (b := false) (kit_ty (by simp only [D.ty]; decide +kernel)) (fun _ => kitAny_nil) (fun h => nomatch h))) (fun h => nomatch h)), ?_⟩
      walk_at "st"
      have r1 := r0.mono (same_rd st)
      have r12 := r02.mono (same_rd st)
      refine ⟨_, .ty "int", _, _, true, rfl, .ty "int", r12.ty, kit_ty (by simp only [D.ty]; decide +kernel), ?_⟩
      walk_at "st"
      refine ⟨_, .ty "int", _, _, true, rfl, .ty "int", r1.ty, kit_ty (by simp only [D.ty]; decide +kernel), ?_⟩
      walk_at "st"
      refine ⟨_, .ty "bool", _, _, true, rfl, .ty "bool", r1.ty, kit_ty (by simp only [D.ty]; decide +kernel), ?_⟩
      walk_at "st"
      refine ⟨_, .ty "bool", _, _, true, rfl, .ty "bool", r12.ty, kit_ty (by simp only [D.ty]; decide +kernel), ?_⟩
      walk_at "st"
      have e : decide (V.bl b = V.bl b) = true := decide_eq_true rfl
      show Q (V.bl (decide (V.bl b = V.bl b))) _
      rw [e]
      exact k _ st
    | int i =>
      cases r2
      refine ⟨_, .ty "dict", _, _, false, rfl, .ty "dict", r02.ty, kit_ty (by simp only [D.ty]; decide +kernel), ?_⟩
      walk_at "st"
      intro t ht
      have st := same_new (o := .tup [.ty "list", .ty "tuple"]) ht
      refine ⟨_, t, _, _, _, false, rfl, upd_same, (.cons (.ty "list") (.cons (.ty "tuple") .nil)), (r02.mono (same_rd st)).ty, (kitAny_cons (b := false) (kit_ty (by simp only [D.ty]; decide +kernel)) (fun _ => (kitAny_cons (b := false) (kit_ty (by simp only [D.ty]; decide +kernel)) (fun _ => kitAny_nil) (fun h => nomatch h))) (fun h => nomatch h)), ?_⟩
      walk_at "st"
      have r1 := r0.mono (same_rd st)
      have r12 := r02.mono (same_rd st)
      refine ⟨_, .ty "int", _, _, true, rfl, .ty "int", r12.ty, kit_ty (by simp only [D.ty]; decide +kernel), ?_⟩
      walk_at "st"
      refine ⟨_, .ty "int", _, _, true, rfl, .ty "int", r1.ty, kit_ty (by simp only [D.ty]; decide +kernel), ?_⟩
      walk_at "st"
      refine ⟨_, .ty "bool", _, _, false, rfl, .ty "bool", r1.ty, kit_ty (by simp only [D.ty]; decide +kernel), ?_⟩
      walk_at "st"
      refine ⟨_, .ty "bool", _, _, false, rfl, .ty "bool", r12.ty, kit_ty (by simp only [D.ty]; decide +kernel), ?_⟩
      walk_at "st"
      have e : decide (V.int i = V.int i) = true := decide_eq_true rfl
      show Q (V.bl (decide (V.int i = V.int i))) _
      rw [e]
      exact k _ st
    | non  =>
      cases r2
      refine ⟨_, .ty "dict", _, _, false, rfl, .ty "dict", r02.ty, kit_ty (by simp only [D.ty]; decide +kernel), ?_⟩
      walk_at "st"
      intro t ht
      have st := same_new (o := .tup [.ty "list", .ty "tuple"]) ht
      refine ⟨_, t, _, _, _, false, rfl, upd_same, (.cons (.ty "list") (.cons (.ty "tuple") .nil)), (r02.mono (same_rd st)).ty, (kitAny_cons (b := false) (kit_ty (by simp only [D.ty]; decide +kernel)) (fun _ => (kitAny_cons (b := false) (kit_ty (by simp only [D.ty]; decide +kernel)) (fun _ => kitAny_nil) (fun h => nomatch h))) (fun h => nomatch h)), ?_⟩
      walk_at "st"
      have r1 := r0.mono (same_rd st)
      have r12 := r02.mono (same_rd st)
      refine ⟨_, .ty "int", _, _, false, rfl, .ty "int", r12.ty, kit_ty (by simp only [D.ty]; decide +kernel), ?_⟩
      walk_at "st"
      intro u hu
      have su := same_new (o := .tup [.ty "int", .ty "list", .ty "tuple", .ty "dict"]) hu
      refine ⟨_, u, _, _, _, false, rfl, upd_same, (.cons (.ty "int") (.cons (.ty "list") (.cons (.ty "tuple") (.cons (.ty "dict") .nil)))), (r1.mono (same_rd su)).ty, (kitAny_cons (b := false) (kit_ty (by simp only [D.ty]; decide +kernel)) (fun _ => (kitAny_cons (b := false) (kit_ty (by simp only [D.ty]; decide +kernel)) (fun _ => (kitAny_cons (b := false) (kit_ty (by simp only [D.ty]; decide +kernel)) (fun _ => (kitAny_cons (b := false) (kit_ty (by simp only [D.ty]; decide +kernel)) (fun _ => kitAny_nil) (fun h => nomatch h))) (fun h => nomatch h))) (fun h => nomatch h))) (fun h => nomatch h)), ?_⟩
      walk_at "st"
      exact k _ (st.trans su)
    | str z =>
      cases r2
      refine ⟨_, .ty "dict", _, _, false, rfl, .ty "dict", r02.ty, kit_ty (by simp only [D.ty]; decide +kernel), ?_⟩
      walk_at "st"
      intro t ht
      have st := same_new (o := .tup [.ty "list", .ty "tuple"]) ht
      refine ⟨_, t, _, _, _, false, rfl, upd_same, (.cons (.ty "list") (.cons (.ty "tuple") .nil)), (r02.mono (same_rd st)).ty, (kitAny_cons (b := false) (kit_ty (by simp only [D.ty]; decide +kernel)) (fun _ => (kitAny_cons (b := false) (kit_ty (by simp only [D.ty]; decide +kernel)) (fun _ => kitAny_nil) (fun h => nomatch h))) (fun h => nomatch h)), ?_⟩
      walk_at "st"
      have r1 := r0.mono (same_rd st)
      have r12 := r02.mono (same_rd st)
      refine ⟨_, .ty "int", _, _, false, rfl, .ty "int", r12.ty, kit_ty (by simp only [D.ty]; decide +kernel), ?_⟩
      walk_at "st"
      refine if_true_of (decide_eq_true rfl) ?_
      walk_at "st"
      intro u hu
      have su := same_new (o := .tup [.ty "int", .ty "list", .ty "tuple", .ty "dict"]) hu
      refine ⟨_, u, _, _, _, false, rfl, upd_same, (.cons (.ty "int") (.cons (.ty "list") (.cons (.ty "tuple") (.cons (.ty "dict") .nil)))), (r1.mono (same_rd su)).ty, (kitAny_cons (b := false) (kit_ty (by simp only [D.ty]; decide +kernel)) (fun _ => (kitAny_cons (b := false) (kit_ty (by simp only [D.ty]; decide +kernel)) (fun _ => (kitAny_cons (b := false) (kit_ty (by simp only [D.ty]; decide +kernel)) (fun _ => (kitAny_cons (b := false) (kit_ty (by simp only [D.ty]; decide +kernel)) (fun _ => kitAny_nil) (fun h => nomatch h))) (fun h => nomatch h))) (fun h => nomatch h))) (fun h => nomatch h)), ?_⟩
      walk_at "st"
      exact k _ (st.trans su)
    | @lst a xs ds h1 h2 h3 =>
      cases r2 with
      | @lst b ys _ g1 g2 g3 =>
      have hl1 := h3.length
      have hl2 := g3.length
      have hdd : D.depthA ds < n := by simp only [D.depth] at hd; omega
      refine ⟨_, .ty "dict", _, _, false, rfl, .ty "dict", r02.ty, kit_ty (by simp only [D.ty]; decide +kernel), ?_⟩
      walk_at "st"
      intro t ht
      have st := same_new (o := .tup [.ty "list", .ty "tuple"]) ht
      refine ⟨_, t, _, _, _, true, rfl, upd_same, (.cons (.ty "list") (.cons (.ty "tuple") .nil)), (r02.mono (same_rd st)).ty, (kitAny_cons (b := true) (kit_ty (by simp only [D.ty]; decide +kernel)) (fun h => nomatch h) (fun _ => rfl)), ?_⟩
      walk_at "st"
      have r1 := r0.mono (same_rd st)
      have r12 := r02.mono (same_rd st)
      refine ⟨_, .ty "list", _, _, true, rfl, .ty "list", r1.ty, kit_ty (by simp only [D.ty]; decide +kernel), ?_⟩
      walk_at "st"
      refine ⟨_, .ty "list", _, _, true, rfl, .ty "list", r12.ty, kit_ty (by simp only [D.ty]; decide +kernel), ?_⟩
      walk_at "st"
      refine ⟨_, .ty "tuple", _, _, false, rfl, .ty "tuple", r1.ty, kit_ty (by simp only [D.ty]; decide +kernel), ?_⟩
      walk_at "st"
      refine ⟨_, .ty "tuple", _, _, false, rfl, .ty "tuple", r12.ty, kit_ty (by simp only [D.ty]; decide +kernel), ?_⟩
      walk_at "st"
      have q1 : Rd (upd H t (.tup [.ty "list", .ty "tuple"])) a (.lst xs) := same_rd st _ _ h1
      have q2 : Rd (upd H t (.tup [.ty "list", .ty "tuple"])) b (.lst ys) := same_rd st _ _ g1
      refine ⟨a, xs, rfl, .inl (.inl q1), ?_⟩
      walk_at "st"
      refine ⟨b, ys, rfl, .inl (.inl q2), ?_⟩
      walk_at "st"
      refine if_true_of (decide_eq_true (by rw [hl1, hl2])) ?_
      walk_at "st"
      have h3' := h3.mono (same_rd st)
      have g3' := g3.mono (same_rd st)
      generalize upd H t (.tup [.ty "list", .ty "tuple"]) = H1 at st q1 q2 h3' g3' ⊢
      refine ⟨a, b, xs, ys, rfl, .inl ⟨.inl q1, .inl q2, fun D0 hD => ?_⟩⟩
      refine lc_it (n := xs.length) (walk_zip (xs := xs) (ys := ys) (by omega)) (TruP H1 D0) (.zero hD) (fun i H _ c => ⟨.inl (same_rd c.sm _ _ q1), .inl (same_rd c.sm _ _ q2)⟩) ?_ ?_
      · rintro i x H3 H4 hi c ⟨T0, x1, y1, rfl, hT, rfl, e1, e2⟩
        obtain ⟨d1, f1, f2, f3⟩ := h3'.at e1
        obtain ⟨d2, f4, f5, f6⟩ := g3'.at e2
        rw [f1] at f4
        cases f4
        have s3 := c.sm.trans (same_new (o := .tup [x1, y1]) hT)
        refine ⟨T0, [x1, y1], rfl, SqT.of upd_same, rfl, _, _, rfl, _, _, rfl, rfl, rfl, ?_⟩
        walk_at "st"
        exact .a ⟨x1, y1, d1, rfl, f2.mono (same_rd s3), f5.mono (same_rd s3), by omega, fun H5 s5 => c.next hD (by omega) ((same_new hT).trans s5)⟩
      · intro H3 c
        walk_at "st"
        refine ⟨D0, _, rfl, SqL.of c.at_, ?_⟩
        rw [all_true]
        exact k _ (st.trans c.sm)
    | @tup a xs ds h1 h2 h3 =>
      cases r2 with
      | @tup b ys _ g1 g2 g3 =>
      have hl1 := h3.length
      have hl2 := g3.length
      have hdd : D.depthA ds < n := by simp only [D.depth] at hd; omega
      refine ⟨_, .ty "dict", _, _, false, rfl, .ty "dict", r02.ty, kit_ty (by simp only [D.ty]; decide +kernel), ?_⟩
      walk_at "st"
      intro t ht
      have st := same_new (o := .tup [.ty "list", .ty "tuple"]) ht
      refine ⟨_, t, _, _, _, true, rfl, upd_same, (.cons (.ty "list") (.cons (.ty "tuple") .nil)), (r02.mono (same_rd st)).ty, (kitAny_cons (b := false) (kit_ty (by simp only [D.ty]; decide +kernel)) (fun _ => (kitAny_cons (b := true) (kit_ty (by simp only [D.ty]; decide +kernel)) (fun h => nomatch h) (fun _ => rfl))) (fun h => nomatch h)), ?_⟩
      walk_at "st"
      have r1 := r0.mono (same_rd st)
      have r12 := r02.mono (same_rd st)
      refine ⟨_, .ty "list", _, _, false, rfl, .ty "list", r1.ty, kit_ty (by simp only [D.ty]; decide +kernel), ?_⟩
      walk_at "st"
      refine ⟨_, .ty "list", _, _, false, rfl, .ty "list", r12.ty, kit_ty (by simp only [D.ty]; decide +kernel), ?_⟩
      walk_at "st"
      refine ⟨_, .ty "tuple", _, _, true, rfl, .ty "tuple", r1.ty, kit_ty (by simp only [D.ty]; decide +kernel), ?_⟩
      walk_at "st"
      refine ⟨_, .ty "tuple", _, _, true, rfl, .ty "tuple", r12.ty, kit_ty (by simp only [D.ty]; decide +kernel), ?_⟩
      walk_at "st"
      have q1 : Rd (upd H t (.tup [.ty "list", .ty "tuple"])) a (.tup xs) := same_rd st _ _ h1
      have q2 : Rd (upd H t (.tup [.ty "list", .ty "tuple"])) b (.tup ys) := same_rd st _ _ g1
      refine ⟨a, xs, rfl, .inr (.inl q1), ?_⟩
      walk_at "st"
      refine ⟨b, ys, rfl, .inr (.inl q2), ?_⟩
      walk_at "st"
      refine if_true_of (decide_eq_true (by rw [hl1, hl2])) ?_
      walk_at "st"
      have h3' := h3.mono (same_rd st)
      have g3' := g3.mono (same_rd st)
      generalize upd H t (.tup [.ty "list", .ty "tuple"]) = H1 at st q1 q2 h3' g3' ⊢
      refine ⟨a, b, xs, ys, rfl, .inr ⟨.inl q1, .inl q2, fun D0 hD => ?_⟩⟩
      refine lc_it (n := xs.length) (walk_zipT (xs := xs) (ys := ys) (by omega)) (TruP H1 D0) (.zero hD) (fun i H _ c => ⟨.inl (same_rd c.sm _ _ q1), .inl (same_rd c.sm _ _ q2)⟩) ?_ ?_
      · rintro i x H3 H4 hi c ⟨T0, x1, y1, rfl, hT, rfl, e1, e2⟩
        obtain ⟨d1, f1, f2, f3⟩ := h3'.at e1
        obtain ⟨d2, f4, f5, f6⟩ := g3'.at e2
        rw [f1] at f4
        cases f4
        have s3 := c.sm.trans (same_new (o := .tup [x1, y1]) hT)
        refine ⟨T0, [x1, y1], rfl, SqT.of upd_same, rfl, _, _, rfl, _, _, rfl, rfl, rfl, ?_⟩
        walk_at "st"
        exact .a ⟨x1, y1, d1, rfl, f2.mono (same_rd s3), f5.mono (same_rd s3), by omega, fun H5 s5 => c.next hD (by omega) ((same_new hT).trans s5)⟩
      · intro H3 c
        walk_at "st"
        refine ⟨D0, _, rfl, SqL.of c.at_, ?_⟩
        rw [all_true]
        exact k _ (st.trans c.sm)
    | @dct a xs ds h1 h2 h3 =>
      cases r2 with
      | @dct b ys _ g1 g2 g3 =>
      have hl1 := h3.length
      have hl2 := g3.length
      have hdd : D.depthA ds < n := by simp only [D.depth] at hd; omega
      refine ⟨_, .ty "dict", _, _, true, rfl, .ty "dict", r02.ty, kit_ty (by simp only [D.ty]; decide +kernel), ?_⟩
      walk_at "st"
      refine ⟨_, .ty "dict", _, _, true, rfl, .ty "dict", r0.ty, kit_ty (by simp only [D.ty]; decide +kernel), ?_⟩
      walk_at "st"
      refine ⟨a, kz xs, rfl, h1, fun l1 n1 => ?_⟩
      walk_at "st"
      refine ⟨l1, keys3.take xs.length, rfl, SqL.of (by rw [upd_same, kz_kV]), keys_len, fun zs p1 hz1 hs1 m1 => ?_⟩
      obtain rfl := sorted_one h2 hz1 hs1
      have s1 : Same H (upd (upd H l1 (.lst ((kz xs).map fun kv => kV kv.1))) p1 (.lst ((keys3.take xs.length).map V.str))) := (same_new n1).trans (same_new m1)
      have a1 : (upd (upd H l1 (.lst ((kz xs).map fun kv => kV kv.1))) p1 (.lst ((keys3.take xs.length).map V.str))) p1 = some (.lst ((keys3.take xs.length).map V.str)) := upd_same
      generalize upd (upd H l1 (.lst ((kz xs).map fun kv => kV kv.1))) p1 (.lst ((keys3.take xs.length).map V.str)) = H1 at s1 a1 ⊢
      walk_at "st"
      refine ⟨b, kz ys, rfl, same_rd s1 _ _ g1, fun l2 n2 => ?_⟩
      walk_at "st"
      refine ⟨l2, keys3.take ys.length, rfl, SqL.of (by rw [upd_same, kz_kV]), keys_len, fun zs p2 hz2 hs2 m2 => ?_⟩
      obtain rfl := sorted_one g2 hz2 hs2
      have s2 : Same H1 (upd (upd H1 l2 (.lst ((kz ys).map fun kv => kV kv.1))) p2 (.lst ((keys3.take ys.length).map V.str))) := (same_new n2).trans (same_new m2)
      have a2 : (upd (upd H1 l2 (.lst ((kz ys).map fun kv => kV kv.1))) p2 (.lst ((keys3.take ys.length).map V.str))) p2 = some (.lst ((keys3.take ys.length).map V.str)) := upd_same
      generalize upd (upd H1 l2 (.lst ((kz ys).map fun kv => kV kv.1))) p2 (.lst ((keys3.take ys.length).map V.str)) = H2 at s2 a2 ⊢
      have el : ys.length = xs.length := by omega
      rw [el] at a2
      have s12 := s1.trans s2
      obtain ⟨ev, sh⟩ := keys_eqv h2
      refine ⟨.list ((keys3.take xs.length).map PyData.str), .list ((keys3.take xs.length).map PyData.str), .lst (SqL.of (s2 _ _ a1)) (dpAll_strs _), .lst (SqL.of a2) (dpAll_strs _), sh, sh, ?_⟩
      rw [ev]
      walk_at "st"
      have fin : ∀ (D0 : Addr) (H5 : Hp) (m : Nat), H5 D0 = some (.lst ((List.replicate m true).map V.bl)) → Same H H5 →
          ∃ (a : Addr) (bs : List Bool), [V.ref D0] = [.ref a] ∧ SqL K H5 a (bs.map V.bl) ∧ Q (.bl (bs.all id)) H5 := fun D0 H5 m e s5 => ⟨D0, _, rfl, SqL.of e, by rw [all_true]; exact k H5 s5⟩
      have h1' := same_rd s12 _ _ h1
      have g1' := same_rd s12 _ _ g1
      have h3' := h3.mono (same_rd s12)
      have g3' := g3.mono (same_rd s12)
      rcases g1' with e1 | ⟨u, e1⟩
      · refine .inl ⟨b, _, e1, trivial, fun od => ?_⟩
        have r0' : RdS H2 (upd H2 b (.frz od (.dK (kz ys)))) := fun c o e => by
          by_cases q : c = b
          · rcases e with e | ⟨w, e⟩
            · rw [q, e1] at e; cases e; exact .inr ⟨od, by rw [q, upd_same]⟩
            · rw [q, e1] at e; cases e
          · rcases e with e | ⟨w, e⟩
            · exact .inl (by rw [upd_ne q]; exact e)
            · exact .inr ⟨w, by rw [upd_ne q]; exact e⟩
        refine same_dict (n := n) upd_same (r0' _ _ h1') h2 g2 (h3'.mono r0') (g3'.mono r0') hdd fun D0 H3 c hD => ?_
        have ha := c.sm b _ upd_same
        have hDa : D0 ≠ b := fun e => by rw [e, upd_same] at hD; cases hD
        refine ⟨ha, ?_⟩
        walk_at "st"
        refine fin D0 _ ys.length (by rw [upd_ne hDa]; exact c.at_) (s12.trans fun c' o e => ?_)
        by_cases q : c' = b
        · rw [q, e1] at e; rw [q, upd_same]; exact e
        · rw [upd_ne q]; exact c.sm c' o (by rw [upd_ne q]; exact e)
      · refine .inr (same_dict (n := n) e1 h1' h2 g2 h3' g3' hdd fun D0 H3 c hD => ?_)
        walk_at "st"
        exact fin D0 H3 ys.length c.at_ (s12.trans c.sm)
theorem ok_same (T : Txt K mg) : ∀ n, FnOk P w K mg base CX0 (n + 1) T.f__law_same T.fd__law_same ["_law_found", "_law_due"] (spSame n)
  | 0 => ok_same0 T
  | n + 1 => ok_sameS T n (ok_same T n)
end
end My

namespace My
open PySem PySem.Spec PyProof.Rows L2
local macro_rules | `(tactic| walk_at "hp") => `(tactic| first | assumption | exact upd_same | (refine Eq.trans (upd_ne (by first | assumption | (apply Ne.symm; assumption))) ?_; walk_at "hp"))
local macro_rules | `(tactic| walk_at "ixl") => `(tactic| (refine' ⟨_, ?xs, _, ?vv, rfl, rfl, SqL.of ?hh, ?aa, ?qq⟩; (case hh => walk_at "hp"); (case aa => rfl)))
local macro_rules | `(tactic| walk_at "setl") => `(tactic| (refine' ⟨_, ?xs, _, ?jj, rfl, rfl, ?hh, ?aa, ?qq⟩; (case hh => walk_at "hp"); (case aa => rfl)))
local macro_rules | `(tactic| walk_at "cond") => `(tactic| first | exact Nat.le_of_lt (small1000 (Nat.le_of_ble_eq_true rfl)) | decide | omega | (dsimp only; omega) | exact ⟨by decide, by decide⟩ | exact Or.inr ⟨by decide, by decide⟩ | exact Or.inl ⟨by decide, by decide⟩ | exact ⟨by decide, by decide, by decide⟩ | exact ⟨by omega, by omega⟩ | exact ⟨by omega, by omega, by omega⟩)
local macro_rules | `(tactic| walk_at "st") => `(tactic| repeat (first | refine ⟨_, rfl, ?_⟩ | refine ⟨_, _, rfl, rfl, ?_⟩ | walk_at "ixl" | walk_at "setl" | refine ⟨rfl, ?_⟩ | refine Or.inl ⟨_, rfl, ?_⟩ | refine And.intro (by walk_at "cond") ?_))
def spFields : Sp := fun vs H Q _ => Hd (∃ (v : V), vs = [v] ∧ ∀ (p : Addr) (H' : Hp), H' p = some (.lst (List.replicate 24 v)) → Same H H' → Q (.ref p) H')
/-- e is an error of the i-th class -/
def IsErr (c : Nat → Addr) (H : Hp) (e : Addr) (i : Nat) : Prop := ∃ d, H e = some (ExD (c i) d e) ∧ ∀ dd, d = some dd → ∃ fs, H dd = some (.xd fs)
theorem IsErr.same {c : Nat → Addr} {H H' : Hp} {e : Addr} {i : Nat} (h : IsErr c H e i) (s : Same H H') : IsErr c H' e i := by
  obtain ⟨d, h1, h2⟩ := h
  exact ⟨d, s _ _ h1, fun dd e => by obtain ⟨fs, h3⟩ := h2 dd e; exact ⟨fs, s _ _ h3⟩⟩
def spErrors (c : Nat → Addr) : Sp := fun vs H Q _ => Hd (∃ (v : V), vs = [v] ∧ ∀ (p : Addr) (es : List Addr) (H' : Hp), H' p = some (.lst (es.map V.ref)) → es.length = 13 → (∀ (i : Nat) e, es[i]? = some e → IsErr c H' e i) → Same H H' → Q (.ref p) H')
section
variable {P : Program} {w : World} {K : PySem.W.Frag} {mg : Str → Option Value} {base : Heap}
theorem ok_fields (T : Txt K mg) : FnOk P w K mg base CX0 3 T.f__law_fields T.fd__law_fields ["_law_thing"] spFields := by
  refine T.D__law_fields.F.ok sc__law_fields (fun vs H Q E h => ?_) (fun cdv A outer s H vs Q E hr h => ?_)
  · obtain ⟨v, rfl, _⟩ := h.out
    rfl
  · obtain ⟨v, rfl, k⟩ := h.out
    refine ⟨_, (pss_cons (ps_set (i := 1) sc__law_fields.nd rfl (by first | exact Or.inl rfl | exact Or.inr rfl) (pe_lstG (pa_cons (pe_errF T.E_BadLevel (pe_errG T.E_BadLevel hr (pa_cons (pv 0) pa_nil) rfl)) (pa_cons (pe_errF T.E_BadLevel (pe_errGK T.E_BadLevel hr (pk_cons (pv 0) pk_nil) rfl)) (pa_cons (pe_errF T.E_BadName (pe_errG T.E_BadName hr (pa_cons (pv 0) pa_nil) rfl)) (pa_cons (pe_errF T.E_BadName (pe_errGK T.E_BadName hr (pk_cons (pv 0) pk_nil) rfl)) pa_nil))))))
  (pss_cons (ps_set (i := 1) sc__law_fields.nd rfl (by first | exact Or.inl rfl | exact Or.inr rfl) (pe_op op_catG (pv 1) (pe_lstG (pa_cons (pe_errF T.E_BadExtra (pe_errG T.E_BadExtra hr (pa_cons (pv 0) pa_nil) rfl)) (pa_cons (pe_errF T.E_BadExtra (pe_errGK T.E_BadExtra hr (pk_cons (pv 0) pk_nil) rfl)) (pa_cons (pe_errF T.E_BadMessage (pe_errG T.E_BadMessage hr (pa_cons (pv 0) pa_nil) rfl)) (pa_cons (pe_errF T.E_BadMessage (pe_errGK T.E_BadMessage hr (pk_cons (pv 0) pk_nil) rfl)) pa_nil)))))))
  (pss_cons (ps_set (i := 1) sc__law_fields.nd rfl (by first | exact Or.inl rfl | exact Or.inr rfl) (pe_op op_catG (pv 1) (pe_lstG (pa_cons (pe_errF T.E_BadField (pe_errG T.E_BadField hr (pa_cons (pv 0) pa_nil) rfl)) (pa_cons (pe_errF T.E_BadField (pe_errGK T.E_BadField hr (pk_cons (pv 0) pk_nil) rfl)) (pa_cons (pe_errF T.E_BadFormat (pe_errG T.E_BadFormat hr (pa_cons (pv 0) pa_nil) rfl)) (pa_cons (pe_errF T.E_BadFormat (pe_errGK T.E_BadFormat hr (pk_cons (pv 0) pk_nil) rfl)) pa_nil)))))))
  (pss_cons (ps_set (i := 1) sc__law_fields.nd rfl (by first | exact Or.inl rfl | exact Or.inr rfl) (pe_op op_catG (pv 1) (pe_lstG (pa_cons (pe_errF T.E_BadStyle (pe_errG T.E_BadStyle hr (pa_cons (pv 0) pa_nil) rfl)) (pa_cons (pe_errF T.E_BadStyle (pe_errGK T.E_BadStyle hr (pk_cons (pv 0) pk_nil) rfl)) (pa_cons (pe_errF T.E_BadMode (pe_errG T.E_BadMode hr (pa_cons (pv 0) pa_nil) rfl)) (pa_cons (pe_errF T.E_BadMode (pe_errGK T.E_BadMode hr (pk_cons (pv 0) pk_nil) rfl)) pa_nil)))))))
  (pss_cons (ps_set (i := 1) sc__law_fields.nd rfl (by first | exact Or.inl rfl | exact Or.inr rfl) (pe_op op_catG (pv 1) (pe_lstG (pa_cons (pe_errF T.E_BadWhen (pe_errG T.E_BadWhen hr (pa_cons (pv 0) pa_nil) rfl)) (pa_cons (pe_errF T.E_BadWhen (pe_errGK T.E_BadWhen hr (pk_cons (pv 0) pk_nil) rfl)) (pa_cons (pe_errF T.E_BadDeed (pe_errG T.E_BadDeed hr (pa_cons (pv 0) pa_nil) rfl)) (pa_cons (pe_errF T.E_BadDeed (pe_errGK T.E_BadDeed hr (pk_cons (pv 0) pk_nil) rfl)) pa_nil)))))))
  (pss_cons (ps_set (i := 1) sc__law_fields.nd rfl (by first | exact Or.inl rfl | exact Or.inr rfl) (pe_op op_catG (pv 1) (pe_lstG (pa_cons (pe_errF T.E_BadSettings (pe_errG T.E_BadSettings hr (pa_cons (pv 0) pa_nil) rfl)) (pa_cons (pe_errF T.E_BadSettings (pe_errGK T.E_BadSettings hr (pk_cons (pv 0) pk_nil) rfl)) pa_nil)))))
  (pss_one (ps_ret (pe_op op_catG (pv 1) (pe_lstG (pa_cons (pe_errF T.E_NotJudged (pe_errG T.E_NotJudged hr (pa_cons (pv 0) pa_nil) rfl)) (pa_cons (pe_errF T.E_NotJudged (pe_errGK T.E_NotJudged hr (pk_cons (pv 0) pk_nil) rfl)) pa_nil)))))))))))), ?_⟩
    walk_at "st"
    intro a1 d1 H1 n1 h1 g1 s1
    refine ⟨a1, d1, _, rfl, h1, g1, ?_⟩
    walk_at "st"
    intro a2 d2 H2 n2 h2 g2 s2
    refine ⟨a2, d2, _, rfl, h2, g2, ?_⟩
    walk_at "st"
    intro a3 d3 H3 n3 h3 g3 s3
    refine ⟨a3, d3, _, rfl, h3, g3, ?_⟩
    walk_at "st"
    intro a4 d4 H4 n4 h4 g4 s4
    refine ⟨a4, d4, _, rfl, h4, g4, ?_⟩
    walk_at "st"
    intro p5 H5 n5 h5 s5
    walk_at "st"
    intro a6 d6 H6 n6 h6 g6 s6
    refine ⟨a6, d6, _, rfl, h6, g6, ?_⟩
    walk_at "st"
    intro a7 d7 H7 n7 h7 g7 s7
    refine ⟨a7, d7, _, rfl, h7, g7, ?_⟩
    walk_at "st"
    intro a8 d8 H8 n8 h8 g8 s8
    refine ⟨a8, d8, _, rfl, h8, g8, ?_⟩
    walk_at "st"
    intro a9 d9 H9 n9 h9 g9 s9
    refine ⟨a9, d9, _, rfl, h9, g9, ?_⟩
    walk_at "st"
    intro p10 H10 n10 h10 s10
    refine ⟨p5, p10, _, _, rfl, rfl, (s10 _ _ (s9 _ _ (s8 _ _ (s7 _ _ (s6 _ _ h5))))), h10, by dsimp only [List.length, List.append]; exact Nat.le_of_lt (small1000 (Nat.le_of_ble_eq_true rfl)), ?_⟩
    intro p11 H11 n11 h11 s11
    walk_at "st"
    intro a12 d12 H12 n12 h12 g12 s12
    refine ⟨a12, d12, _, rfl, h12, g12, ?_⟩
    walk_at "st"
    intro a13 d13 H13 n13 h13 g13 s13
    refine ⟨a13, d13, _, rfl, h13, g13, ?_⟩
    walk_at "st"
    intro a14 d14 H14 n14 h14 g14 s14
    refine ⟨a14, d14, _, rfl, h14, g14, ?_⟩
    walk_at "st"
    intro a15 d15 H15 n15 h15 g15 s15
    refine ⟨a15, d15, _, rfl, h15, g15, ?_⟩
    walk_at "st"
    intro p16 H16 n16 h16 s16
    refine ⟨p11, p16, _, _, rfl, rfl, (s16 _ _ (s15 _ _ (s14 _ _ (s13 _ _ (s12 _ _ h11))))), h16, by dsimp only [List.length, List.append]; exact Nat.le_of_lt (small1000 (Nat.le_of_ble_eq_true rfl)), ?_⟩
    intro p17 H17 n17 h17 s17
    walk_at "st"
    intro a18 d18 H18 n18 h18 g18 s18
    refine ⟨a18, d18, _, rfl, h18, g18, ?_⟩
    walk_at "st"
    intro a19 d19 H19 n19 h19 g19 s19
    refine ⟨a19, d19, _, rfl, h19, g19, ?_⟩
    walk_at "st"
    intro a20 d20 H20 n20 h20 g20 s20
    refine ⟨a20, d20, _, rfl, h20, g20, ?_⟩
    walk_at "st"
    intro a21 d21 H21 n21 h21 g21 s21
    refine ⟨a21, d21, _, rfl, h21, g21, ?_⟩
    walk_at "st"
    intro p22 H22 n22 h22 s22
    refine ⟨p17, p22, _, _, rfl, rfl, (s22 _ _ (s21 _ _ (s20 _ _ (s19 _ _ (s18 _ _ h17))))), h22, by dsimp only [List.length, List.append]; exact Nat.le_of_lt (small1000 (Nat.le_of_ble_eq_true rfl)), ?_⟩
    intro p23 H23 n23 h23 s23
    walk_at "st"
    intro a24 d24 H24 n24 h24 g24 s24
    refine ⟨a24, d24, _, rfl, h24, g24, ?_⟩
    walk_at "st"
    intro a25 d25 H25 n25 h25 g25 s25
    refine ⟨a25, d25, _, rfl, h25, g25, ?_⟩
    walk_at "st"
    intro a26 d26 H26 n26 h26 g26 s26
    refine ⟨a26, d26, _, rfl, h26, g26, ?_⟩
    walk_at "st"
    intro a27 d27 H27 n27 h27 g27 s27
    refine ⟨a27, d27, _, rfl, h27, g27, ?_⟩
    walk_at "st"
    intro p28 H28 n28 h28 s28
    refine ⟨p23, p28, _, _, rfl, rfl, (s28 _ _ (s27 _ _ (s26 _ _ (s25 _ _ (s24 _ _ h23))))), h28, by dsimp only [List.length, List.append]; exact Nat.le_of_lt (small1000 (Nat.le_of_ble_eq_true rfl)), ?_⟩
    intro p29 H29 n29 h29 s29
    walk_at "st"
    intro a30 d30 H30 n30 h30 g30 s30
    refine ⟨a30, d30, _, rfl, h30, g30, ?_⟩
    walk_at "st"
    intro a31 d31 H31 n31 h31 g31 s31
    refine ⟨a31, d31, _, rfl, h31, g31, ?_⟩
    walk_at "st"
    intro p32 H32 n32 h32 s32
    refine ⟨p29, p32, _, _, rfl, rfl, (s32 _ _ (s31 _ _ (s30 _ _ h29))), h32, by dsimp only [List.length, List.append]; exact Nat.le_of_lt (small1000 (Nat.le_of_ble_eq_true rfl)), ?_⟩
    intro p33 H33 n33 h33 s33
    walk_at "st"
    intro a34 d34 H34 n34 h34 g34 s34
    refine ⟨a34, d34, _, rfl, h34, g34, ?_⟩
    walk_at "st"
    intro a35 d35 H35 n35 h35 g35 s35
    refine ⟨a35, d35, _, rfl, h35, g35, ?_⟩
    walk_at "st"
    intro p36 H36 n36 h36 s36
    refine ⟨p33, p36, _, _, rfl, rfl, (s36 _ _ (s35 _ _ (s34 _ _ h33))), h36, by dsimp only [List.length, List.append]; exact Nat.le_of_lt (small1000 (Nat.le_of_ble_eq_true rfl)), ?_⟩
    intro p37 H37 n37 h37 s37
    exact k p37 H37 h37 (Same.trans (Same.trans (Same.trans (Same.trans (Same.trans (Same.trans (Same.trans (Same.trans (Same.trans (Same.trans (Same.trans (Same.trans (Same.trans (Same.trans (Same.trans (Same.trans (Same.trans (Same.trans (Same.trans (Same.trans (Same.trans (Same.trans (Same.trans (Same.trans (Same.trans (Same.trans (Same.trans (Same.trans (Same.trans (Same.trans (Same.trans (Same.trans (Same.trans (Same.trans (Same.trans (Same.trans s1 s2) s3) s4) s5) s6) s7) s8) s9) s10) s11) s12) s13) s14) s15) s16) s17) s18) s19) s20) s21) s22) s23) s24) s25) s26) s27) s28) s29) s30) s31) s32) s33) s34) s35) s36) s37)
theorem ok_errors (T : Txt K mg) : FnOk P w K mg base CX0 3 T.f__law_errors T.fd__law_errors ["_law_thing"] (spErrors T.c) := by
  refine T.D__law_errors.F.ok sc__law_errors (fun vs H Q E h => ?_) (fun cdv A outer s H vs Q E hr h => ?_)
  · obtain ⟨v, rfl, _⟩ := h.out
    rfl
  · obtain ⟨v, rfl, k⟩ := h.out
    refine ⟨_, (pss_cons (ps_set (i := 1) sc__law_errors.nd rfl (by first | exact Or.inl rfl | exact Or.inr rfl) (pe_lstG (pa_cons (pe_errG T.E_BadLevel hr (pa_cons (pv 0) pa_nil) rfl) (pa_cons (pe_errG T.E_BadName hr (pa_cons (pv 0) pa_nil) rfl) (pa_cons (pe_errG T.E_BadExtra hr (pa_cons (pv 0) pa_nil) rfl) (pa_cons (pe_errG T.E_BadMessage hr (pa_cons (pv 0) pa_nil) rfl) (pa_cons (pe_errG T.E_BadField hr (pa_cons (pv 0) pa_nil) rfl) (pa_cons (pe_errG T.E_BadFormat hr (pa_cons (pv 0) pa_nil) rfl) pa_nil))))))))
  (pss_cons (ps_set (i := 1) sc__law_errors.nd rfl (by first | exact Or.inl rfl | exact Or.inr rfl) (pe_op op_catG (pv 1) (pe_lstG (pa_cons (pe_errG T.E_BadStyle hr (pa_cons (pv 0) pa_nil) rfl) (pa_cons (pe_errG T.E_BadMode hr (pa_cons (pv 0) pa_nil) rfl) (pa_cons (pe_errG T.E_BadWhen hr (pa_cons (pv 0) pa_nil) rfl) (pa_cons (pe_errG T.E_BadSettings hr (pa_cons (pv 0) pa_nil) rfl) (pa_cons (pe_errG T.E_NotJudged hr (pa_cons (pv 0) pa_nil) rfl) (pa_cons (pe_err0 T.E_BadCuts hr rfl) pa_nil)))))))))
  (pss_one (ps_ret (pe_op op_catG (pv 1) (pe_lstG (pa_cons (pe_errG T.E_BadDeed hr (pa_cons (pv 0) pa_nil) rfl) pa_nil))))))), ?_⟩
    walk_at "st"
    intro a1 d1 H1 n1 h1 g1 s1
    walk_at "st"
    intro a2 d2 H2 n2 h2 g2 s2
    walk_at "st"
    intro a3 d3 H3 n3 h3 g3 s3
    walk_at "st"
    intro a4 d4 H4 n4 h4 g4 s4
    walk_at "st"
    intro a5 d5 H5 n5 h5 g5 s5
    walk_at "st"
    intro a6 d6 H6 n6 h6 g6 s6
    walk_at "st"
    intro p7 H7 n7 h7 s7
    walk_at "st"
    intro a8 d8 H8 n8 h8 g8 s8
    walk_at "st"
    intro a9 d9 H9 n9 h9 g9 s9
    walk_at "st"
    intro a10 d10 H10 n10 h10 g10 s10
    walk_at "st"
    intro a11 d11 H11 n11 h11 g11 s11
    walk_at "st"
    intro a12 d12 H12 n12 h12 g12 s12
    walk_at "st"
    intro a13 n13
    have s13 := sameNew (o := ExD (T.c 11) none a13) n13
    have h13 : (upd _ a13 (ExD (T.c 11) none a13)) a13 = _ := upd_same (H := H12)
    generalize hH13 : upd H12 a13 (ExD (T.c 11) none a13) = H13 at s13 h13 ⊢
    walk_at "st"
    intro p14 H14 n14 h14 s14
    refine ⟨p7, p14, _, _, rfl, rfl, (s14 _ _ (s13 _ _ (s12 _ _ (s11 _ _ (s10 _ _ (s9 _ _ (s8 _ _ h7))))))), h14, by dsimp only [List.length, List.append]; exact Nat.le_of_lt (small1000 (Nat.le_of_ble_eq_true rfl)), ?_⟩
    intro p15 H15 n15 h15 s15
    walk_at "st"
    intro a16 d16 H16 n16 h16 g16 s16
    walk_at "st"
    intro p17 H17 n17 h17 s17
    refine ⟨p15, p17, _, _, rfl, rfl, (s17 _ _ (s16 _ _ h15)), h17, by dsimp only [List.length, List.append]; exact Nat.le_of_lt (small1000 (Nat.le_of_ble_eq_true rfl)), ?_⟩
    intro p18 H18 n18 h18 s18
    have e0 : IsErr T.c H18 a1 0 := ⟨some d1, (s18 _ _ (s17 _ _ (s16 _ _ (s15 _ _ (s14 _ _ (s13 _ _ (s12 _ _ (s11 _ _ (s10 _ _ (s9 _ _ (s8 _ _ (s7 _ _ (s6 _ _ (s5 _ _ (s4 _ _ (s3 _ _ (s2 _ _ h1))))))))))))))))), fun dd e => by cases e; exact ⟨_, (s18 _ _ (s17 _ _ (s16 _ _ (s15 _ _ (s14 _ _ (s13 _ _ (s12 _ _ (s11 _ _ (s10 _ _ (s9 _ _ (s8 _ _ (s7 _ _ (s6 _ _ (s5 _ _ (s4 _ _ (s3 _ _ (s2 _ _ g1)))))))))))))))))⟩⟩
    have e1 : IsErr T.c H18 a2 1 := ⟨some d2, (s18 _ _ (s17 _ _ (s16 _ _ (s15 _ _ (s14 _ _ (s13 _ _ (s12 _ _ (s11 _ _ (s10 _ _ (s9 _ _ (s8 _ _ (s7 _ _ (s6 _ _ (s5 _ _ (s4 _ _ (s3 _ _ h2)))))))))))))))), fun dd e => by cases e; exact ⟨_, (s18 _ _ (s17 _ _ (s16 _ _ (s15 _ _ (s14 _ _ (s13 _ _ (s12 _ _ (s11 _ _ (s10 _ _ (s9 _ _ (s8 _ _ (s7 _ _ (s6 _ _ (s5 _ _ (s4 _ _ (s3 _ _ g2))))))))))))))))⟩⟩
    have e2 : IsErr T.c H18 a3 2 := ⟨some d3, (s18 _ _ (s17 _ _ (s16 _ _ (s15 _ _ (s14 _ _ (s13 _ _ (s12 _ _ (s11 _ _ (s10 _ _ (s9 _ _ (s8 _ _ (s7 _ _ (s6 _ _ (s5 _ _ (s4 _ _ h3))))))))))))))), fun dd e => by cases e; exact ⟨_, (s18 _ _ (s17 _ _ (s16 _ _ (s15 _ _ (s14 _ _ (s13 _ _ (s12 _ _ (s11 _ _ (s10 _ _ (s9 _ _ (s8 _ _ (s7 _ _ (s6 _ _ (s5 _ _ (s4 _ _ g3)))))))))))))))⟩⟩
    have e3 : IsErr T.c H18 a4 3 := ⟨some d4, (s18 _ _ (s17 _ _ (s16 _ _ (s15 _ _ (s14 _ _ (s13 _ _ (s12 _ _ (s11 _ _ (s10 _ _ (s9 _ _ (s8 _ _ (s7 _ _ (s6 _ _ (s5 _ _ h4)))))))))))))), fun dd e => by cases e; exact ⟨_, (s18 _ _ (s17 _ _ (s16 _ _ (s15 _ _ (s14 _ _ (s13 _ _ (s12 _ _ (s11 _ _ (s10 _ _ (s9 _ _ (s8 _ _ (s7 _ _ (s6 _ _ (s5 _ _ g4))))))))))))))⟩⟩
    have e4 : IsErr T.c H18 a5 4 := ⟨some d5, (s18 _ _ (s17 _ _ (s16 _ _ (s15 _ _ (s14 _ _ (s13 _ _ (s12 _ _ (s11 _ _ (s10 _ _ (s9 _ _ (s8 _ _ (s7 _ _ (s6 _ _ h5))))))))))))), fun dd e => by cases e; exact ⟨_, (s18 _ _ (s17 _ _ (s16 _ _ (s15 _ _ (s14 _ _ (s13 _ _ (s12 _ _ (s11 _ _ (s10 _ _ (s9 _ _ (s8 _ _ (s7 _ _ (s6 _ _ g5)))))))))))))⟩⟩
    have e5 : IsErr T.c H18 a6 5 := ⟨some d6, (s18 _ _ (s17 _ _ (s16 _ _ (s15 _ _ (s14 _ _ (s13 _ _ (s12 _ _ (s11 _ _ (s10 _ _ (s9 _ _ (s8 _ _ (s7 _ _ h6)))))))))))), fun dd e => by cases e; exact ⟨_, (s18 _ _ (s17 _ _ (s16 _ _ (s15 _ _ (s14 _ _ (s13 _ _ (s12 _ _ (s11 _ _ (s10 _ _ (s9 _ _ (s8 _ _ (s7 _ _ g6))))))))))))⟩⟩
    have e6 : IsErr T.c H18 a8 6 := ⟨some d8, (s18 _ _ (s17 _ _ (s16 _ _ (s15 _ _ (s14 _ _ (s13 _ _ (s12 _ _ (s11 _ _ (s10 _ _ (s9 _ _ h8)))))))))), fun dd e => by cases e; exact ⟨_, (s18 _ _ (s17 _ _ (s16 _ _ (s15 _ _ (s14 _ _ (s13 _ _ (s12 _ _ (s11 _ _ (s10 _ _ (s9 _ _ g8))))))))))⟩⟩
    have e7 : IsErr T.c H18 a9 7 := ⟨some d9, (s18 _ _ (s17 _ _ (s16 _ _ (s15 _ _ (s14 _ _ (s13 _ _ (s12 _ _ (s11 _ _ (s10 _ _ h9))))))))), fun dd e => by cases e; exact ⟨_, (s18 _ _ (s17 _ _ (s16 _ _ (s15 _ _ (s14 _ _ (s13 _ _ (s12 _ _ (s11 _ _ (s10 _ _ g9)))))))))⟩⟩
    have e8 : IsErr T.c H18 a10 8 := ⟨some d10, (s18 _ _ (s17 _ _ (s16 _ _ (s15 _ _ (s14 _ _ (s13 _ _ (s12 _ _ (s11 _ _ h10)))))))), fun dd e => by cases e; exact ⟨_, (s18 _ _ (s17 _ _ (s16 _ _ (s15 _ _ (s14 _ _ (s13 _ _ (s12 _ _ (s11 _ _ g10))))))))⟩⟩
    have e9 : IsErr T.c H18 a11 9 := ⟨some d11, (s18 _ _ (s17 _ _ (s16 _ _ (s15 _ _ (s14 _ _ (s13 _ _ (s12 _ _ h11))))))), fun dd e => by cases e; exact ⟨_, (s18 _ _ (s17 _ _ (s16 _ _ (s15 _ _ (s14 _ _ (s13 _ _ (s12 _ _ g11)))))))⟩⟩
    have e10 : IsErr T.c H18 a12 10 := ⟨some d12, (s18 _ _ (s17 _ _ (s16 _ _ (s15 _ _ (s14 _ _ (s13 _ _ h12)))))), fun dd e => by cases e; exact ⟨_, (s18 _ _ (s17 _ _ (s16 _ _ (s15 _ _ (s14 _ _ (s13 _ _ g12))))))⟩⟩
    have e11 : IsErr T.c H18 a13 11 := ⟨none, (s18 _ _ (s17 _ _ (s16 _ _ (s15 _ _ (s14 _ _ h13))))), fun dd e => nomatch e⟩
    have e12 : IsErr T.c H18 a16 12 := ⟨some d16, (s18 _ _ (s17 _ _ h16)), fun dd e => by cases e; exact ⟨_, (s18 _ _ (s17 _ _ g16))⟩⟩
    refine k p18 [a1, a2, a3, a4, a5, a6, a8, a9, a10, a11, a12, a13, a16] H18 h18 rfl ?_ (Same.trans (Same.trans (Same.trans (Same.trans (Same.trans (Same.trans (Same.trans (Same.trans (Same.trans (Same.trans (Same.trans (Same.trans (Same.trans (Same.trans (Same.trans (Same.trans (Same.trans s1 s2) s3) s4) s5) s6) s7) s8) s9) s10) s11) s12) s13) s14) s15) s16) s17) s18)
    intro i e he
    match i, he with
    | 0, he => cases he; exact e0
    | 1, he => cases he; exact e1
    | 2, he => cases he; exact e2
    | 3, he => cases he; exact e3
    | 4, he => cases he; exact e4
    | 5, he => cases he; exact e5
    | 6, he => cases he; exact e6
    | 7, he => cases he; exact e7
    | 8, he => cases he; exact e8
    | 9, he => cases he; exact e9
    | 10, he => cases he; exact e10
    | 11, he => cases he; exact e11
    | 12, he => cases he; exact e12
end
end My

namespace My
open PySem PySem.Spec PyProof.Rows L2
local macro_rules | `(tactic| walk_at "hp") => `(tactic| first | assumption | exact upd_same | (refine Eq.trans (upd_ne (by first | assumption | (apply Ne.symm; assumption))) ?_; walk_at "hp"))
local macro_rules | `(tactic| walk_at "ixl") => `(tactic| (refine' ⟨_, ?xs, _, ?vv, rfl, rfl, SqL.of ?hh, ?aa, ?qq⟩; (case hh => walk_at "hp"); (case aa => rfl)))
local macro_rules | `(tactic| walk_at "setl") => `(tactic| (refine' ⟨_, ?xs, _, ?jj, rfl, rfl, ?hh, ?aa, ?qq⟩; (case hh => walk_at "hp"); (case aa => rfl)))
local macro_rules | `(tactic| walk_at "cond") => `(tactic| first | exact Nat.le_of_lt (small1000 (Nat.le_of_ble_eq_true rfl)) | decide | omega | (dsimp only; omega) | exact ⟨by decide, by decide⟩ | exact Or.inr ⟨by decide, by decide⟩ | exact Or.inl ⟨by decide, by decide⟩ | exact ⟨by decide, by decide, by decide⟩ | exact ⟨by omega, by omega⟩ | exact ⟨by omega, by omega, by omega⟩)
local macro_rules | `(tactic| walk_at "st") => `(tactic| repeat (first | refine ⟨_, rfl, ?_⟩ | refine ⟨_, _, rfl, rfl, ?_⟩ | walk_at "ixl" | walk_at "setl" | refine ⟨rfl, ?_⟩ | refine Or.inl ⟨_, rfl, ?_⟩ | refine And.intro (by walk_at "cond") ?_))

/-- which of the thirteen it is -/
def tl (i : Nat) : List Bool := (List.range 13).map fun j => decide (j = i)
def spClasses (c : Nat → Addr) : Sp := fun vs H Q _ => Hd (∃ (e : Addr) (i : Nat), vs = [.ref e] ∧ i < 13 ∧ IsErr c H e i ∧ ∀ (p : Addr) (H' : Hp), H' p = some (.lst ((tl i).map V.bl)) → Same H H' → Q (.ref p) H')
/-- the same within the except suite, of the error at e that is handled -/
def spClassesZ (i : Nat) (d : Option Addr) (e : Addr) : Sp := fun vs H Q _ => Hd (vs = [.ref e] ∧ (∀ dd, d = some dd → ∃ fs, H dd = some (.xd fs)) ∧ ∀ (p : Addr) (H' : Hp), H' p = some (.lst ((tl i).map V.bl)) → Same H H' → Q (.ref p) H')
section
variable {P : Program} {w : World} {K : PySem.W.Frag} {mg : Str → Option Value} {base : Heap}
theorem ok_classes (T : Txt K mg) : FnOk P w K mg base CX0 3 T.f__law_classes T.fd__law_classes ["_law_e"] (spClasses T.c) := by
  refine T.D__law_classes.F.ok sc__law_classes (fun vs H Q E h => ?_) (fun cdv A outer s H vs Q E hr h => ?_)
  · obtain ⟨e, i, rfl, _⟩ := h.out
    rfl
  · obtain ⟨e, i, rfl, hi, ⟨d, he1, he2⟩, k⟩ := h.out
    refine ⟨_, (pss_cons (ps_set (i := 1) sc__law_classes.nd rfl (by first | exact Or.inl rfl | exact Or.inr rfl) (pe_lstG (pa_cons (pe_callB call_isD (by rfl) T.B.n_isinstance (by decide +kernel) (pa_cons (pv 0) (pa_cons (pe_glob (v := .ref (T.c 0)) (u := .ref (T.c 0)) rfl T.E_BadLevel.gC rfl) pa_nil))) (pa_cons (pe_callB call_isD (by rfl) T.B.n_isinstance (by decide +kernel) (pa_cons (pv 0) (pa_cons (pe_glob (v := .ref (T.c 1)) (u := .ref (T.c 1)) rfl T.E_BadName.gC rfl) pa_nil))) (pa_cons (pe_callB call_isD (by rfl) T.B.n_isinstance (by decide +kernel) (pa_cons (pv 0) (pa_cons (pe_glob (v := .ref (T.c 2)) (u := .ref (T.c 2)) rfl T.E_BadExtra.gC rfl) pa_nil))) (pa_cons (pe_callB call_isD (by rfl) T.B.n_isinstance (by decide +kernel) (pa_cons (pv 0) (pa_cons (pe_glob (v := .ref (T.c 3)) (u := .ref (T.c 3)) rfl T.E_BadMessage.gC rfl) pa_nil))) pa_nil))))))
  (pss_cons (ps_set (i := 1) sc__law_classes.nd rfl (by first | exact Or.inl rfl | exact Or.inr rfl) (pe_op op_catG (pv 1) (pe_lstG (pa_cons (pe_callB call_isD (by rfl) T.B.n_isinstance (by decide +kernel) (pa_cons (pv 0) (pa_cons (pe_glob (v := .ref (T.c 4)) (u := .ref (T.c 4)) rfl T.E_BadField.gC rfl) pa_nil))) (pa_cons (pe_callB call_isD (by rfl) T.B.n_isinstance (by decide +kernel) (pa_cons (pv 0) (pa_cons (pe_glob (v := .ref (T.c 5)) (u := .ref (T.c 5)) rfl T.E_BadFormat.gC rfl) pa_nil))) (pa_cons (pe_callB call_isD (by rfl) T.B.n_isinstance (by decide +kernel) (pa_cons (pv 0) (pa_cons (pe_glob (v := .ref (T.c 6)) (u := .ref (T.c 6)) rfl T.E_BadStyle.gC rfl) pa_nil))) (pa_cons (pe_callB call_isD (by rfl) T.B.n_isinstance (by decide +kernel) (pa_cons (pv 0) (pa_cons (pe_glob (v := .ref (T.c 7)) (u := .ref (T.c 7)) rfl T.E_BadMode.gC rfl) pa_nil))) pa_nil)))))))
  (pss_cons (ps_set (i := 1) sc__law_classes.nd rfl (by first | exact Or.inl rfl | exact Or.inr rfl) (pe_op op_catG (pv 1) (pe_lstG (pa_cons (pe_callB call_isD (by rfl) T.B.n_isinstance (by decide +kernel) (pa_cons (pv 0) (pa_cons (pe_glob (v := .ref (T.c 8)) (u := .ref (T.c 8)) rfl T.E_BadWhen.gC rfl) pa_nil))) (pa_cons (pe_callB call_isD (by rfl) T.B.n_isinstance (by decide +kernel) (pa_cons (pv 0) (pa_cons (pe_glob (v := .ref (T.c 9)) (u := .ref (T.c 9)) rfl T.E_BadSettings.gC rfl) pa_nil))) (pa_cons (pe_callB call_isD (by rfl) T.B.n_isinstance (by decide +kernel) (pa_cons (pv 0) (pa_cons (pe_glob (v := .ref (T.c 10)) (u := .ref (T.c 10)) rfl T.E_NotJudged.gC rfl) pa_nil))) pa_nil))))))
  (pss_one (ps_ret (pe_op op_catG (pv 1) (pe_lstG (pa_cons (pe_callB call_isD (by rfl) T.B.n_isinstance (by decide +kernel) (pa_cons (pv 0) (pa_cons (pe_glob (v := .ref (T.c 11)) (u := .ref (T.c 11)) rfl T.E_BadCuts.gC rfl) pa_nil))) (pa_cons (pe_callB call_isD (by rfl) T.B.n_isinstance (by decide +kernel) (pa_cons (pv 0) (pa_cons (pe_glob (v := .ref (T.c 12)) (u := .ref (T.c 12)) rfl T.E_BadDeed.gC rfl) pa_nil))) pa_nil))))))))), ?_⟩
    walk_at "st"
    refine ⟨e, T.c i, d, .ref (T.c 0), _, decide (0 = i), rfl, .own _, he1, fun dd z => (he2 dd z).elim fun fs h => ⟨fs, h⟩, T.xc i hi, T.kit i 0 hi (by decide), ?_⟩
    walk_at "st"
    refine ⟨e, T.c i, d, .ref (T.c 1), _, decide (1 = i), rfl, .own _, he1, fun dd z => (he2 dd z).elim fun fs h => ⟨fs, h⟩, T.xc i hi, T.kit i 1 hi (by decide), ?_⟩
    walk_at "st"
    refine ⟨e, T.c i, d, .ref (T.c 2), _, decide (2 = i), rfl, .own _, he1, fun dd z => (he2 dd z).elim fun fs h => ⟨fs, h⟩, T.xc i hi, T.kit i 2 hi (by decide), ?_⟩
    walk_at "st"
    refine ⟨e, T.c i, d, .ref (T.c 3), _, decide (3 = i), rfl, .own _, he1, fun dd z => (he2 dd z).elim fun fs h => ⟨fs, h⟩, T.xc i hi, T.kit i 3 hi (by decide), ?_⟩
    walk_at "st"
    intro p1 H1 n1 h1 s1
    walk_at "st"
    refine ⟨e, T.c i, d, .ref (T.c 4), _, decide (4 = i), rfl, .own _, (s1 _ _ he1), fun dd z => (he2 dd z).elim fun fs h => ⟨fs, (s1 _ _ h)⟩, T.xc i hi, T.kit i 4 hi (by decide), ?_⟩
    walk_at "st"
    refine ⟨e, T.c i, d, .ref (T.c 5), _, decide (5 = i), rfl, .own _, (s1 _ _ he1), fun dd z => (he2 dd z).elim fun fs h => ⟨fs, (s1 _ _ h)⟩, T.xc i hi, T.kit i 5 hi (by decide), ?_⟩
    walk_at "st"
    refine ⟨e, T.c i, d, .ref (T.c 6), _, decide (6 = i), rfl, .own _, (s1 _ _ he1), fun dd z => (he2 dd z).elim fun fs h => ⟨fs, (s1 _ _ h)⟩, T.xc i hi, T.kit i 6 hi (by decide), ?_⟩
    walk_at "st"
    refine ⟨e, T.c i, d, .ref (T.c 7), _, decide (7 = i), rfl, .own _, (s1 _ _ he1), fun dd z => (he2 dd z).elim fun fs h => ⟨fs, (s1 _ _ h)⟩, T.xc i hi, T.kit i 7 hi (by decide), ?_⟩
    walk_at "st"
    intro p2 H2 n2 h2 s2
    refine ⟨p1, p2, _, _, rfl, rfl, (s2 _ _ h1), h2, by dsimp only [List.length, List.append]; exact Nat.le_of_lt (small1000 (Nat.le_of_ble_eq_true rfl)), ?_⟩
    intro p3 H3 n3 h3 s3
    walk_at "st"
    refine ⟨e, T.c i, d, .ref (T.c 8), _, decide (8 = i), rfl, .own _, (s3 _ _ (s2 _ _ (s1 _ _ he1))), fun dd z => (he2 dd z).elim fun fs h => ⟨fs, (s3 _ _ (s2 _ _ (s1 _ _ h)))⟩, T.xc i hi, T.kit i 8 hi (by decide), ?_⟩
    walk_at "st"
    refine ⟨e, T.c i, d, .ref (T.c 9), _, decide (9 = i), rfl, .own _, (s3 _ _ (s2 _ _ (s1 _ _ he1))), fun dd z => (he2 dd z).elim fun fs h => ⟨fs, (s3 _ _ (s2 _ _ (s1 _ _ h)))⟩, T.xc i hi, T.kit i 9 hi (by decide), ?_⟩
    walk_at "st"
    refine ⟨e, T.c i, d, .ref (T.c 10), _, decide (10 = i), rfl, .own _, (s3 _ _ (s2 _ _ (s1 _ _ he1))), fun dd z => (he2 dd z).elim fun fs h => ⟨fs, (s3 _ _ (s2 _ _ (s1 _ _ h)))⟩, T.xc i hi, T.kit i 10 hi (by decide), ?_⟩
    walk_at "st"
    intro p4 H4 n4 h4 s4
    refine ⟨p3, p4, _, _, rfl, rfl, (s4 _ _ h3), h4, by dsimp only [List.length, List.append]; exact Nat.le_of_lt (small1000 (Nat.le_of_ble_eq_true rfl)), ?_⟩
    intro p5 H5 n5 h5 s5
    walk_at "st"
    refine ⟨e, T.c i, d, .ref (T.c 11), _, decide (11 = i), rfl, .own _, (s5 _ _ (s4 _ _ (s3 _ _ (s2 _ _ (s1 _ _ he1))))), fun dd z => (he2 dd z).elim fun fs h => ⟨fs, (s5 _ _ (s4 _ _ (s3 _ _ (s2 _ _ (s1 _ _ h)))))⟩, T.xc i hi, T.kit i 11 hi (by decide), ?_⟩
    walk_at "st"
    refine ⟨e, T.c i, d, .ref (T.c 12), _, decide (12 = i), rfl, .own _, (s5 _ _ (s4 _ _ (s3 _ _ (s2 _ _ (s1 _ _ he1))))), fun dd z => (he2 dd z).elim fun fs h => ⟨fs, (s5 _ _ (s4 _ _ (s3 _ _ (s2 _ _ (s1 _ _ h)))))⟩, T.xc i hi, T.kit i 12 hi (by decide), ?_⟩
    walk_at "st"
    intro p6 H6 n6 h6 s6
    refine ⟨p5, p6, _, _, rfl, rfl, (s6 _ _ h5), h6, by dsimp only [List.length, List.append]; exact Nat.le_of_lt (small1000 (Nat.le_of_ble_eq_true rfl)), ?_⟩
    intro p7 H7 n7 h7 s7
    exact k p7 H7 h7 (Same.trans (Same.trans (Same.trans (Same.trans (Same.trans (Same.trans s1 s2) s3) s4) s5) s6) s7)
theorem ok_classesZ (T : Txt K mg) {i : Nat} (hi : i < 13) (d : Option Addr) : FnZ P w K mg base 3 T.f__law_classes T.fd__law_classes ["_law_e"] (.ref (T.c i)) d (spClassesZ i d) := by
  refine Fun.okZ T.D__law_classes.F sc__law_classes (fun a vs H Q E h => ?_) (fun cdv A outer s H vs Q pp hz hf hr h => ?_)
  · obtain ⟨rfl, _⟩ := h.out
    rfl
  · obtain ⟨e, oe⟩ := pp
    obtain ⟨rfl, he2, k⟩ := h.out
    refine ⟨_, (pss_cons (ps_set (i := 1) sc__law_classes.nd rfl (by first | exact Or.inl rfl | exact Or.inr rfl) (pe_lstG (pa_cons (pe_callB (call_isP List.mem_cons_self hz hf) (by rfl) T.B.n_isinstance (by decide +kernel) (pa_cons (pv 0) (pa_cons (pe_glob (v := .ref (T.c 0)) (u := .ref (T.c 0)) rfl T.E_BadLevel.gC rfl) pa_nil))) (pa_cons (pe_callB (call_isP List.mem_cons_self hz hf) (by rfl) T.B.n_isinstance (by decide +kernel) (pa_cons (pv 0) (pa_cons (pe_glob (v := .ref (T.c 1)) (u := .ref (T.c 1)) rfl T.E_BadName.gC rfl) pa_nil))) (pa_cons (pe_callB (call_isP List.mem_cons_self hz hf) (by rfl) T.B.n_isinstance (by decide +kernel) (pa_cons (pv 0) (pa_cons (pe_glob (v := .ref (T.c 2)) (u := .ref (T.c 2)) rfl T.E_BadExtra.gC rfl) pa_nil))) (pa_cons (pe_callB (call_isP List.mem_cons_self hz hf) (by rfl) T.B.n_isinstance (by decide +kernel) (pa_cons (pv 0) (pa_cons (pe_glob (v := .ref (T.c 3)) (u := .ref (T.c 3)) rfl T.E_BadMessage.gC rfl) pa_nil))) pa_nil))))))
  (pss_cons (ps_set (i := 1) sc__law_classes.nd rfl (by first | exact Or.inl rfl | exact Or.inr rfl) (pe_op op_catG (pv 1) (pe_lstG (pa_cons (pe_callB (call_isP List.mem_cons_self hz hf) (by rfl) T.B.n_isinstance (by decide +kernel) (pa_cons (pv 0) (pa_cons (pe_glob (v := .ref (T.c 4)) (u := .ref (T.c 4)) rfl T.E_BadField.gC rfl) pa_nil))) (pa_cons (pe_callB (call_isP List.mem_cons_self hz hf) (by rfl) T.B.n_isinstance (by decide +kernel) (pa_cons (pv 0) (pa_cons (pe_glob (v := .ref (T.c 5)) (u := .ref (T.c 5)) rfl T.E_BadFormat.gC rfl) pa_nil))) (pa_cons (pe_callB (call_isP List.mem_cons_self hz hf) (by rfl) T.B.n_isinstance (by decide +kernel) (pa_cons (pv 0) (pa_cons (pe_glob (v := .ref (T.c 6)) (u := .ref (T.c 6)) rfl T.E_BadStyle.gC rfl) pa_nil))) (pa_cons (pe_callB (call_isP List.mem_cons_self hz hf) (by rfl) T.B.n_isinstance (by decide +kernel) (pa_cons (pv 0) (pa_cons (pe_glob (v := .ref (T.c 7)) (u := .ref (T.c 7)) rfl T.E_BadMode.gC rfl) pa_nil))) pa_nil)))))))
  (pss_cons (ps_set (i := 1) sc__law_classes.nd rfl (by first | exact Or.inl rfl | exact Or.inr rfl) (pe_op op_catG (pv 1) (pe_lstG (pa_cons (pe_callB (call_isP List.mem_cons_self hz hf) (by rfl) T.B.n_isinstance (by decide +kernel) (pa_cons (pv 0) (pa_cons (pe_glob (v := .ref (T.c 8)) (u := .ref (T.c 8)) rfl T.E_BadWhen.gC rfl) pa_nil))) (pa_cons (pe_callB (call_isP List.mem_cons_self hz hf) (by rfl) T.B.n_isinstance (by decide +kernel) (pa_cons (pv 0) (pa_cons (pe_glob (v := .ref (T.c 9)) (u := .ref (T.c 9)) rfl T.E_BadSettings.gC rfl) pa_nil))) (pa_cons (pe_callB (call_isP List.mem_cons_self hz hf) (by rfl) T.B.n_isinstance (by decide +kernel) (pa_cons (pv 0) (pa_cons (pe_glob (v := .ref (T.c 10)) (u := .ref (T.c 10)) rfl T.E_NotJudged.gC rfl) pa_nil))) pa_nil))))))
  (pss_one (ps_ret (pe_op op_catG (pv 1) (pe_lstG (pa_cons (pe_callB (call_isP List.mem_cons_self hz hf) (by rfl) T.B.n_isinstance (by decide +kernel) (pa_cons (pv 0) (pa_cons (pe_glob (v := .ref (T.c 11)) (u := .ref (T.c 11)) rfl T.E_BadCuts.gC rfl) pa_nil))) (pa_cons (pe_callB (call_isP List.mem_cons_self hz hf) (by rfl) T.B.n_isinstance (by decide +kernel) (pa_cons (pv 0) (pa_cons (pe_glob (v := .ref (T.c 12)) (u := .ref (T.c 12)) rfl T.E_BadDeed.gC rfl) pa_nil))) pa_nil))))))))), ?_⟩
    walk_at "st"
    refine ⟨.ref (T.c 0), _, decide (0 = i), rfl, .own _, fun dd z => (he2 dd z).elim fun fs h => ⟨fs, h⟩, T.xc i hi, T.kit i 0 hi (by decide), ?_⟩
    walk_at "st"
    refine ⟨.ref (T.c 1), _, decide (1 = i), rfl, .own _, fun dd z => (he2 dd z).elim fun fs h => ⟨fs, h⟩, T.xc i hi, T.kit i 1 hi (by decide), ?_⟩
    walk_at "st"
    refine ⟨.ref (T.c 2), _, decide (2 = i), rfl, .own _, fun dd z => (he2 dd z).elim fun fs h => ⟨fs, h⟩, T.xc i hi, T.kit i 2 hi (by decide), ?_⟩
    walk_at "st"
    refine ⟨.ref (T.c 3), _, decide (3 = i), rfl, .own _, fun dd z => (he2 dd z).elim fun fs h => ⟨fs, h⟩, T.xc i hi, T.kit i 3 hi (by decide), ?_⟩
    walk_at "st"
    intro p1 H1 n1 h1 s1
    walk_at "st"
    refine ⟨.ref (T.c 4), _, decide (4 = i), rfl, .own _, fun dd z => (he2 dd z).elim fun fs h => ⟨fs, (s1 _ _ h)⟩, T.xc i hi, T.kit i 4 hi (by decide), ?_⟩
    walk_at "st"
    refine ⟨.ref (T.c 5), _, decide (5 = i), rfl, .own _, fun dd z => (he2 dd z).elim fun fs h => ⟨fs, (s1 _ _ h)⟩, T.xc i hi, T.kit i 5 hi (by decide), ?_⟩
    walk_at "st"
    refine ⟨.ref (T.c 6), _, decide (6 = i), rfl, .own _, fun dd z => (he2 dd z).elim fun fs h => ⟨fs, (s1 _ _ h)⟩, T.xc i hi, T.kit i 6 hi (by decide), ?_⟩
    walk_at "st"
    refine ⟨.ref (T.c 7), _, decide (7 = i), rfl, .own _, fun dd z => (he2 dd z).elim fun fs h => ⟨fs, (s1 _ _ h)⟩, T.xc i hi, T.kit i 7 hi (by decide), ?_⟩
    walk_at "st"
    intro p2 H2 n2 h2 s2
    refine ⟨p1, p2, _, _, rfl, rfl, (s2 _ _ h1), h2, by dsimp only [List.length, List.append]; exact Nat.le_of_lt (small1000 (Nat.le_of_ble_eq_true rfl)), ?_⟩
    intro p3 H3 n3 h3 s3
    walk_at "st"
    refine ⟨.ref (T.c 8), _, decide (8 = i), rfl, .own _, fun dd z => (he2 dd z).elim fun fs h => ⟨fs, (s3 _ _ (s2 _ _ (s1 _ _ h)))⟩, T.xc i hi, T.kit i 8 hi (by decide), ?_⟩
    walk_at "st"
    refine ⟨.ref (T.c 9), _, decide (9 = i), rfl, .own _, fun dd z => (he2 dd z).elim fun fs h => ⟨fs, (s3 _ _ (s2 _ _ (s1 _ _ h)))⟩, T.xc i hi, T.kit i 9 hi (by decide), ?_⟩
    walk_at "st"
    refine ⟨.ref (T.c 10), _, decide (10 = i), rfl, .own _, fun dd z => (he2 dd z).elim fun fs h => ⟨fs, (s3 _ _ (s2 _ _ (s1 _ _ h)))⟩, T.xc i hi, T.kit i 10 hi (by decide), ?_⟩
    walk_at "st"
    intro p4 H4 n4 h4 s4
    refine ⟨p3, p4, _, _, rfl, rfl, (s4 _ _ h3), h4, by dsimp only [List.length, List.append]; exact Nat.le_of_lt (small1000 (Nat.le_of_ble_eq_true rfl)), ?_⟩
    intro p5 H5 n5 h5 s5
    walk_at "st"
    refine ⟨.ref (T.c 11), _, decide (11 = i), rfl, .own _, fun dd z => (he2 dd z).elim fun fs h => ⟨fs, (s5 _ _ (s4 _ _ (s3 _ _ (s2 _ _ (s1 _ _ h)))))⟩, T.xc i hi, T.kit i 11 hi (by decide), ?_⟩
    walk_at "st"
    refine ⟨.ref (T.c 12), _, decide (12 = i), rfl, .own _, fun dd z => (he2 dd z).elim fun fs h => ⟨fs, (s5 _ _ (s4 _ _ (s3 _ _ (s2 _ _ (s1 _ _ h)))))⟩, T.xc i hi, T.kit i 12 hi (by decide), ?_⟩
    walk_at "st"
    intro p6 H6 n6 h6 s6
    refine ⟨p5, p6, _, _, rfl, rfl, (s6 _ _ h5), h6, by dsimp only [List.length, List.append]; exact Nat.le_of_lt (small1000 (Nat.le_of_ble_eq_true rfl)), ?_⟩
    intro p7 H7 n7 h7 s7
    exact k p7 H7 h7 (Same.trans (Same.trans (Same.trans (Same.trans (Same.trans (Same.trans s1 s2) s3) s4) s5) s6) s7)
end
end My

namespace My
open PySem PySem.Spec PyProof.Rows L2
local macro_rules | `(tactic| walk_at "hp") => `(tactic| first | assumption | exact upd_same | (refine Eq.trans (upd_ne (by first | assumption | (apply Ne.symm; assumption))) ?_; walk_at "hp"))
local macro_rules | `(tactic| walk_at "ixl") => `(tactic| (refine' ⟨_, ?xs, _, ?vv, rfl, rfl, SqL.of ?hh, ?aa, ?qq⟩; (case hh => walk_at "hp"); (case aa => rfl)))
local macro_rules | `(tactic| walk_at "setl") => `(tactic| (refine' ⟨_, ?xs, _, ?jj, rfl, rfl, ?hh, ?aa, ?qq⟩; (case hh => walk_at "hp"); (case aa => rfl)))
local macro_rules | `(tactic| walk_at "cond") => `(tactic| first | exact Nat.le_of_lt (small1000 (Nat.le_of_ble_eq_true rfl)) | decide | omega | (dsimp only; omega) | exact ⟨by decide, by decide⟩ | exact Or.inr ⟨by decide, by decide⟩ | exact Or.inl ⟨by decide, by decide⟩ | exact ⟨by decide, by decide, by decide⟩ | exact ⟨by omega, by omega⟩ | exact ⟨by omega, by omega, by omega⟩)
local macro_rules | `(tactic| walk_at "st") => `(tactic| repeat (first | refine ⟨_, rfl, ?_⟩ | refine ⟨_, _, rfl, rfl, ?_⟩ | walk_at "ixl" | walk_at "setl" | refine ⟨rfl, ?_⟩ | refine Or.inl ⟨_, rfl, ?_⟩ | refine And.intro (by walk_at "cond") ?_))

/-- the error of the i-th class leaves -/
def spRaised (c : Nat → Addr) : Sp := fun vs H Q E => Hd (∃ (i : Nat) (v : V), vs = [.int (i : Int), v] ∧ i < 13 ∧
  ∀ (d : Option Addr) (H' : Hp), (∀ dd, d = some dd → ∃ fs, H' dd = some (.xd fs)) → Same H H' → E (.ref (c i)) d H')
def spCaught : Sp := fun vs H Q _ => Hd (∃ (i : Nat) (v : V), vs = [.int (i : Int), v] ∧ i < 13 ∧ ∀ (p : Addr) (H' : Hp), H' p = some (.lst ((tl i).map V.bl)) → Same H H' → Q (.ref p) H')
theorem pss_ex {X : Cx} {ι : Type} {P : ι → Prop} {st : List Stmt} {t : ι → TS} (h : ∀ i, P i → PSs X st (t i)) : PSs X st (fun D σ H => ∃ i, P i ∧ t i D σ H) :=
  ⟨fun pins s σ H D I hw => by
    obtain ⟨i, hi, hw⟩ := hw
    exact (h i hi).run pins s σ H D I hw⟩
section
variable {P : Program} {w : World} {K : PySem.W.Frag} {mg : Str → Option Value} {base : Heap}
theorem ok_raised (T : Txt K mg) : FnOk P w K mg base (L2.CX P w) 3 T.f__law_raised T.fd__law_raised ["_law_k", "_law_thing"] (spRaised T.c) := by
  refine T.D__law_raised.F.okX sc__law_raised (fun vs H Q E h => ?_) (fun cdv A outer s H vs Q E hr h => ?_)
  · obtain ⟨i, v, rfl, _⟩ := h.out
    rfl
  · obtain ⟨i, v, rfl, hi, k⟩ := h.out
    refine ⟨_, (pss_cons (ps_if (pt_cmpR op_eq (pv 0) pe_int (nomark _))
    (pss_one (ps_raise rfl (takes_of rfl rfl rfl rfl) (pmk_err T.E_BadLevel hr (pa_cons (pv 1) pa_nil) rfl)))
    pss_nil)
  (pss_cons (ps_if (pt_cmpR op_eq (pv 0) pe_int (nomark _))
    (pss_one (ps_raise rfl (takes_of rfl rfl rfl rfl) (pmk_err T.E_BadName hr (pa_cons (pv 1) pa_nil) rfl)))
    pss_nil)
  (pss_cons (ps_if (pt_cmpR op_eq (pv 0) pe_int (nomark _))
    (pss_one (ps_raise rfl (takes_of rfl rfl rfl rfl) (pmk_err T.E_BadExtra hr (pa_cons (pv 1) pa_nil) rfl)))
    pss_nil)
  (pss_cons (ps_if (pt_cmpR op_eq (pv 0) pe_int (nomark _))
    (pss_one (ps_raise rfl (takes_of rfl rfl rfl rfl) (pmk_err T.E_BadMessage hr (pa_cons (pv 1) pa_nil) rfl)))
    pss_nil)
  (pss_cons (ps_if (pt_cmpR op_eq (pv 0) pe_int (nomark _))
    (pss_one (ps_raise rfl (takes_of rfl rfl rfl rfl) (pmk_err T.E_BadField hr (pa_cons (pv 1) pa_nil) rfl)))
    pss_nil)
  (pss_cons (ps_if (pt_cmpR op_eq (pv 0) pe_int (nomark _))
    (pss_one (ps_raise rfl (takes_of rfl rfl rfl rfl) (pmk_err T.E_BadFormat hr (pa_cons (pv 1) pa_nil) rfl)))
    pss_nil)
  (pss_cons (ps_if (pt_cmpR op_eq (pv 0) pe_int (nomark _))
    (pss_one (ps_raise rfl (takes_of rfl rfl rfl rfl) (pmk_err T.E_BadStyle hr (pa_cons (pv 1) pa_nil) rfl)))
    pss_nil)
  (pss_cons (ps_if (pt_cmpR op_eq (pv 0) pe_int (nomark _))
    (pss_one (ps_raise rfl (takes_of rfl rfl rfl rfl) (pmk_err T.E_BadMode hr (pa_cons (pv 1) pa_nil) rfl)))
    pss_nil)
  (pss_cons (ps_if (pt_cmpR op_eq (pv 0) pe_int (nomark _))
    (pss_one (ps_raise rfl (takes_of rfl rfl rfl rfl) (pmk_err T.E_BadWhen hr (pa_cons (pv 1) pa_nil) rfl)))
    pss_nil)
  (pss_cons (ps_if (pt_cmpR op_eq (pv 0) pe_int (nomark _))
    (pss_one (ps_raise rfl (takes_of rfl rfl rfl rfl) (pmk_err T.E_BadSettings hr (pa_cons (pv 1) pa_nil) rfl)))
    pss_nil)
  (pss_cons (ps_if (pt_cmpR op_eq (pv 0) pe_int (nomark _))
    (pss_one (ps_raise rfl (takes_of rfl rfl rfl rfl) (pmk_err T.E_NotJudged hr (pa_cons (pv 1) pa_nil) rfl)))
    pss_nil)
  (pss_cons (ps_if (pt_cmpR op_eq (pv 0) pe_int (nomark _))
    (pss_one (ps_raise rfl (takes_of rfl rfl rfl rfl) (pmk_nil T.E_BadCuts hr rfl)))
    pss_nil)
  (pss_one (ps_raise rfl (takes_of rfl rfl rfl rfl) (pmk_err T.E_BadDeed hr (pa_cons (pv 1) pa_nil) rfl))))))))))))))), ?_⟩
    match i, hi with
    | 0, _ =>
      walk_at "st"
      exact fun d hd => k (some d) _ (fun dd z => by cases z; exact ⟨_, upd_same⟩) (sameNew hd)
    | 1, _ =>
      walk_at "st"
      exact fun d hd => k (some d) _ (fun dd z => by cases z; exact ⟨_, upd_same⟩) (sameNew hd)
    | 2, _ =>
      walk_at "st"
      exact fun d hd => k (some d) _ (fun dd z => by cases z; exact ⟨_, upd_same⟩) (sameNew hd)
    | 3, _ =>
      walk_at "st"
      exact fun d hd => k (some d) _ (fun dd z => by cases z; exact ⟨_, upd_same⟩) (sameNew hd)
    | 4, _ =>
      walk_at "st"
      exact fun d hd => k (some d) _ (fun dd z => by cases z; exact ⟨_, upd_same⟩) (sameNew hd)
    | 5, _ =>
      walk_at "st"
      exact fun d hd => k (some d) _ (fun dd z => by cases z; exact ⟨_, upd_same⟩) (sameNew hd)
    | 6, _ =>
      walk_at "st"
      exact fun d hd => k (some d) _ (fun dd z => by cases z; exact ⟨_, upd_same⟩) (sameNew hd)
    | 7, _ =>
      walk_at "st"
      exact fun d hd => k (some d) _ (fun dd z => by cases z; exact ⟨_, upd_same⟩) (sameNew hd)
    | 8, _ =>
      walk_at "st"
      exact fun d hd => k (some d) _ (fun dd z => by cases z; exact ⟨_, upd_same⟩) (sameNew hd)
    | 9, _ =>
      walk_at "st"
      exact fun d hd => k (some d) _ (fun dd z => by cases z; exact ⟨_, upd_same⟩) (sameNew hd)
    | 10, _ =>
      walk_at "st"
      exact fun d hd => k (some d) _ (fun dd z => by cases z; exact ⟨_, upd_same⟩) (sameNew hd)
    | 11, _ =>
      walk_at "st"
      exact k none _ (fun dd z => nomatch z) (Same.refl _)
    | 12, _ =>
      walk_at "st"
      exact fun d hd => k (some d) _ (fun dd z => by cases z; exact ⟨_, upd_same⟩) (sameNew hd)
theorem ok_caught (T : Txt K mg) : FnOk P w K mg base CX0 4 T.f__law_caught T.fd__law_caught ["_law_k", "_law_thing"] spCaught := by
  have G : FnOk P w K mg base (L2.CX P w) 3 T.f__law_raised T.fd__law_raised _ (spRaised T.c) := ok_raised T
  refine T.D__law_caught.F.ok sc__law_caught (fun vs H Q E h => ?_) (fun cdv A outer s H vs Q E hr h => ?_)
  · obtain ⟨i, v, rfl, _⟩ := h.out
    rfl
  · obtain ⟨i, v, rfl, hi, k⟩ := h.out
    refine ⟨_, pss_cons (ps_set (i := 2) sc__law_caught.nd rfl (Or.inl rfl) pe_non) (pss_cons
      (ps_try_as (i := 3) (tb := fun W => tDrop (tCallS (spRaised T.c) (WE W) (tCons (tVar 0) (tCons (tVar 1) tNil))))
        (ts := fun a cls d => fun D σ H => ∃ i, (i < 13 ∧ cls = .ref (T.c i)) ∧ tAsg (tCallZ (spClassesZ i d a) (tCons (tVar 3) tNil)) (gName 2) D σ H)
        (Wout := fun _ _ _ _ => False) rfl rfl sc__law_caught.nd rfl rfl ⟨rfl, by decide, Or.inl T.gY⟩ takes0
        (fun W pn xe tk _ => pss_one (ps_expr (by exact (pe_callS G hr rfl T.D__law_raised.g T.D__law_raised.F.kp T.D__law_raised.b (fun σ => passAt tk σ) (by exact (pa_cons (pv 0) (pa_cons (pv 1) pa_nil)))))))
        (fun a oe cls d pn hz hf => pss_ex fun i hi => by
          obtain ⟨hi, rfl⟩ := hi
          exact pss_one (ps_set (i := 2) sc__law_caught.nd rfl (Or.inl rfl) (pe_callZ (ok_classesZ T hi d) hz hf ⟨hr.dp, hr.un⟩ rfl T.D__law_classes.g T.D__law_classes.F.kp T.D__law_classes.b (pa_cons (pv 3) pa_nil)))))
      (pss_one (ps_ret (pv 2)))), ?_⟩
    walk_at "st"
    refine .a ⟨i, v, rfl, hi, fun d H1 hd s1 => ?_⟩
    refine ⟨true, T.exm i hi, fun _ a ha => ?_, fun q => Bool.noConfusion q⟩
    refine ⟨i, ⟨hi, rfl⟩, ?_⟩
    walk_at "st"
    refine .a ⟨rfl, hd, fun p H2 h2 s2 => ?_⟩
    walk_at "st"
    exact k p H2 h2 (s1.trans s2)
end
end My

namespace My
open PySem PySem.Spec PyProof.Rows L2
local macro_rules | `(tactic| walk_at "hp") => `(tactic| first | assumption | exact upd_same | (refine Eq.trans (upd_ne (by first | assumption | (apply Ne.symm; assumption))) ?_; walk_at "hp"))
local macro_rules | `(tactic| walk_at "ixl") => `(tactic| (refine' ⟨_, ?xs, _, ?vv, rfl, rfl, SqL.of ?hh, ?aa, ?qq⟩; (case hh => walk_at "hp"); (case aa => rfl)))
local macro_rules | `(tactic| walk_at "setl") => `(tactic| (refine' ⟨_, ?xs, _, ?jj, rfl, rfl, ?hh, ?aa, ?qq⟩; (case hh => walk_at "hp"); (case aa => rfl)))
local macro_rules | `(tactic| walk_at "cond") => `(tactic| first | exact Nat.le_of_lt (small1000 (Nat.le_of_ble_eq_true rfl)) | decide | omega | (dsimp only; omega) | exact ⟨by decide, by decide⟩ | exact Or.inr ⟨by decide, by decide⟩ | exact Or.inl ⟨by decide, by decide⟩ | exact ⟨by decide, by decide, by decide⟩ | exact ⟨by omega, by omega⟩ | exact ⟨by omega, by omega, by omega⟩)
local macro_rules | `(tactic| walk_at "st") => `(tactic| repeat (first | refine ⟨_, rfl, ?_⟩ | refine ⟨_, _, rfl, rfl, ?_⟩ | walk_at "ixl" | walk_at "setl" | refine ⟨rfl, ?_⟩ | refine Or.inl ⟨_, rfl, ?_⟩ | refine And.intro (by walk_at "cond") ?_))

def spLaw (K : PySem.W.Frag) : Sp := fun vs H Q _ => Hd (∃ (a : Addr) (ns : List Int), vs = [.ref a] ∧ SqL K H a (ns.map V.int) ∧ ns.length ≤ 63 ∧ ∀ H', Q (.bl true) H')
theorem eqv_bools : ∀ (bs : List Bool), PyData.eqv (.list (bs.map PyData.bool)) (.list (bs.map PyData.bool)) = true
  | [] => rfl
  | b :: r => by
    show (PyData.eqv (.bool b) (.bool b) && PyData.eqvAll (r.map PyData.bool) (r.map PyData.bool)) = true
    have h : PyData.eqvAll (r.map PyData.bool) (r.map PyData.bool) = true := eqv_bools r
    rw [h]
    cases b <;> rfl
theorem shaped_bools (bs : List Bool) : SeqAt.shaped (.list (bs.map PyData.bool)) = true := by
  have h1 : ∀ bs : List Bool, PyData.canLayAll0 (bs.map PyData.bool) = true := by
    intro bs
    induction bs with
    | nil => rfl
    | cons b r ih =>
      show (PyData.canLay0 (.bool b) && PyData.canLayAll0 (r.map PyData.bool)) = true
      rw [ih]; rfl
  have h2 : ∀ bs : List Bool, PyData.depthAll (bs.map PyData.bool) = 0 := by
    intro bs
    induction bs with
    | nil => rfl
    | cons b r ih =>
      show max (PyData.depth (.bool b)) (PyData.depthAll (r.map PyData.bool)) = 0
      rw [ih]; rfl
  show (PyData.canLayAll0 (bs.map PyData.bool) && decide (PyData.depthAll (bs.map PyData.bool) + 1 ≤ 64)) = true
  rw [h1, h2]
  rfl
theorem dpAll_bools {K : PySem.W.Frag} {H : Hp} : ∀ (cs : List Bool), DpAll K H (cs.map V.bl) (cs.map PyData.bool)
  | [] => .nil
  | x :: r => .cons (.bl x) (dpAll_bools r)
theorem dec_eq (m j : Nat) : decide (V.int (0 + (m : Int)) = V.int (j : Int)) = decide (m = j) := by
  by_cases h : m = j
  · rw [decide_eq_true h, decide_eq_true (by rw [h]; congr 1; omega)]
  · rw [decide_eq_false h, decide_eq_false (fun e => h (by have := V.int.inj e; omega))]
theorem cost3 : cost 3 = 53 := by decide
section
variable {P : Program} {w : World} {K : PySem.W.Frag} {mg : Str → Option Value} {base : Heap}
theorem ok_law (T : Txt K mg) : FnOk P w K mg base CX0 7 T.f_law T.fd_law ["_law_script"] (spLaw K) := by
  have G__law_object : FnOk P w K mg base CX0 6 T.f__law_object T.fd__law_object _ (spObj 3) := ok_obj T 3
  have G__law_copied : FnOk P w K mg base CX0 5 T.f__law_copied T.fd__law_copied _ (spCop 4) := ok_cop T 4
  have G__law_fields : FnOk P w K mg base CX0 3 T.f__law_fields T.fd__law_fields _ spFields := ok_fields T
  have G__law_same : FnOk P w K mg base CX0 5 T.f__law_same T.fd__law_same _ (spSame 4) := ok_same T 4
  have G__law_errors : FnOk P w K mg base CX0 3 T.f__law_errors T.fd__law_errors _ (spErrors T.c) := ok_errors T
  have G__law_classes : FnOk P w K mg base CX0 3 T.f__law_classes T.fd__law_classes _ (spClasses T.c) := ok_classes T
  have G__law_caught : FnOk P w K mg base CX0 4 T.f__law_caught T.fd__law_caught _ spCaught := ok_caught T
  refine T.D_law.F.ok sc_law (fun vs H Q E h => ?_) (fun cdv A outer s H vs Q E hr h => ?_)
  · obtain ⟨a, ns, rfl, _⟩ := h.out
    rfl
  · obtain ⟨a, ns, rfl, hS, hl, k⟩ := h.out
    have hu64 := hr.units
    refine ⟨_, (pss_cons (ps_set (i := 1) sc_law.nd rfl (by first | exact Or.inl rfl | exact Or.inr rfl) (pe_lst (pa_cons (pe_callTy call_list_of (by rfl) T.B.n_list (by decide +kernel) (pa_cons (pv 0) pa_nil)) (pa_cons pe_int (pa_cons pe_int (pa_cons pe_int pa_nil))))))
  (pss_cons (ps_for PassesOwn.never rfl (pi_range1 rfl T.B.n_range (pa_cons pe_int pa_nil)) (pg_name (i := 2) sc_law.nd rfl (by first | exact Or.inl rfl | exact Or.inr rfl))
    (pss_cons (ps_set (i := 3) sc_law.nd rfl (by first | exact Or.inl rfl | exact Or.inr rfl) (pe_call G__law_object (hr.mono (by first | decide | omega)) rfl T.D__law_object.g T.D__law_object.F.kp T.D__law_object.b .nil pass0 (pa_cons (pv 1) (pa_cons pe_int pa_nil))))
  (pss_cons (ps_asg (pe_tup (pa_cons (pe_call G__law_copied (hr.mono (by first | decide | omega)) rfl T.D__law_copied.g T.D__law_copied.F.kp T.D__law_copied.b .nil pass0 (pa_cons (pv 3) pa_nil)) (pa_cons (pe_call G__law_fields (hr.mono (by first | decide | omega)) rfl T.D__law_fields.g T.D__law_fields.F.kp T.D__law_fields.b .nil pass0 (pa_cons (pv 3) pa_nil)) pa_nil))) (pg_tup rfl (pgs_cons (pg_name (i := 4) sc_law.nd rfl (by first | exact Or.inl rfl | exact Or.inr rfl)) (pgs_cons (pg_name (i := 5) sc_law.nd rfl (by first | exact Or.inl rfl | exact Or.inr rfl)) pgs_nil))))
  (pss_cons (ps_if (PW.pt (pw_or (pt_not (pt_val (pe_callB (cr_all rfl) (by rfl) T.B.n_all (by decide +kernel) (pa_cons (pe_lc (own := [("_law_one", 9)]) (g := gName 9) rfl sc_law.nd (pi_list (pv 5)) (blkOk_by (N := ["_law_script", "_law_stream", "_law_turn", "_law_thing", "_law_kept", "_law_found", "_law_k", "_law_e", "_law_due", "_law_one", "_law_other"]) (sc := defScope s_law) (by decide +kernel)) (fun _ _ _ _ _ => (pg_name (i := 9) sc_law.nd rfl (by first | exact Or.inl rfl | exact Or.inr rfl))) (fun _ _ _ _ _ => pts_nil) (fun _ _ _ _ _ => (pe_call G__law_same (hr.mono (by first | decide | omega)) rfl T.D__law_same.g T.D__law_same.F.kp T.D__law_same.b .nil pass0 (pa_cons (pv 9) (pa_cons (pv 4) pa_nil))))) pa_nil)))) (pw_or1 (pt_cmpR op_ne (pe_callB call_len_seq (by rfl) T.B.n_len (by decide +kernel) (pa_cons (pv 5) pa_nil)) pe_int (nomark _)))))
    (pss_one (ps_ret pe_bl))
    pss_nil)
  (pss_cons (ps_for PassesOwn.never rfl (pi_enum (by rfl) T.B.n_enumerate (pa_cons (pe_call G__law_errors (hr.mono (by first | decide | omega)) rfl T.D__law_errors.g T.D__law_errors.F.kp T.D__law_errors.b .nil pass0 (pa_cons (pv 3) pa_nil)) pa_nil)) (pg_tup rfl (pgs_cons (pg_name (i := 6) sc_law.nd rfl (by first | exact Or.inl rfl | exact Or.inr rfl)) (pgs_cons (pg_name (i := 7) sc_law.nd rfl (by first | exact Or.inl rfl | exact Or.inr rfl)) pgs_nil)))
    (pss_cons (ps_setLc (i := 8) (own := [("_law_other", 10)]) (g := gName 10) rfl sc_law.nd rfl rfl (sw_true rfl rfl rfl (by decide +kernel)) (pi_range1 rfl T.B.n_range (pa_cons pe_int pa_nil)) (blkOk_by (N := ["_law_script", "_law_stream", "_law_turn", "_law_thing", "_law_kept", "_law_found", "_law_k", "_law_e", "_law_due", "_law_one", "_law_other"]) (sc := defScope s_law) (by decide +kernel)) (fun _ _ _ _ _ => (pg_name (i := 10) sc_law.nd rfl (by first | exact Or.inl rfl | exact Or.inr rfl))) (fun _ _ _ _ _ => pts_nil) (fun _ _ _ _ _ => (pe_cmpR op_eq (pv 10) (pv 6) (nomark _))))
  (pss_cons (ps_if (PW.pt (pw_or (pt_cmpR (op_neD hu64) (pe_call G__law_classes (hr.mono (by first | decide | omega)) rfl T.D__law_classes.g T.D__law_classes.F.kp T.D__law_classes.b .nil pass0 (pa_cons (pv 7) pa_nil)) (pv 8) (nomark _)) (pw_or1 (pt_cmpR (op_neD hu64) (pe_call G__law_caught (hr.mono (by first | decide | omega)) rfl T.D__law_caught.g T.D__law_caught.F.kp T.D__law_caught.b .nil pass0 (pa_cons (pv 6) (pa_cons (pv 3) pa_nil))) (pv 8) (nomark _)))))
    (pss_one (ps_ret pe_bl))
    pss_nil)
  (pss_one (ps_if (PW.pt (pw_or (pt_not (pt_val (pe_callB call_isD (by rfl) T.B.n_isinstance (by decide +kernel) (pa_cons (pv 7) (pa_cons (pe_glob (v := .ref (T.cY)) (u := .ref (T.cY)) rfl T.gY rfl) pa_nil))))) (pw_or1 (pt_not (pt_val (pe_callB call_isD (by rfl) T.B.n_isinstance (by decide +kernel) (pa_cons (pv 7) (pa_cons (pe_bltn (v := .ty "ValueError") (u := .type "ValueError") (by rfl) T.B.n_ValueError (by decide +kernel) rfl) pa_nil))))))))
    (pss_one (ps_ret pe_bl))
    pss_nil)))))
  (pss_one (ps_if (pt_not (pt_val (pe_call G__law_same (hr.mono (by first | decide | omega)) rfl T.D__law_same.g T.D__law_same.F.kp T.D__law_same.b .nil pass0 (pa_cons (pv 3) (pa_cons (pv 4) pa_nil)))))
    (pss_one (ps_ret pe_bl))
    pss_nil)))))))
  (pss_one (ps_ret pe_bl)))), ?_⟩
    walk_at "st"
    refine ⟨a, ns.map V.int, rfl, .inl hS, fun q hq => ?_⟩
    walk_at "st"
    intro p hp
    have qp : q ≠ p := fun e => by rw [← e, upd_same] at hp; cases hp
    have S0 : Stm (upd (upd H q (.lst (ns.map V.int))) p (.lst [.ref q, .int 0, .int 0, .int 0])) p q 0 :=
      ⟨⟨ns, 0, 0, ⟨upd_same, by rw [upd_ne qp]; exact upd_same, by decide, by decide, by decide⟩⟩, by decide, by decide⟩
    generalize upd (upd H q (.lst (ns.map V.int))) p (.lst [.ref q, .int 0, .int 0, .int 0]) = H0 at S0 ⊢
    walk_at "st"
    refine for_range (lo := 0) (n := 3) (fun i σ H1 => Hd (∃ t th ke fo kk e du n, σ = [some (.ref a), some (.ref p), t, th, ke, fo, kk, e, du, none, none] ∧ Stm H1 p q n ∧ n ≤ 53 * (i : Int)))
      (.a ⟨none, none, none, none, none, none, none, 0, rfl, S0, by decide⟩) ?_ ?_
    · rintro i σ H1 hi hP
      obtain ⟨t, th, ke, fo, kk, e, du, n, rfl, S, hn⟩ := hP.out
      walk_at "st"
      refine .a ⟨p, q, n, rfl, S, by simp only [cost]; omega, fun v d n2 H2 r hd hn2 S2 x2 => ?_⟩
      have r2 : Rep H2 v d := r.mono (same_rd nw_same)
      walk_at "st"
      refine .a ⟨v, d, rfl, r2, by omega, fun v' H3 r3' s3 => ?_⟩
      have r3 : Rep H3 v' d := r3'.mono (same_rd nw_same)
      walk_at "st"
      refine .a ⟨v, rfl, fun f H4 hf s4 => ?_⟩
      walk_at "st"
      intro tp htp
      have s5 := sameNew (o := .tup [v', .ref f]) htp
      refine ⟨tp, [v', .ref f], rfl, SqT.of upd_same, rfl, _, _, rfl, _, _, rfl, rfl, ?_⟩
      have hf5 := s5 _ _ hf
      have s35 := s4.trans s5
      generalize upd H4 tp (.tup [v', .ref f]) = H5 at s5 hf5 s35 ⊢
      have r25 := r2.mono (same_rd (s3.trans s35))
      have r35 := r3.mono (same_rd s35)
      walk_at "st"
      refine ⟨⟨_, SqL.of hf5⟩, fun D0 hD => ?_⟩
      refine lc_list (K := K) (a := f) (xs := List.replicate 24 v) (TruP H5 D0) (.zero hD) (fun i H _ c => SqL.of (c.sm _ _ hf5)) ?_ ?_
      · intro m x H6 hx c
        obtain rfl : v = x := by
          rw [List.getElem?_replicate] at hx
          split at hx
          · exact Option.some.inj hx
          · cases hx
        have hm := (List.getElem?_eq_some_iff.mp hx).1
        rw [List.length_replicate] at hm
        refine ⟨rfl, ?_⟩
        walk_at "st"
        exact .a ⟨_, _, d, rfl, r25.mono (same_rd c.sm), r35.mono (same_rd c.sm), by omega, fun H7 s7 => c.next hD (by omega) s7⟩
      · intro H6 c
        rw [List.length_replicate] at c
        walk_at "st"
        refine ⟨D0, _, rfl, SqL.of c.at_, ?_⟩
        rw [all_true]
        walk_at "st"
        refine ⟨f, _, rfl, .inl (SqL.of (c.sm _ _ hf5)), ?_⟩
        walk_at "st"
        have s26 := s3.trans (s35.trans c.sm)
        have r26 := r2.mono (same_rd s26)
        have r36 := r35.mono (same_rd c.sm)
        refine .a ⟨v, rfl, fun ep es H8 h8 hl8 he8 s8 => ?_⟩
        walk_at "st"
        refine ⟨ep, es.map V.ref, rfl, SqL.of h8, for_it (n := (es.map V.ref).length) walk_enum
          (fun j σ H9 => Hd (∃ kk e du, σ = [some (.ref a), some (.ref p), some (.int (0 + (i : Int))), some v, some v', some (.ref f), kk, e, du, none, none] ∧ Same H8 H9))
          (.a ⟨_, _, _, rfl, Same.refl _⟩) (fun j σ H9 _ hP => by obtain ⟨_, _, _, _, s9⟩ := hP.out; exact SqL.of (s9 _ _ h8)) ?_ ?_⟩
        · rintro j x σ H9 H10 hj hP ⟨T0, x1, y1, rfl, hT, rfl, e1, e2⟩
          obtain ⟨kk, e, du, rfl, s9⟩ := hP.out
          rw [List.length_map, hl8] at hj
          obtain rfl : V.int (j : Nat) = x1 := Option.some.inj e1
          obtain ⟨e0, e3, rfl⟩ : ∃ e0, es[j]? = some e0 ∧ V.ref e0 = y1 := by
            have e2 : (es.map V.ref)[j]? = some y1 := e2
            rw [List.getElem?_map] at e2
            cases q : es[j]? with
            | none => rw [q] at e2; cases e2
            | some e0 => rw [q] at e2; exact ⟨e0, rfl, Option.some.inj e2⟩
          have sT := sameNew (o := .tup [.int (j : Nat), .ref e0]) hT
          refine ⟨T0, [.int (j : Nat), .ref e0], rfl, SqT.of upd_same, rfl, _, _, rfl, _, _, rfl, rfl, ?_⟩
          have s10 := s9.trans sT
          generalize upd H9 T0 (.tup [.int (j : Nat), .ref e0]) = H10 at sT s10 ⊢
          have ie := (he8 j e0 e3).same s10
          walk_at "st"
          intro D1 hD1
          refine lc_range (lo := 0) (n := 13) (fun m H => H D1 = some (.lst (((List.range m).map fun o => decide (o = j)).map V.bl)) ∧ Same H10 H) ⟨upd_same, sameNew hD1⟩ ?_ ?_
          · rintro m H11 hm ⟨c1, c2⟩
            refine ⟨rfl, ?_⟩
            walk_at "st"
            refine ⟨_, c1, by rw [List.length_map, List.length_map, List.length_range]; exact small1000 (by omega), ?_, same_put c2 hD1⟩
            rw [upd_same, List.range_succ, List.map_append, List.map_append]
            show some (HO.lst (_ ++ [V.bl (decide (V.int (0 + (m : Int)) = V.int (j : Int)))])) = _
            rw [dec_eq]
            rfl
          · rintro H11 ⟨c1, c2⟩
            have c1 : H11 D1 = some (.lst ((tl j).map V.bl)) := c1
            have ie11 := ie.same c2
            walk_at "st"
            refine .a ⟨e0, j, rfl, hj, ie11, fun p2 H12 h12 s12 => ?_⟩
            walk_at "st"
            refine ⟨.list ((tl j).map PyData.bool), .list ((tl j).map PyData.bool), .lst (SqL.of h12) (dpAll_bools _), .lst (SqL.of (s12 _ _ c1)) (dpAll_bools _), shaped_bools _, shaped_bools _, ?_⟩
            rw [eqv_bools]
            walk_at "st"
            refine .a ⟨j, v, rfl, hj, fun p3 H13 h13 s13 => ?_⟩
            walk_at "st"
            refine ⟨.list ((tl j).map PyData.bool), .list ((tl j).map PyData.bool), .lst (SqL.of h13) (dpAll_bools _), .lst (SqL.of (s13 _ _ (s12 _ _ c1))) (dpAll_bools _), shaped_bools _, shaped_bools _, ?_⟩
            rw [eqv_bools]
            walk_at "st"
            obtain ⟨dd, i1, i2⟩ := ie11.same (s12.trans s13)
            refine ⟨e0, T.c j, dd, .ref T.cY, _, true, rfl, .own _, i1, i2, T.xc j hj, T.kitY j hj, ?_⟩
            walk_at "st"
            refine ⟨e0, T.c j, dd, .ty "ValueError", _, true, rfl, .ty _, i1, i2, T.xc j hj, T.kitV j hj, ?_⟩
            walk_at "st"
            exact .a ⟨_, _, _, rfl, s10.trans (c2.trans (s12.trans s13))⟩
        · intro σ H9 hP
          obtain ⟨kk, e, du, rfl, s9⟩ := hP.out
          have s29 := s8.trans s9
          walk_at "st"
          refine .a ⟨v, v', d, rfl, r26.mono (same_rd s29), r36.mono (same_rd s29), by omega, fun H10 s10 => ?_⟩
          walk_at "st"
          exact .a ⟨_, _, _, _, _, _, _, n2, rfl, S2.same (s26.trans (s29.trans s10)), by rw [cost3] at hn2; omega⟩
    · rintro σ H1 hP
      obtain ⟨t, th, ke, fo, kk, e, du, n, rfl, S, hn⟩ := hP.out
      walk_at "st"
      exact k H1
end
end My

namespace My
open PySem PySem.Spec PyProof.Rows L2

theorem oneF_deed : OneF "deed" := ⟨by intros; rfl, by intros; rfl, by decide +kernel, by decide +kernel, by intros; rfl, by intros; rfl, by intros; rfl, by intros; rfl⟩
theorem oneF_fmt : OneF "fmt" := ⟨by intros; rfl, by intros; rfl, by decide +kernel, by decide +kernel, by intros; rfl, by intros; rfl, by intros; rfl, by intros; rfl⟩
theorem oneF_mode : OneF "mode" := ⟨by intros; rfl, by intros; rfl, by decide +kernel, by decide +kernel, by intros; rfl, by intros; rfl, by intros; rfl, by intros; rfl⟩
theorem oneF_msg : OneF "msg" := ⟨by intros; rfl, by intros; rfl, by decide +kernel, by decide +kernel, by intros; rfl, by intros; rfl, by intros; rfl, by intros; rfl⟩
theorem oneF_name : OneF "name" := ⟨by intros; rfl, by intros; rfl, by decide +kernel, by decide +kernel, by intros; rfl, by intros; rfl, by intros; rfl, by intros; rfl⟩
theorem oneF_path : OneF "path" := ⟨by intros; rfl, by intros; rfl, by decide +kernel, by decide +kernel, by intros; rfl, by intros; rfl, by intros; rfl, by intros; rfl⟩
theorem oneF_style : OneF "style" := ⟨by intros; rfl, by intros; rfl, by decide +kernel, by decide +kernel, by intros; rfl, by intros; rfl, by intros; rfl, by intros; rfl⟩
theorem oneF_when : OneF "when" := ⟨by intros; rfl, by intros; rfl, by decide +kernel, by decide +kernel, by intros; rfl, by intros; rfl, by intros; rfl, by intros; rfl⟩
theorem kit_sub {K : PySem.W.Frag} {a c : Addr} {b : Bool} (h1 : PySem.W.subIn K (.ref a) (.ref c) = some b) (h2 : PySem.W.subIn K (.ref c) (.ref c) = some true) (h3 : PySem.W.isClsIn K c = true) (h4 : PySem.W.typeIn K (.ref c) = some (.type "type")) :
    PySem.W.kitOne K (.ref a) (.ref c) = some b := by
  unfold PySem.W.kitOne
  by_cases q : (Value.ref a == Value.ref c) = true
  · rw [if_pos q]
    have e : a = c := Value.ref.inj (beq_iff_eq.mp q)
    rw [e] at h1
    exact h2.symm.trans h1
  · rw [if_neg q]
    have e2 : ((PySem.W.clsIn K c).isSome && PySem.W.typeIn K (.ref c) == some (.type "type")) = true := by
      have h3' : (PySem.W.clsIn K c).isSome = true := h3
      rw [h3', h4] <;> rfl
    show (if _ then _ else _) = _
    rw [if_pos e2]
    exact h1
theorem kit_typ {K : PySem.W.Frag} {a : Addr} {T : String} {b : Bool} (h1 : PySem.W.subIn K (.ref a) (.type T) = some b) (h2 : PySem.W.kitMeta T = true) : PySem.W.kitOne K (.ref a) (.type T) = some b := by
  unfold PySem.W.kitOne
  have nq : ¬ ((Value.ref a == Value.type T) = true) := fun q => by
    have z := beq_iff_eq.mp q
    cases z
  rw [if_neg nq]
  show (if _ then _ else _) = _
  rw [if_pos h2]
  exact h1
set_option maxRecDepth 100000 in
theorem all_mk {P : Program} {w : World} {K : PySem.W.Frag} {h : Heap} {mg : Str → Option Value} {fa : Addr} (X : K.In h) (G : h.Ns mainGlobals mg) (hfa : mg "law" = some (.ref fa))
    {f0 : Addr} {oc0 kV0 dc0 pm0 cd0 ct0 : Value} {od0 an0 : Option Addr} {sl0 : Array (Option Value)}
    {f1 : Addr} {oc1 kV1 dc1 pm1 cd1 ct1 : Value} {od1 an1 : Option Addr} {sl1 : Array (Option Value)}
    {f2 : Addr} {oc2 kV2 dc2 pm2 cd2 ct2 : Value} {od2 an2 : Option Addr} {sl2 : Array (Option Value)}
    {f3 : Addr} {oc3 kV3 dc3 pm3 cd3 ct3 : Value} {od3 an3 : Option Addr} {sl3 : Array (Option Value)}
    {f4 : Addr} {oc4 kV4 dc4 pm4 cd4 ct4 : Value} {od4 an4 : Option Addr} {sl4 : Array (Option Value)}
    {f5 : Addr} {oc5 kV5 dc5 pm5 cd5 ct5 : Value} {od5 an5 : Option Addr} {sl5 : Array (Option Value)}
    {f6 : Addr} {oc6 kV6 dc6 pm6 cd6 ct6 : Value} {od6 an6 : Option Addr} {sl6 : Array (Option Value)}
    {f7 : Addr} {oc7 kV7 dc7 pm7 cd7 ct7 : Value} {od7 an7 : Option Addr} {sl7 : Array (Option Value)}
    {f8 : Addr} {oc8 kV8 dc8 pm8 cd8 ct8 : Value} {od8 an8 : Option Addr} {sl8 : Array (Option Value)}
    {f9 : Addr} {oc9 kV9 dc9 pm9 cd9 ct9 : Value} {od9 an9 : Option Addr} {sl9 : Array (Option Value)}
    {f10 : Addr} {oc10 kV10 dc10 pm10 cd10 ct10 : Value} {od10 an10 : Option Addr} {sl10 : Array (Option Value)}
    {CY : Addr}
    {C0 I0 N0 : Addr} {nm0 q0 : Str} {bs0 bm0 sub0 : List Value} {sn0 : List Str} {ab0 : Bool} {col0 : Option Bool} {dd0 : Option Addr} {m00 m10 m20 m30 m50 : Option Value} {io0 id0 ip0 it0 : Value} {iod0 ia0 : Option Addr} {is0 : Array (Option Value)}
    {ic0_ : Value}
    {C1 I1 N1 : Addr} {nm1 q1 : Str} {bs1 bm1 sub1 : List Value} {sn1 : List Str} {ab1 : Bool} {col1 : Option Bool} {dd1 : Option Addr} {m01 m11 m21 m31 m51 : Option Value} {io1 id1 ip1 it1 : Value} {iod1 ia1 : Option Addr} {is1 : Array (Option Value)}
    {ic1_ : Value}
    {C2 I2 N2 : Addr} {nm2 q2 : Str} {bs2 bm2 sub2 : List Value} {sn2 : List Str} {ab2 : Bool} {col2 : Option Bool} {dd2 : Option Addr} {m02 m12 m22 m32 m52 : Option Value} {io2 id2 ip2 it2 : Value} {iod2 ia2 : Option Addr} {is2 : Array (Option Value)}
    {ic2_ : Value}
    {C3 I3 N3 : Addr} {nm3 q3 : Str} {bs3 bm3 sub3 : List Value} {sn3 : List Str} {ab3 : Bool} {col3 : Option Bool} {dd3 : Option Addr} {m03 m13 m23 m33 m53 : Option Value} {io3 id3 ip3 it3 : Value} {iod3 ia3 : Option Addr} {is3 : Array (Option Value)}
    {ic3_ : Value}
    {C4 I4 N4 : Addr} {nm4 q4 : Str} {bs4 bm4 sub4 : List Value} {sn4 : List Str} {ab4 : Bool} {col4 : Option Bool} {dd4 : Option Addr} {m04 m14 m24 m34 m54 : Option Value} {io4 id4 ip4 it4 : Value} {iod4 ia4 : Option Addr} {is4 : Array (Option Value)}
    {ic4_ : Value}
    {C5 I5 N5 : Addr} {nm5 q5 : Str} {bs5 bm5 sub5 : List Value} {sn5 : List Str} {ab5 : Bool} {col5 : Option Bool} {dd5 : Option Addr} {m05 m15 m25 m35 m55 : Option Value} {io5 id5 ip5 it5 : Value} {iod5 ia5 : Option Addr} {is5 : Array (Option Value)}
    {ic5_ : Value}
    {C6 I6 N6 : Addr} {nm6 q6 : Str} {bs6 bm6 sub6 : List Value} {sn6 : List Str} {ab6 : Bool} {col6 : Option Bool} {dd6 : Option Addr} {m06 m16 m26 m36 m56 : Option Value} {io6 id6 ip6 it6 : Value} {iod6 ia6 : Option Addr} {is6 : Array (Option Value)}
    {ic6_ : Value}
    {C7 I7 N7 : Addr} {nm7 q7 : Str} {bs7 bm7 sub7 : List Value} {sn7 : List Str} {ab7 : Bool} {col7 : Option Bool} {dd7 : Option Addr} {m07 m17 m27 m37 m57 : Option Value} {io7 id7 ip7 it7 : Value} {iod7 ia7 : Option Addr} {is7 : Array (Option Value)}
    {ic7_ : Value}
    {C8 I8 N8 : Addr} {nm8 q8 : Str} {bs8 bm8 sub8 : List Value} {sn8 : List Str} {ab8 : Bool} {col8 : Option Bool} {dd8 : Option Addr} {m08 m18 m28 m38 m58 : Option Value} {io8 id8 ip8 it8 : Value} {iod8 ia8 : Option Addr} {is8 : Array (Option Value)}
    {ic8_ : Value}
    {C9 I9 N9 : Addr} {nm9 q9 : Str} {bs9 bm9 sub9 : List Value} {sn9 : List Str} {ab9 : Bool} {col9 : Option Bool} {dd9 : Option Addr} {m09 m19 m29 m39 m59 : Option Value} {io9 id9 ip9 it9 : Value} {iod9 ia9 : Option Addr} {is9 : Array (Option Value)}
    {ic9_ : Value}
    {C10 I10 N10 : Addr} {nm10 q10 : Str} {bs10 bm10 sub10 : List Value} {sn10 : List Str} {ab10 : Bool} {col10 : Option Bool} {dd10 : Option Addr} {m010 m110 m210 m310 m510 : Option Value} {io10 id10 ip10 it10 : Value} {iod10 ia10 : Option Addr} {is10 : Array (Option Value)}
    {ic10_ : Value}
    {C11 I11 N11 : Addr} {nm11 q11 : Str} {bs11 bm11 sub11 : List Value} {sn11 : List Str} {ab11 : Bool} {col11 : Option Bool} {dd11 : Option Addr} {m011 m111 m211 m311 m511 : Option Value} {io11 id11 ip11 it11 : Value} {iod11 ia11 : Option Addr} {is11 : Array (Option Value)}
    {ic11_ : Value}
    {C12 I12 N12 : Addr} {nm12 q12 : Str} {bs12 bm12 sub12 : List Value} {sn12 : List Str} {ab12 : Bool} {col12 : Option Bool} {dd12 : Option Addr} {m012 m112 m212 m312 m512 : Option Value} {io12 id12 ip12 it12 : Value} {iod12 ia12 : Option Addr} {is12 : Array (Option Value)}
    {ic12_ : Value}
    (a0 : PySem.W.nsIn K mainGlobals "_law_draw" = some (some (.ref f0)))
    (l0 : K.lookup f0 = some ⟨oc0, od0, .func (PySem.W.fnOf "_law_draw" "_law_draw" (defArgs s__law_draw) (defBody s__law_draw) (defScope s__law_draw) .none kV0 dc0 pm0 an0 cd0 ct0), sl0⟩)
    (c0 : PySem.W.codeIn K cd0 "_law_draw" = true)
    (k0 : PySem.W.keepIn K (.ref f0) = true)
    (a1 : PySem.W.nsIn K mainGlobals "_law_pick" = some (some (.ref f1)))
    (l1 : K.lookup f1 = some ⟨oc1, od1, .func (PySem.W.fnOf "_law_pick" "_law_pick" (defArgs s__law_pick) (defBody s__law_pick) (defScope s__law_pick) .none kV1 dc1 pm1 an1 cd1 ct1), sl1⟩)
    (c1 : PySem.W.codeIn K cd1 "_law_pick" = true)
    (k1 : PySem.W.keepIn K (.ref f1) = true)
    (a2 : PySem.W.nsIn K mainGlobals "_law_object" = some (some (.ref f2)))
    (l2 : K.lookup f2 = some ⟨oc2, od2, .func (PySem.W.fnOf "_law_object" "_law_object" (defArgs s__law_object) (defBody s__law_object) (defScope s__law_object) .none kV2 dc2 pm2 an2 cd2 ct2), sl2⟩)
    (c2 : PySem.W.codeIn K cd2 "_law_object" = true)
    (k2 : PySem.W.keepIn K (.ref f2) = true)
    (a3 : PySem.W.nsIn K mainGlobals "_law_copied" = some (some (.ref f3)))
    (l3 : K.lookup f3 = some ⟨oc3, od3, .func (PySem.W.fnOf "_law_copied" "_law_copied" (defArgs s__law_copied) (defBody s__law_copied) (defScope s__law_copied) .none kV3 dc3 pm3 an3 cd3 ct3), sl3⟩)
    (c3 : PySem.W.codeIn K cd3 "_law_copied" = true)
    (k3 : PySem.W.keepIn K (.ref f3) = true)
    (a4 : PySem.W.nsIn K mainGlobals "_law_same" = some (some (.ref f4)))
    (l4 : K.lookup f4 = some ⟨oc4, od4, .func (PySem.W.fnOf "_law_same" "_law_same" (defArgs s__law_same) (defBody s__law_same) (defScope s__law_same) .none kV4 dc4 pm4 an4 cd4 ct4), sl4⟩)
    (c4 : PySem.W.codeIn K cd4 "_law_same" = true)
    (k4 : PySem.W.keepIn K (.ref f4) = true)
    (a5 : PySem.W.nsIn K mainGlobals "_law_fields" = some (some (.ref f5)))
    (l5 : K.lookup f5 = some ⟨oc5, od5, .func (PySem.W.fnOf "_law_fields" "_law_fields" (defArgs s__law_fields) (defBody s__law_fields) (defScope s__law_fields) .none kV5 dc5 pm5 an5 cd5 ct5), sl5⟩)
    (c5 : PySem.W.codeIn K cd5 "_law_fields" = true)
    (k5 : PySem.W.keepIn K (.ref f5) = true)
    (a6 : PySem.W.nsIn K mainGlobals "_law_errors" = some (some (.ref f6)))
    (l6 : K.lookup f6 = some ⟨oc6, od6, .func (PySem.W.fnOf "_law_errors" "_law_errors" (defArgs s__law_errors) (defBody s__law_errors) (defScope s__law_errors) .none kV6 dc6 pm6 an6 cd6 ct6), sl6⟩)
    (c6 : PySem.W.codeIn K cd6 "_law_errors" = true)
    (k6 : PySem.W.keepIn K (.ref f6) = true)
    (a7 : PySem.W.nsIn K mainGlobals "_law_classes" = some (some (.ref f7)))
    (l7 : K.lookup f7 = some ⟨oc7, od7, .func (PySem.W.fnOf "_law_classes" "_law_classes" (defArgs s__law_classes) (defBody s__law_classes) (defScope s__law_classes) .none kV7 dc7 pm7 an7 cd7 ct7), sl7⟩)
    (c7 : PySem.W.codeIn K cd7 "_law_classes" = true)
    (k7 : PySem.W.keepIn K (.ref f7) = true)
    (a8 : PySem.W.nsIn K mainGlobals "_law_caught" = some (some (.ref f8)))
    (l8 : K.lookup f8 = some ⟨oc8, od8, .func (PySem.W.fnOf "_law_caught" "_law_caught" (defArgs s__law_caught) (defBody s__law_caught) (defScope s__law_caught) .none kV8 dc8 pm8 an8 cd8 ct8), sl8⟩)
    (c8 : PySem.W.codeIn K cd8 "_law_caught" = true)
    (k8 : PySem.W.keepIn K (.ref f8) = true)
    (a9 : PySem.W.nsIn K mainGlobals "_law_raised" = some (some (.ref f9)))
    (l9 : K.lookup f9 = some ⟨oc9, od9, .func (PySem.W.fnOf "_law_raised" "_law_raised" (defArgs s__law_raised) (defBody s__law_raised) (defScope s__law_raised) .none kV9 dc9 pm9 an9 cd9 ct9), sl9⟩)
    (c9 : PySem.W.codeIn K cd9 "_law_raised" = true)
    (k9 : PySem.W.keepIn K (.ref f9) = true)
    (a10 : PySem.W.nsIn K mainGlobals "law" = some (some (.ref f10)))
    (l10 : K.lookup f10 = some ⟨oc10, od10, .func (PySem.W.fnOf "law" "law" (defArgs s_law) (defBody s_law) (defScope s_law) .none kV10 dc10 pm10 an10 cd10 ct10), sl10⟩)
    (c10 : PySem.W.codeIn K cd10 "law" = true)
    (k10 : PySem.W.keepIn K (.ref f10) = true)
    (z_ValueError : PySem.W.nsIn K mainGlobals "ValueError" = some none)
    (z_all : PySem.W.nsIn K mainGlobals "all" = some none)
    (z_bool : PySem.W.nsIn K mainGlobals "bool" = some none)
    (z_dict : PySem.W.nsIn K mainGlobals "dict" = some none)
    (z_enumerate : PySem.W.nsIn K mainGlobals "enumerate" = some none)
    (z_int : PySem.W.nsIn K mainGlobals "int" = some none)
    (z_isinstance : PySem.W.nsIn K mainGlobals "isinstance" = some none)
    (z_len : PySem.W.nsIn K mainGlobals "len" = some none)
    (z_list : PySem.W.nsIn K mainGlobals "list" = some none)
    (z_range : PySem.W.nsIn K mainGlobals "range" = some none)
    (z_sorted : PySem.W.nsIn K mainGlobals "sorted" = some none)
    (z_tuple : PySem.W.nsIn K mainGlobals "tuple" = some none)
    (z_zip : PySem.W.nsIn K mainGlobals "zip" = some none)
    (aY : PySem.W.nsIn K mainGlobals "YardError" = some (some (.ref CY)))
    (tY : PySem.W.typeIn K (.ref CY) = some (.type "type"))
    (iY : PySem.W.isClsIn K CY = true)
    (hY : PySem.W.hasDictIn K CY = true)
    (eY : PySem.W.subIn K (.ref CY) (.type "BaseException") = some true)
    (sY : PySem.W.subIn K (.ref CY) (.ref CY) = some true)
    (hn : PySem.W.specialIn K (.builtin "object.__class__") "__get__" = some (some (.builtin "getset_descriptor.__get__")))
    (htk : PySem.W.takesIn K (.builtin "object.__class__") = some true)
    (aC0 : PySem.W.nsIn K mainGlobals "BadLevel" = some (some (.ref C0)))
    (x0 : K.lookup C0 = some (PySem.excClassObj nm0 q0 C0 N0 bs0 bm0 true sn0 sub0 ab0 col0 dd0 m00 m10 m20 m30 m50 "ValueError.__new__"))
    (r0 : PySem.HandSPX.refsVE bm0 = true)
    (sa0 : PySem.W.findIn K (.ref C0) "__setattr__" = some (some (.builtin "object.__setattr__")))
    (nf0 : PySem.W.findIn K (.ref C0) "level" = some none)
    (ga0 : PySem.W.findIn K (.ref C0) "__getattribute__" = some (some (.builtin "BaseException.__getattribute__")))
    (gg0 : PySem.W.findIn K (.ref C0) "__getattr__" = some none)
    (iC0 : PySem.W.findIn K (.ref C0) "__init__" = some (some (.ref I0)))
    (tI0 : PySem.W.typeIn K (.ref I0) = some (.type "function"))
    (kC0 : PySem.W.keepIn K (.ref C0) = true)
    (eC0 : PySem.W.subIn K (.ref C0) (.type "BaseException") = some true)
    (tC0 : PySem.W.typeIn K (.ref C0) = some (.type "type"))
    (hC0 : PySem.W.hasDictIn K C0 = true)
    (ic0 : PySem.W.isClsIn K C0 = true)
    (cl0 : PySem.W.findIn K (.ref C0) "__class__" = some (some (.builtin "object.__class__")))
    (mo0 : PySem.W.mroIn K C0 (.type "object") = some true)
    (li0 : K.lookup I0 = some ⟨io0, iod0, .func (PySem.W.fnOf "__init__" "BadLevel.__init__" (eA "level" ⟨6, 17, 6, 21⟩ ⟨6, 23, 6, 28⟩) (eB "level" ⟨7, 8, 7, 12⟩ ⟨7, 8, 7, 18⟩ ⟨7, 21, 7, 26⟩ ⟨7, 8, 7, 26⟩) (eS "level") .none .none id0 ip0 ia0 ic0_ it0), is0⟩)
    (ci0 : PySem.W.codeIn K ic0_ "BadLevel.__init__" = true)
    (y0 : PySem.W.subIn K (.ref C0) (.ref CY) = some true)
    (v0 : PySem.W.subIn K (.ref C0) (.type "ValueError") = some true)
    (aC1 : PySem.W.nsIn K mainGlobals "BadName" = some (some (.ref C1)))
    (x1 : K.lookup C1 = some (PySem.excClassObj nm1 q1 C1 N1 bs1 bm1 true sn1 sub1 ab1 col1 dd1 m01 m11 m21 m31 m51 "ValueError.__new__"))
    (r1 : PySem.HandSPX.refsVE bm1 = true)
    (sa1 : PySem.W.findIn K (.ref C1) "__setattr__" = some (some (.builtin "object.__setattr__")))
    (nf1 : PySem.W.findIn K (.ref C1) "name" = some none)
    (ga1 : PySem.W.findIn K (.ref C1) "__getattribute__" = some (some (.builtin "BaseException.__getattribute__")))
    (gg1 : PySem.W.findIn K (.ref C1) "__getattr__" = some none)
    (iC1 : PySem.W.findIn K (.ref C1) "__init__" = some (some (.ref I1)))
    (tI1 : PySem.W.typeIn K (.ref I1) = some (.type "function"))
    (kC1 : PySem.W.keepIn K (.ref C1) = true)
    (eC1 : PySem.W.subIn K (.ref C1) (.type "BaseException") = some true)
    (tC1 : PySem.W.typeIn K (.ref C1) = some (.type "type"))
    (hC1 : PySem.W.hasDictIn K C1 = true)
    (ic1 : PySem.W.isClsIn K C1 = true)
    (cl1 : PySem.W.findIn K (.ref C1) "__class__" = some (some (.builtin "object.__class__")))
    (mo1 : PySem.W.mroIn K C1 (.type "object") = some true)
    (li1 : K.lookup I1 = some ⟨io1, iod1, .func (PySem.W.fnOf "__init__" "BadName.__init__" (eA "name" ⟨10, 17, 10, 21⟩ ⟨10, 23, 10, 27⟩) (eB "name" ⟨11, 8, 11, 12⟩ ⟨11, 8, 11, 17⟩ ⟨11, 20, 11, 24⟩ ⟨11, 8, 11, 24⟩) (eS "name") .none .none id1 ip1 ia1 ic1_ it1), is1⟩)
    (ci1 : PySem.W.codeIn K ic1_ "BadName.__init__" = true)
    (y1 : PySem.W.subIn K (.ref C1) (.ref CY) = some true)
    (v1 : PySem.W.subIn K (.ref C1) (.type "ValueError") = some true)
    (aC2 : PySem.W.nsIn K mainGlobals "BadExtra" = some (some (.ref C2)))
    (x2 : K.lookup C2 = some (PySem.excClassObj nm2 q2 C2 N2 bs2 bm2 true sn2 sub2 ab2 col2 dd2 m02 m12 m22 m32 m52 "ValueError.__new__"))
    (r2 : PySem.HandSPX.refsVE bm2 = true)
    (sa2 : PySem.W.findIn K (.ref C2) "__setattr__" = some (some (.builtin "object.__setattr__")))
    (nf2 : PySem.W.findIn K (.ref C2) "name" = some none)
    (ga2 : PySem.W.findIn K (.ref C2) "__getattribute__" = some (some (.builtin "BaseException.__getattribute__")))
    (gg2 : PySem.W.findIn K (.ref C2) "__getattr__" = some none)
    (iC2 : PySem.W.findIn K (.ref C2) "__init__" = some (some (.ref I2)))
    (tI2 : PySem.W.typeIn K (.ref I2) = some (.type "function"))
    (kC2 : PySem.W.keepIn K (.ref C2) = true)
    (eC2 : PySem.W.subIn K (.ref C2) (.type "BaseException") = some true)
    (tC2 : PySem.W.typeIn K (.ref C2) = some (.type "type"))
    (hC2 : PySem.W.hasDictIn K C2 = true)
    (ic2 : PySem.W.isClsIn K C2 = true)
    (cl2 : PySem.W.findIn K (.ref C2) "__class__" = some (some (.builtin "object.__class__")))
    (mo2 : PySem.W.mroIn K C2 (.type "object") = some true)
    (li2 : K.lookup I2 = some ⟨io2, iod2, .func (PySem.W.fnOf "__init__" "BadExtra.__init__" (eA "name" ⟨14, 17, 14, 21⟩ ⟨14, 23, 14, 27⟩) (eB "name" ⟨15, 8, 15, 12⟩ ⟨15, 8, 15, 17⟩ ⟨15, 20, 15, 24⟩ ⟨15, 8, 15, 24⟩) (eS "name") .none .none id2 ip2 ia2 ic2_ it2), is2⟩)
    (ci2 : PySem.W.codeIn K ic2_ "BadExtra.__init__" = true)
    (y2 : PySem.W.subIn K (.ref C2) (.ref CY) = some true)
    (v2 : PySem.W.subIn K (.ref C2) (.type "ValueError") = some true)
    (aC3 : PySem.W.nsIn K mainGlobals "BadMessage" = some (some (.ref C3)))
    (x3 : K.lookup C3 = some (PySem.excClassObj nm3 q3 C3 N3 bs3 bm3 true sn3 sub3 ab3 col3 dd3 m03 m13 m23 m33 m53 "ValueError.__new__"))
    (r3 : PySem.HandSPX.refsVE bm3 = true)
    (sa3 : PySem.W.findIn K (.ref C3) "__setattr__" = some (some (.builtin "object.__setattr__")))
    (nf3 : PySem.W.findIn K (.ref C3) "msg" = some none)
    (ga3 : PySem.W.findIn K (.ref C3) "__getattribute__" = some (some (.builtin "BaseException.__getattribute__")))
    (gg3 : PySem.W.findIn K (.ref C3) "__getattr__" = some none)
    (iC3 : PySem.W.findIn K (.ref C3) "__init__" = some (some (.ref I3)))
    (tI3 : PySem.W.typeIn K (.ref I3) = some (.type "function"))
    (kC3 : PySem.W.keepIn K (.ref C3) = true)
    (eC3 : PySem.W.subIn K (.ref C3) (.type "BaseException") = some true)
    (tC3 : PySem.W.typeIn K (.ref C3) = some (.type "type"))
    (hC3 : PySem.W.hasDictIn K C3 = true)
    (ic3 : PySem.W.isClsIn K C3 = true)
    (cl3 : PySem.W.findIn K (.ref C3) "__class__" = some (some (.builtin "object.__class__")))
    (mo3 : PySem.W.mroIn K C3 (.type "object") = some true)
    (li3 : K.lookup I3 = some ⟨io3, iod3, .func (PySem.W.fnOf "__init__" "BadMessage.__init__" (eA "msg" ⟨18, 17, 18, 21⟩ ⟨18, 23, 18, 26⟩) (eB "msg" ⟨19, 8, 19, 12⟩ ⟨19, 8, 19, 16⟩ ⟨19, 19, 19, 22⟩ ⟨19, 8, 19, 22⟩) (eS "msg") .none .none id3 ip3 ia3 ic3_ it3), is3⟩)
    (ci3 : PySem.W.codeIn K ic3_ "BadMessage.__init__" = true)
    (y3 : PySem.W.subIn K (.ref C3) (.ref CY) = some true)
    (v3 : PySem.W.subIn K (.ref C3) (.type "ValueError") = some true)
    (aC4 : PySem.W.nsIn K mainGlobals "BadField" = some (some (.ref C4)))
    (x4 : K.lookup C4 = some (PySem.excClassObj nm4 q4 C4 N4 bs4 bm4 true sn4 sub4 ab4 col4 dd4 m04 m14 m24 m34 m54 "ValueError.__new__"))
    (r4 : PySem.HandSPX.refsVE bm4 = true)
    (sa4 : PySem.W.findIn K (.ref C4) "__setattr__" = some (some (.builtin "object.__setattr__")))
    (nf4 : PySem.W.findIn K (.ref C4) "name" = some none)
    (ga4 : PySem.W.findIn K (.ref C4) "__getattribute__" = some (some (.builtin "BaseException.__getattribute__")))
    (gg4 : PySem.W.findIn K (.ref C4) "__getattr__" = some none)
    (iC4 : PySem.W.findIn K (.ref C4) "__init__" = some (some (.ref I4)))
    (tI4 : PySem.W.typeIn K (.ref I4) = some (.type "function"))
    (kC4 : PySem.W.keepIn K (.ref C4) = true)
    (eC4 : PySem.W.subIn K (.ref C4) (.type "BaseException") = some true)
    (tC4 : PySem.W.typeIn K (.ref C4) = some (.type "type"))
    (hC4 : PySem.W.hasDictIn K C4 = true)
    (ic4 : PySem.W.isClsIn K C4 = true)
    (cl4 : PySem.W.findIn K (.ref C4) "__class__" = some (some (.builtin "object.__class__")))
    (mo4 : PySem.W.mroIn K C4 (.type "object") = some true)
    (li4 : K.lookup I4 = some ⟨io4, iod4, .func (PySem.W.fnOf "__init__" "BadField.__init__" (eA "name" ⟨22, 17, 22, 21⟩ ⟨22, 23, 22, 27⟩) (eB "name" ⟨23, 8, 23, 12⟩ ⟨23, 8, 23, 17⟩ ⟨23, 20, 23, 24⟩ ⟨23, 8, 23, 24⟩) (eS "name") .none .none id4 ip4 ia4 ic4_ it4), is4⟩)
    (ci4 : PySem.W.codeIn K ic4_ "BadField.__init__" = true)
    (y4 : PySem.W.subIn K (.ref C4) (.ref CY) = some true)
    (v4 : PySem.W.subIn K (.ref C4) (.type "ValueError") = some true)
    (aC5 : PySem.W.nsIn K mainGlobals "BadFormat" = some (some (.ref C5)))
    (x5 : K.lookup C5 = some (PySem.excClassObj nm5 q5 C5 N5 bs5 bm5 true sn5 sub5 ab5 col5 dd5 m05 m15 m25 m35 m55 "ValueError.__new__"))
    (r5 : PySem.HandSPX.refsVE bm5 = true)
    (sa5 : PySem.W.findIn K (.ref C5) "__setattr__" = some (some (.builtin "object.__setattr__")))
    (nf5 : PySem.W.findIn K (.ref C5) "fmt" = some none)
    (ga5 : PySem.W.findIn K (.ref C5) "__getattribute__" = some (some (.builtin "BaseException.__getattribute__")))
    (gg5 : PySem.W.findIn K (.ref C5) "__getattr__" = some none)
    (iC5 : PySem.W.findIn K (.ref C5) "__init__" = some (some (.ref I5)))
    (tI5 : PySem.W.typeIn K (.ref I5) = some (.type "function"))
    (kC5 : PySem.W.keepIn K (.ref C5) = true)
    (eC5 : PySem.W.subIn K (.ref C5) (.type "BaseException") = some true)
    (tC5 : PySem.W.typeIn K (.ref C5) = some (.type "type"))
    (hC5 : PySem.W.hasDictIn K C5 = true)
    (ic5 : PySem.W.isClsIn K C5 = true)
    (cl5 : PySem.W.findIn K (.ref C5) "__class__" = some (some (.builtin "object.__class__")))
    (mo5 : PySem.W.mroIn K C5 (.type "object") = some true)
    (li5 : K.lookup I5 = some ⟨io5, iod5, .func (PySem.W.fnOf "__init__" "BadFormat.__init__" (eA "fmt" ⟨26, 17, 26, 21⟩ ⟨26, 23, 26, 26⟩) (eB "fmt" ⟨27, 8, 27, 12⟩ ⟨27, 8, 27, 16⟩ ⟨27, 19, 27, 22⟩ ⟨27, 8, 27, 22⟩) (eS "fmt") .none .none id5 ip5 ia5 ic5_ it5), is5⟩)
    (ci5 : PySem.W.codeIn K ic5_ "BadFormat.__init__" = true)
    (y5 : PySem.W.subIn K (.ref C5) (.ref CY) = some true)
    (v5 : PySem.W.subIn K (.ref C5) (.type "ValueError") = some true)
    (aC6 : PySem.W.nsIn K mainGlobals "BadStyle" = some (some (.ref C6)))
    (x6 : K.lookup C6 = some (PySem.excClassObj nm6 q6 C6 N6 bs6 bm6 true sn6 sub6 ab6 col6 dd6 m06 m16 m26 m36 m56 "ValueError.__new__"))
    (r6 : PySem.HandSPX.refsVE bm6 = true)
    (sa6 : PySem.W.findIn K (.ref C6) "__setattr__" = some (some (.builtin "object.__setattr__")))
    (nf6 : PySem.W.findIn K (.ref C6) "style" = some none)
    (ga6 : PySem.W.findIn K (.ref C6) "__getattribute__" = some (some (.builtin "BaseException.__getattribute__")))
    (gg6 : PySem.W.findIn K (.ref C6) "__getattr__" = some none)
    (iC6 : PySem.W.findIn K (.ref C6) "__init__" = some (some (.ref I6)))
    (tI6 : PySem.W.typeIn K (.ref I6) = some (.type "function"))
    (kC6 : PySem.W.keepIn K (.ref C6) = true)
    (eC6 : PySem.W.subIn K (.ref C6) (.type "BaseException") = some true)
    (tC6 : PySem.W.typeIn K (.ref C6) = some (.type "type"))
    (hC6 : PySem.W.hasDictIn K C6 = true)
    (ic6 : PySem.W.isClsIn K C6 = true)
    (cl6 : PySem.W.findIn K (.ref C6) "__class__" = some (some (.builtin "object.__class__")))
    (mo6 : PySem.W.mroIn K C6 (.type "object") = some true)
    (li6 : K.lookup I6 = some ⟨io6, iod6, .func (PySem.W.fnOf "__init__" "BadStyle.__init__" (eA "style" ⟨30, 17, 30, 21⟩ ⟨30, 23, 30, 28⟩) (eB "style" ⟨31, 8, 31, 12⟩ ⟨31, 8, 31, 18⟩ ⟨31, 21, 31, 26⟩ ⟨31, 8, 31, 26⟩) (eS "style") .none .none id6 ip6 ia6 ic6_ it6), is6⟩)
    (ci6 : PySem.W.codeIn K ic6_ "BadStyle.__init__" = true)
    (y6 : PySem.W.subIn K (.ref C6) (.ref CY) = some true)
    (v6 : PySem.W.subIn K (.ref C6) (.type "ValueError") = some true)
    (aC7 : PySem.W.nsIn K mainGlobals "BadMode" = some (some (.ref C7)))
    (x7 : K.lookup C7 = some (PySem.excClassObj nm7 q7 C7 N7 bs7 bm7 true sn7 sub7 ab7 col7 dd7 m07 m17 m27 m37 m57 "ValueError.__new__"))
    (r7 : PySem.HandSPX.refsVE bm7 = true)
    (sa7 : PySem.W.findIn K (.ref C7) "__setattr__" = some (some (.builtin "object.__setattr__")))
    (nf7 : PySem.W.findIn K (.ref C7) "mode" = some none)
    (ga7 : PySem.W.findIn K (.ref C7) "__getattribute__" = some (some (.builtin "BaseException.__getattribute__")))
    (gg7 : PySem.W.findIn K (.ref C7) "__getattr__" = some none)
    (iC7 : PySem.W.findIn K (.ref C7) "__init__" = some (some (.ref I7)))
    (tI7 : PySem.W.typeIn K (.ref I7) = some (.type "function"))
    (kC7 : PySem.W.keepIn K (.ref C7) = true)
    (eC7 : PySem.W.subIn K (.ref C7) (.type "BaseException") = some true)
    (tC7 : PySem.W.typeIn K (.ref C7) = some (.type "type"))
    (hC7 : PySem.W.hasDictIn K C7 = true)
    (ic7 : PySem.W.isClsIn K C7 = true)
    (cl7 : PySem.W.findIn K (.ref C7) "__class__" = some (some (.builtin "object.__class__")))
    (mo7 : PySem.W.mroIn K C7 (.type "object") = some true)
    (li7 : K.lookup I7 = some ⟨io7, iod7, .func (PySem.W.fnOf "__init__" "BadMode.__init__" (eA "mode" ⟨34, 17, 34, 21⟩ ⟨34, 23, 34, 27⟩) (eB "mode" ⟨35, 8, 35, 12⟩ ⟨35, 8, 35, 17⟩ ⟨35, 20, 35, 24⟩ ⟨35, 8, 35, 24⟩) (eS "mode") .none .none id7 ip7 ia7 ic7_ it7), is7⟩)
    (ci7 : PySem.W.codeIn K ic7_ "BadMode.__init__" = true)
    (y7 : PySem.W.subIn K (.ref C7) (.ref CY) = some true)
    (v7 : PySem.W.subIn K (.ref C7) (.type "ValueError") = some true)
    (aC8 : PySem.W.nsIn K mainGlobals "BadWhen" = some (some (.ref C8)))
    (x8 : K.lookup C8 = some (PySem.excClassObj nm8 q8 C8 N8 bs8 bm8 true sn8 sub8 ab8 col8 dd8 m08 m18 m28 m38 m58 "ValueError.__new__"))
    (r8 : PySem.HandSPX.refsVE bm8 = true)
    (sa8 : PySem.W.findIn K (.ref C8) "__setattr__" = some (some (.builtin "object.__setattr__")))
    (nf8 : PySem.W.findIn K (.ref C8) "when" = some none)
    (ga8 : PySem.W.findIn K (.ref C8) "__getattribute__" = some (some (.builtin "BaseException.__getattribute__")))
    (gg8 : PySem.W.findIn K (.ref C8) "__getattr__" = some none)
    (iC8 : PySem.W.findIn K (.ref C8) "__init__" = some (some (.ref I8)))
    (tI8 : PySem.W.typeIn K (.ref I8) = some (.type "function"))
    (kC8 : PySem.W.keepIn K (.ref C8) = true)
    (eC8 : PySem.W.subIn K (.ref C8) (.type "BaseException") = some true)
    (tC8 : PySem.W.typeIn K (.ref C8) = some (.type "type"))
    (hC8 : PySem.W.hasDictIn K C8 = true)
    (ic8 : PySem.W.isClsIn K C8 = true)
    (cl8 : PySem.W.findIn K (.ref C8) "__class__" = some (some (.builtin "object.__class__")))
    (mo8 : PySem.W.mroIn K C8 (.type "object") = some true)
    (li8 : K.lookup I8 = some ⟨io8, iod8, .func (PySem.W.fnOf "__init__" "BadWhen.__init__" (eA "when" ⟨38, 17, 38, 21⟩ ⟨38, 23, 38, 27⟩) (eB "when" ⟨39, 8, 39, 12⟩ ⟨39, 8, 39, 17⟩ ⟨39, 20, 39, 24⟩ ⟨39, 8, 39, 24⟩) (eS "when") .none .none id8 ip8 ia8 ic8_ it8), is8⟩)
    (ci8 : PySem.W.codeIn K ic8_ "BadWhen.__init__" = true)
    (y8 : PySem.W.subIn K (.ref C8) (.ref CY) = some true)
    (v8 : PySem.W.subIn K (.ref C8) (.type "ValueError") = some true)
    (aC9 : PySem.W.nsIn K mainGlobals "BadSettings" = some (some (.ref C9)))
    (x9 : K.lookup C9 = some (PySem.excClassObj nm9 q9 C9 N9 bs9 bm9 true sn9 sub9 ab9 col9 dd9 m09 m19 m29 m39 m59 "ValueError.__new__"))
    (r9 : PySem.HandSPX.refsVE bm9 = true)
    (sa9 : PySem.W.findIn K (.ref C9) "__setattr__" = some (some (.builtin "object.__setattr__")))
    (nf9 : PySem.W.findIn K (.ref C9) "path" = some none)
    (ga9 : PySem.W.findIn K (.ref C9) "__getattribute__" = some (some (.builtin "BaseException.__getattribute__")))
    (gg9 : PySem.W.findIn K (.ref C9) "__getattr__" = some none)
    (iC9 : PySem.W.findIn K (.ref C9) "__init__" = some (some (.ref I9)))
    (tI9 : PySem.W.typeIn K (.ref I9) = some (.type "function"))
    (kC9 : PySem.W.keepIn K (.ref C9) = true)
    (eC9 : PySem.W.subIn K (.ref C9) (.type "BaseException") = some true)
    (tC9 : PySem.W.typeIn K (.ref C9) = some (.type "type"))
    (hC9 : PySem.W.hasDictIn K C9 = true)
    (ic9 : PySem.W.isClsIn K C9 = true)
    (cl9 : PySem.W.findIn K (.ref C9) "__class__" = some (some (.builtin "object.__class__")))
    (mo9 : PySem.W.mroIn K C9 (.type "object") = some true)
    (li9 : K.lookup I9 = some ⟨io9, iod9, .func (PySem.W.fnOf "__init__" "BadSettings.__init__" (eA "path" ⟨42, 17, 42, 21⟩ ⟨42, 23, 42, 27⟩) (eB "path" ⟨43, 8, 43, 12⟩ ⟨43, 8, 43, 17⟩ ⟨43, 20, 43, 24⟩ ⟨43, 8, 43, 24⟩) (eS "path") .none .none id9 ip9 ia9 ic9_ it9), is9⟩)
    (ci9 : PySem.W.codeIn K ic9_ "BadSettings.__init__" = true)
    (y9 : PySem.W.subIn K (.ref C9) (.ref CY) = some true)
    (v9 : PySem.W.subIn K (.ref C9) (.type "ValueError") = some true)
    (aC10 : PySem.W.nsIn K mainGlobals "NotJudged" = some (some (.ref C10)))
    (x10 : K.lookup C10 = some (PySem.excClassObj nm10 q10 C10 N10 bs10 bm10 true sn10 sub10 ab10 col10 dd10 m010 m110 m210 m310 m510 "ValueError.__new__"))
    (r10 : PySem.HandSPX.refsVE bm10 = true)
    (sa10 : PySem.W.findIn K (.ref C10) "__setattr__" = some (some (.builtin "object.__setattr__")))
    (nf10 : PySem.W.findIn K (.ref C10) "path" = some none)
    (ga10 : PySem.W.findIn K (.ref C10) "__getattribute__" = some (some (.builtin "BaseException.__getattribute__")))
    (gg10 : PySem.W.findIn K (.ref C10) "__getattr__" = some none)
    (iC10 : PySem.W.findIn K (.ref C10) "__init__" = some (some (.ref I10)))
    (tI10 : PySem.W.typeIn K (.ref I10) = some (.type "function"))
    (kC10 : PySem.W.keepIn K (.ref C10) = true)
    (eC10 : PySem.W.subIn K (.ref C10) (.type "BaseException") = some true)
    (tC10 : PySem.W.typeIn K (.ref C10) = some (.type "type"))
    (hC10 : PySem.W.hasDictIn K C10 = true)
    (ic10 : PySem.W.isClsIn K C10 = true)
    (cl10 : PySem.W.findIn K (.ref C10) "__class__" = some (some (.builtin "object.__class__")))
    (mo10 : PySem.W.mroIn K C10 (.type "object") = some true)
    (li10 : K.lookup I10 = some ⟨io10, iod10, .func (PySem.W.fnOf "__init__" "NotJudged.__init__" (eA "path" ⟨46, 17, 46, 21⟩ ⟨46, 23, 46, 27⟩) (eB "path" ⟨47, 8, 47, 12⟩ ⟨47, 8, 47, 17⟩ ⟨47, 20, 47, 24⟩ ⟨47, 8, 47, 24⟩) (eS "path") .none .none id10 ip10 ia10 ic10_ it10), is10⟩)
    (ci10 : PySem.W.codeIn K ic10_ "NotJudged.__init__" = true)
    (y10 : PySem.W.subIn K (.ref C10) (.ref CY) = some true)
    (v10 : PySem.W.subIn K (.ref C10) (.type "ValueError") = some true)
    (aC11 : PySem.W.nsIn K mainGlobals "BadCuts" = some (some (.ref C11)))
    (x11 : K.lookup C11 = some (PySem.excClassObj nm11 q11 C11 N11 bs11 bm11 true sn11 sub11 ab11 col11 dd11 m011 m111 m211 m311 m511 "ValueError.__new__"))
    (r11 : PySem.HandSPX.refsVE bm11 = true)
    (ga11 : PySem.W.findIn K (.ref C11) "__getattribute__" = some (some (.builtin "BaseException.__getattribute__")))
    (gg11 : PySem.W.findIn K (.ref C11) "__getattr__" = some none)
    (iC11 : PySem.W.findIn K (.ref C11) "__init__" = some (some (.ref I11)))
    (tI11 : PySem.W.typeIn K (.ref I11) = some (.type "function"))
    (kC11 : PySem.W.keepIn K (.ref C11) = true)
    (eC11 : PySem.W.subIn K (.ref C11) (.type "BaseException") = some true)
    (tC11 : PySem.W.typeIn K (.ref C11) = some (.type "type"))
    (hC11 : PySem.W.hasDictIn K C11 = true)
    (ic11 : PySem.W.isClsIn K C11 = true)
    (cl11 : PySem.W.findIn K (.ref C11) "__class__" = some (some (.builtin "object.__class__")))
    (mo11 : PySem.W.mroIn K C11 (.type "object") = some true)
    (li11 : K.lookup I11 = some ⟨io11, iod11, .func (PySem.W.fnOf "__init__" "BadCuts.__init__" (cA ⟨50, 17, 50, 21⟩) (cB ⟨51, 8, 51, 12⟩) cS .none .none id11 ip11 ia11 ic11_ it11), is11⟩)
    (ci11 : PySem.W.codeIn K ic11_ "BadCuts.__init__" = true)
    (y11 : PySem.W.subIn K (.ref C11) (.ref CY) = some true)
    (v11 : PySem.W.subIn K (.ref C11) (.type "ValueError") = some true)
    (aC12 : PySem.W.nsIn K mainGlobals "BadDeed" = some (some (.ref C12)))
    (x12 : K.lookup C12 = some (PySem.excClassObj nm12 q12 C12 N12 bs12 bm12 true sn12 sub12 ab12 col12 dd12 m012 m112 m212 m312 m512 "ValueError.__new__"))
    (r12 : PySem.HandSPX.refsVE bm12 = true)
    (sa12 : PySem.W.findIn K (.ref C12) "__setattr__" = some (some (.builtin "object.__setattr__")))
    (nf12 : PySem.W.findIn K (.ref C12) "deed" = some none)
    (ga12 : PySem.W.findIn K (.ref C12) "__getattribute__" = some (some (.builtin "BaseException.__getattribute__")))
    (gg12 : PySem.W.findIn K (.ref C12) "__getattr__" = some none)
    (iC12 : PySem.W.findIn K (.ref C12) "__init__" = some (some (.ref I12)))
    (tI12 : PySem.W.typeIn K (.ref I12) = some (.type "function"))
    (kC12 : PySem.W.keepIn K (.ref C12) = true)
    (eC12 : PySem.W.subIn K (.ref C12) (.type "BaseException") = some true)
    (tC12 : PySem.W.typeIn K (.ref C12) = some (.type "type"))
    (hC12 : PySem.W.hasDictIn K C12 = true)
    (ic12 : PySem.W.isClsIn K C12 = true)
    (cl12 : PySem.W.findIn K (.ref C12) "__class__" = some (some (.builtin "object.__class__")))
    (mo12 : PySem.W.mroIn K C12 (.type "object") = some true)
    (li12 : K.lookup I12 = some ⟨io12, iod12, .func (PySem.W.fnOf "__init__" "BadDeed.__init__" (eA "deed" ⟨54, 17, 54, 21⟩ ⟨54, 23, 54, 27⟩) (eB "deed" ⟨55, 8, 55, 12⟩ ⟨55, 8, 55, 17⟩ ⟨55, 20, 55, 24⟩ ⟨55, 8, 55, 24⟩) (eS "deed") .none .none id12 ip12 ia12 ic12_ it12), is12⟩)
    (ci12 : PySem.W.codeIn K ic12_ "BadDeed.__init__" = true)
    (y12 : PySem.W.subIn K (.ref C12) (.ref CY) = some true)
    (v12 : PySem.W.subIn K (.ref C12) (.type "ValueError") = some true)
    (s0_0 : PySem.W.subIn K (.ref C0) (.ref C0) = some true)
    (s0_1 : PySem.W.subIn K (.ref C0) (.ref C1) = some false)
    (s0_2 : PySem.W.subIn K (.ref C0) (.ref C2) = some false)
    (s0_3 : PySem.W.subIn K (.ref C0) (.ref C3) = some false)
    (s0_4 : PySem.W.subIn K (.ref C0) (.ref C4) = some false)
    (s0_5 : PySem.W.subIn K (.ref C0) (.ref C5) = some false)
    (s0_6 : PySem.W.subIn K (.ref C0) (.ref C6) = some false)
    (s0_7 : PySem.W.subIn K (.ref C0) (.ref C7) = some false)
    (s0_8 : PySem.W.subIn K (.ref C0) (.ref C8) = some false)
    (s0_9 : PySem.W.subIn K (.ref C0) (.ref C9) = some false)
    (s0_10 : PySem.W.subIn K (.ref C0) (.ref C10) = some false)
    (s0_11 : PySem.W.subIn K (.ref C0) (.ref C11) = some false)
    (s0_12 : PySem.W.subIn K (.ref C0) (.ref C12) = some false)
    (s1_0 : PySem.W.subIn K (.ref C1) (.ref C0) = some false)
    (s1_1 : PySem.W.subIn K (.ref C1) (.ref C1) = some true)
    (s1_2 : PySem.W.subIn K (.ref C1) (.ref C2) = some false)
    (s1_3 : PySem.W.subIn K (.ref C1) (.ref C3) = some false)
    (s1_4 : PySem.W.subIn K (.ref C1) (.ref C4) = some false)
    (s1_5 : PySem.W.subIn K (.ref C1) (.ref C5) = some false)
    (s1_6 : PySem.W.subIn K (.ref C1) (.ref C6) = some false)
    (s1_7 : PySem.W.subIn K (.ref C1) (.ref C7) = some false)
    (s1_8 : PySem.W.subIn K (.ref C1) (.ref C8) = some false)
    (s1_9 : PySem.W.subIn K (.ref C1) (.ref C9) = some false)
    (s1_10 : PySem.W.subIn K (.ref C1) (.ref C10) = some false)
    (s1_11 : PySem.W.subIn K (.ref C1) (.ref C11) = some false)
    (s1_12 : PySem.W.subIn K (.ref C1) (.ref C12) = some false)
    (s2_0 : PySem.W.subIn K (.ref C2) (.ref C0) = some false)
    (s2_1 : PySem.W.subIn K (.ref C2) (.ref C1) = some false)
    (s2_2 : PySem.W.subIn K (.ref C2) (.ref C2) = some true)
    (s2_3 : PySem.W.subIn K (.ref C2) (.ref C3) = some false)
    (s2_4 : PySem.W.subIn K (.ref C2) (.ref C4) = some false)
    (s2_5 : PySem.W.subIn K (.ref C2) (.ref C5) = some false)
    (s2_6 : PySem.W.subIn K (.ref C2) (.ref C6) = some false)
    (s2_7 : PySem.W.subIn K (.ref C2) (.ref C7) = some false)
    (s2_8 : PySem.W.subIn K (.ref C2) (.ref C8) = some false)
    (s2_9 : PySem.W.subIn K (.ref C2) (.ref C9) = some false)
    (s2_10 : PySem.W.subIn K (.ref C2) (.ref C10) = some false)
    (s2_11 : PySem.W.subIn K (.ref C2) (.ref C11) = some false)
    (s2_12 : PySem.W.subIn K (.ref C2) (.ref C12) = some false)
    (s3_0 : PySem.W.subIn K (.ref C3) (.ref C0) = some false)
    (s3_1 : PySem.W.subIn K (.ref C3) (.ref C1) = some false)
    (s3_2 : PySem.W.subIn K (.ref C3) (.ref C2) = some false)
    (s3_3 : PySem.W.subIn K (.ref C3) (.ref C3) = some true)
    (s3_4 : PySem.W.subIn K (.ref C3) (.ref C4) = some false)
    (s3_5 : PySem.W.subIn K (.ref C3) (.ref C5) = some false)
    (s3_6 : PySem.W.subIn K (.ref C3) (.ref C6) = some false)
    (s3_7 : PySem.W.subIn K (.ref C3) (.ref C7) = some false)
    (s3_8 : PySem.W.subIn K (.ref C3) (.ref C8) = some false)
    (s3_9 : PySem.W.subIn K (.ref C3) (.ref C9) = some false)
    (s3_10 : PySem.W.subIn K (.ref C3) (.ref C10) = some false)
    (s3_11 : PySem.W.subIn K (.ref C3) (.ref C11) = some false)
    (s3_12 : PySem.W.subIn K (.ref C3) (.ref C12) = some false)
    (s4_0 : PySem.W.subIn K (.ref C4) (.ref C0) = some false)
    (s4_1 : PySem.W.subIn K (.ref C4) (.ref C1) = some false)
    (s4_2 : PySem.W.subIn K (.ref C4) (.ref C2) = some false)
    (s4_3 : PySem.W.subIn K (.ref C4) (.ref C3) = some false)
    (s4_4 : PySem.W.subIn K (.ref C4) (.ref C4) = some true)
    (s4_5 : PySem.W.subIn K (.ref C4) (.ref C5) = some false)
    (s4_6 : PySem.W.subIn K (.ref C4) (.ref C6) = some false)
    (s4_7 : PySem.W.subIn K (.ref C4) (.ref C7) = some false)
    (s4_8 : PySem.W.subIn K (.ref C4) (.ref C8) = some false)
    (s4_9 : PySem.W.subIn K (.ref C4) (.ref C9) = some false)
    (s4_10 : PySem.W.subIn K (.ref C4) (.ref C10) = some false)
    (s4_11 : PySem.W.subIn K (.ref C4) (.ref C11) = some false)
    (s4_12 : PySem.W.subIn K (.ref C4) (.ref C12) = some false)
    (s5_0 : PySem.W.subIn K (.ref C5) (.ref C0) = some false)
    (s5_1 : PySem.W.subIn K (.ref C5) (.ref C1) = some false)
    (s5_2 : PySem.W.subIn K (.ref C5) (.ref C2) = some false)
    (s5_3 : PySem.W.subIn K (.ref C5) (.ref C3) = some false)
    (s5_4 : PySem.W.subIn K (.ref C5) (.ref C4) = some false)
    (s5_5 : PySem.W.subIn K (.ref C5) (.ref C5) = some true)
    (s5_6 : PySem.W.subIn K (.ref C5) (.ref C6) = some false)
    (s5_7 : PySem.W.subIn K (.ref C5) (.ref C7) = some false)
    (s5_8 : PySem.W.subIn K (.ref C5) (.ref C8) = some false)
    (s5_9 : PySem.W.subIn K (.ref C5) (.ref C9) = some false)
    (s5_10 : PySem.W.subIn K (.ref C5) (.ref C10) = some false)
    (s5_11 : PySem.W.subIn K (.ref C5) (.ref C11) = some false)
    (s5_12 : PySem.W.subIn K (.ref C5) (.ref C12) = some false)
    (s6_0 : PySem.W.subIn K (.ref C6) (.ref C0) = some false)
    (s6_1 : PySem.W.subIn K (.ref C6) (.ref C1) = some false)
    (s6_2 : PySem.W.subIn K (.ref C6) (.ref C2) = some false)
    (s6_3 : PySem.W.subIn K (.ref C6) (.ref C3) = some false)
    (s6_4 : PySem.W.subIn K (.ref C6) (.ref C4) = some false)
    (s6_5 : PySem.W.subIn K (.ref C6) (.ref C5) = some false)
    (s6_6 : PySem.W.subIn K (.ref C6) (.ref C6) = some true)
    (s6_7 : PySem.W.subIn K (.ref C6) (.ref C7) = some false)
    (s6_8 : PySem.W.subIn K (.ref C6) (.ref C8) = some false)
    (s6_9 : PySem.W.subIn K (.ref C6) (.ref C9) = some false)
    (s6_10 : PySem.W.subIn K (.ref C6) (.ref C10) = some false)
    (s6_11 : PySem.W.subIn K (.ref C6) (.ref C11) = some false)
    (s6_12 : PySem.W.subIn K (.ref C6) (.ref C12) = some false)
    (s7_0 : PySem.W.subIn K (.ref C7) (.ref C0) = some false)
    (s7_1 : PySem.W.subIn K (.ref C7) (.ref C1) = some false)
    (s7_2 : PySem.W.subIn K (.ref C7) (.ref C2) = some false)
    (s7_3 : PySem.W.subIn K (.ref C7) (.ref C3) = some false)
    (s7_4 : PySem.W.subIn K (.ref C7) (.ref C4) = some false)
    (s7_5 : PySem.W.subIn K (.ref C7) (.ref C5) = some false)
    (s7_6 : PySem.W.subIn K (.ref C7) (.ref C6) = some false)
    (s7_7 : PySem.W.subIn K (.ref C7) (.ref C7) = some true)
    (s7_8 : PySem.W.subIn K (.ref C7) (.ref C8) = some false)
    (s7_9 : PySem.W.subIn K (.ref C7) (.ref C9) = some false)
    (s7_10 : PySem.W.subIn K (.ref C7) (.ref C10) = some false)
    (s7_11 : PySem.W.subIn K (.ref C7) (.ref C11) = some false)
    (s7_12 : PySem.W.subIn K (.ref C7) (.ref C12) = some false)
    (s8_0 : PySem.W.subIn K (.ref C8) (.ref C0) = some false)
    (s8_1 : PySem.W.subIn K (.ref C8) (.ref C1) = some false)
    (s8_2 : PySem.W.subIn K (.ref C8) (.ref C2) = some false)
    (s8_3 : PySem.W.subIn K (.ref C8) (.ref C3) = some false)
    (s8_4 : PySem.W.subIn K (.ref C8) (.ref C4) = some false)
    (s8_5 : PySem.W.subIn K (.ref C8) (.ref C5) = some false)
    (s8_6 : PySem.W.subIn K (.ref C8) (.ref C6) = some false)
    (s8_7 : PySem.W.subIn K (.ref C8) (.ref C7) = some false)
    (s8_8 : PySem.W.subIn K (.ref C8) (.ref C8) = some true)
    (s8_9 : PySem.W.subIn K (.ref C8) (.ref C9) = some false)
    (s8_10 : PySem.W.subIn K (.ref C8) (.ref C10) = some false)
    (s8_11 : PySem.W.subIn K (.ref C8) (.ref C11) = some false)
    (s8_12 : PySem.W.subIn K (.ref C8) (.ref C12) = some false)
    (s9_0 : PySem.W.subIn K (.ref C9) (.ref C0) = some false)
    (s9_1 : PySem.W.subIn K (.ref C9) (.ref C1) = some false)
    (s9_2 : PySem.W.subIn K (.ref C9) (.ref C2) = some false)
    (s9_3 : PySem.W.subIn K (.ref C9) (.ref C3) = some false)
    (s9_4 : PySem.W.subIn K (.ref C9) (.ref C4) = some false)
    (s9_5 : PySem.W.subIn K (.ref C9) (.ref C5) = some false)
    (s9_6 : PySem.W.subIn K (.ref C9) (.ref C6) = some false)
    (s9_7 : PySem.W.subIn K (.ref C9) (.ref C7) = some false)
    (s9_8 : PySem.W.subIn K (.ref C9) (.ref C8) = some false)
    (s9_9 : PySem.W.subIn K (.ref C9) (.ref C9) = some true)
    (s9_10 : PySem.W.subIn K (.ref C9) (.ref C10) = some false)
    (s9_11 : PySem.W.subIn K (.ref C9) (.ref C11) = some false)
    (s9_12 : PySem.W.subIn K (.ref C9) (.ref C12) = some false)
    (s10_0 : PySem.W.subIn K (.ref C10) (.ref C0) = some false)
    (s10_1 : PySem.W.subIn K (.ref C10) (.ref C1) = some false)
    (s10_2 : PySem.W.subIn K (.ref C10) (.ref C2) = some false)
    (s10_3 : PySem.W.subIn K (.ref C10) (.ref C3) = some false)
    (s10_4 : PySem.W.subIn K (.ref C10) (.ref C4) = some false)
    (s10_5 : PySem.W.subIn K (.ref C10) (.ref C5) = some false)
    (s10_6 : PySem.W.subIn K (.ref C10) (.ref C6) = some false)
    (s10_7 : PySem.W.subIn K (.ref C10) (.ref C7) = some false)
    (s10_8 : PySem.W.subIn K (.ref C10) (.ref C8) = some false)
    (s10_9 : PySem.W.subIn K (.ref C10) (.ref C9) = some false)
    (s10_10 : PySem.W.subIn K (.ref C10) (.ref C10) = some true)
    (s10_11 : PySem.W.subIn K (.ref C10) (.ref C11) = some false)
    (s10_12 : PySem.W.subIn K (.ref C10) (.ref C12) = some false)
    (s11_0 : PySem.W.subIn K (.ref C11) (.ref C0) = some false)
    (s11_1 : PySem.W.subIn K (.ref C11) (.ref C1) = some false)
    (s11_2 : PySem.W.subIn K (.ref C11) (.ref C2) = some false)
    (s11_3 : PySem.W.subIn K (.ref C11) (.ref C3) = some false)
    (s11_4 : PySem.W.subIn K (.ref C11) (.ref C4) = some false)
    (s11_5 : PySem.W.subIn K (.ref C11) (.ref C5) = some false)
    (s11_6 : PySem.W.subIn K (.ref C11) (.ref C6) = some false)
    (s11_7 : PySem.W.subIn K (.ref C11) (.ref C7) = some false)
    (s11_8 : PySem.W.subIn K (.ref C11) (.ref C8) = some false)
    (s11_9 : PySem.W.subIn K (.ref C11) (.ref C9) = some false)
    (s11_10 : PySem.W.subIn K (.ref C11) (.ref C10) = some false)
    (s11_11 : PySem.W.subIn K (.ref C11) (.ref C11) = some true)
    (s11_12 : PySem.W.subIn K (.ref C11) (.ref C12) = some false)
    (s12_0 : PySem.W.subIn K (.ref C12) (.ref C0) = some false)
    (s12_1 : PySem.W.subIn K (.ref C12) (.ref C1) = some false)
    (s12_2 : PySem.W.subIn K (.ref C12) (.ref C2) = some false)
    (s12_3 : PySem.W.subIn K (.ref C12) (.ref C3) = some false)
    (s12_4 : PySem.W.subIn K (.ref C12) (.ref C4) = some false)
    (s12_5 : PySem.W.subIn K (.ref C12) (.ref C5) = some false)
    (s12_6 : PySem.W.subIn K (.ref C12) (.ref C6) = some false)
    (s12_7 : PySem.W.subIn K (.ref C12) (.ref C7) = some false)
    (s12_8 : PySem.W.subIn K (.ref C12) (.ref C8) = some false)
    (s12_9 : PySem.W.subIn K (.ref C12) (.ref C9) = some false)
    (s12_10 : PySem.W.subIn K (.ref C12) (.ref C10) = some false)
    (s12_11 : PySem.W.subIn K (.ref C12) (.ref C11) = some false)
    (s12_12 : PySem.W.subIn K (.ref C12) (.ref C12) = some true)
    : ∃ fd : FuncData, (∀ (s : Shared) (v : Value), BindsTo s fd ⟨[v], []⟩ [("_law_script", v)]) ∧ ∀ base : Heap, K.In base → base.Ns mainGlobals mg → FnOk P w K mg base CX0 7 fa fd ["_law_script"] (spLaw K) := by
  have e := hfa.symm.trans (PySem.W.mg_of X G a10)
  have e2 : f10 = fa := (Value.ref.inj (Option.some.inj e)).symm
  subst e2
  have F0 := fun_mk (st := s__law_draw) l0 c0 k0
  have D0 : Dfn K mg "_law_draw" "_law_draw" s__law_draw ["_law_stream", "_law_many"] f0 _ := ⟨F0, PySem.W.mg_of X G a0, F0.binds (ps := ["_law_stream", "_law_many"]) fun _ _ _ _ _ _ us hl => match us, hl with | [_, _], _ => rfl⟩
  have F1 := fun_mk (st := s__law_pick) l1 c1 k1
  have D1 : Dfn K mg "_law_pick" "_law_pick" s__law_pick ["_law_stream", "_law_some"] f1 _ := ⟨F1, PySem.W.mg_of X G a1, F1.binds (ps := ["_law_stream", "_law_some"]) fun _ _ _ _ _ _ us hl => match us, hl with | [_, _], _ => rfl⟩
  have F2 := fun_mk (st := s__law_object) l2 c2 k2
  have D2 : Dfn K mg "_law_object" "_law_object" s__law_object ["_law_stream", "_law_deep"] f2 _ := ⟨F2, PySem.W.mg_of X G a2, F2.binds (ps := ["_law_stream", "_law_deep"]) fun _ _ _ _ _ _ us hl => match us, hl with | [_, _], _ => rfl⟩
  have F3 := fun_mk (st := s__law_copied) l3 c3 k3
  have D3 : Dfn K mg "_law_copied" "_law_copied" s__law_copied ["_law_thing"] f3 _ := ⟨F3, PySem.W.mg_of X G a3, F3.binds (ps := ["_law_thing"]) fun _ _ _ _ _ _ us hl => match us, hl with | [_], _ => rfl⟩
  have F4 := fun_mk (st := s__law_same) l4 c4 k4
  have D4 : Dfn K mg "_law_same" "_law_same" s__law_same ["_law_found", "_law_due"] f4 _ := ⟨F4, PySem.W.mg_of X G a4, F4.binds (ps := ["_law_found", "_law_due"]) fun _ _ _ _ _ _ us hl => match us, hl with | [_, _], _ => rfl⟩
  have F5 := fun_mk (st := s__law_fields) l5 c5 k5
  have D5 : Dfn K mg "_law_fields" "_law_fields" s__law_fields ["_law_thing"] f5 _ := ⟨F5, PySem.W.mg_of X G a5, F5.binds (ps := ["_law_thing"]) fun _ _ _ _ _ _ us hl => match us, hl with | [_], _ => rfl⟩
  have F6 := fun_mk (st := s__law_errors) l6 c6 k6
  have D6 : Dfn K mg "_law_errors" "_law_errors" s__law_errors ["_law_thing"] f6 _ := ⟨F6, PySem.W.mg_of X G a6, F6.binds (ps := ["_law_thing"]) fun _ _ _ _ _ _ us hl => match us, hl with | [_], _ => rfl⟩
  have F7 := fun_mk (st := s__law_classes) l7 c7 k7
  have D7 : Dfn K mg "_law_classes" "_law_classes" s__law_classes ["_law_e"] f7 _ := ⟨F7, PySem.W.mg_of X G a7, F7.binds (ps := ["_law_e"]) fun _ _ _ _ _ _ us hl => match us, hl with | [_], _ => rfl⟩
  have F8 := fun_mk (st := s__law_caught) l8 c8 k8
  have D8 : Dfn K mg "_law_caught" "_law_caught" s__law_caught ["_law_k", "_law_thing"] f8 _ := ⟨F8, PySem.W.mg_of X G a8, F8.binds (ps := ["_law_k", "_law_thing"]) fun _ _ _ _ _ _ us hl => match us, hl with | [_, _], _ => rfl⟩
  have F9 := fun_mk (st := s__law_raised) l9 c9 k9
  have D9 : Dfn K mg "_law_raised" "_law_raised" s__law_raised ["_law_k", "_law_thing"] f9 _ := ⟨F9, PySem.W.mg_of X G a9, F9.binds (ps := ["_law_k", "_law_thing"]) fun _ _ _ _ _ _ us hl => match us, hl with | [_, _], _ => rfl⟩
  have F10 := fun_mk (st := s_law) l10 c10 k10
  have D10 : Dfn K mg "law" "law" s_law ["_law_script"] f10 _ := ⟨F10, PySem.W.mg_of X G a10, F10.binds (ps := ["_law_script"]) fun _ _ _ _ _ _ us hl => match us, hl with | [_], _ => rfl⟩
  have B : Blt mg := ⟨PySem.W.mg_none_of X G z_ValueError, PySem.W.mg_none_of X G z_all, PySem.W.mg_none_of X G z_bool, PySem.W.mg_none_of X G z_dict, PySem.W.mg_none_of X G z_enumerate, PySem.W.mg_none_of X G z_int, PySem.W.mg_none_of X G z_isinstance, PySem.W.mg_none_of X G z_len, PySem.W.mg_none_of X G z_list, PySem.W.mg_none_of X G z_range, PySem.W.mg_none_of X G z_sorted, PySem.W.mg_none_of X G z_tuple, PySem.W.mg_none_of X G z_zip⟩
  have E0 : ErrTxt K mg "BadLevel" "level" C0 I0 := ⟨oneF_level, PySem.W.mg_of X G aC0, ⟨_, _, _, _, _, _, _, _, _, _, _, _, _, _, _, x0, r0⟩, sa0, ga0, gg0, nf0, iC0, tI0, kC0, eC0, tC0, hC0, ⟨_, _, _, _, _, _, _, _, _, _, _, _, _, _, _, li0, ci0⟩⟩
  have X0 : ExcC K C0 := ⟨ga0, gg0, eC0, hC0, cl0, hn, htk, mo0⟩
  have E1 : ErrTxt K mg "BadName" "name" C1 I1 := ⟨oneF_name, PySem.W.mg_of X G aC1, ⟨_, _, _, _, _, _, _, _, _, _, _, _, _, _, _, x1, r1⟩, sa1, ga1, gg1, nf1, iC1, tI1, kC1, eC1, tC1, hC1, ⟨_, _, _, _, _, _, _, _, _, _, _, _, _, _, _, li1, ci1⟩⟩
  have X1 : ExcC K C1 := ⟨ga1, gg1, eC1, hC1, cl1, hn, htk, mo1⟩
  have E2 : ErrTxt K mg "BadExtra" "name" C2 I2 := ⟨oneF_name, PySem.W.mg_of X G aC2, ⟨_, _, _, _, _, _, _, _, _, _, _, _, _, _, _, x2, r2⟩, sa2, ga2, gg2, nf2, iC2, tI2, kC2, eC2, tC2, hC2, ⟨_, _, _, _, _, _, _, _, _, _, _, _, _, _, _, li2, ci2⟩⟩
  have X2 : ExcC K C2 := ⟨ga2, gg2, eC2, hC2, cl2, hn, htk, mo2⟩
  have E3 : ErrTxt K mg "BadMessage" "msg" C3 I3 := ⟨oneF_msg, PySem.W.mg_of X G aC3, ⟨_, _, _, _, _, _, _, _, _, _, _, _, _, _, _, x3, r3⟩, sa3, ga3, gg3, nf3, iC3, tI3, kC3, eC3, tC3, hC3, ⟨_, _, _, _, _, _, _, _, _, _, _, _, _, _, _, li3, ci3⟩⟩
  have X3 : ExcC K C3 := ⟨ga3, gg3, eC3, hC3, cl3, hn, htk, mo3⟩
  have E4 : ErrTxt K mg "BadField" "name" C4 I4 := ⟨oneF_name, PySem.W.mg_of X G aC4, ⟨_, _, _, _, _, _, _, _, _, _, _, _, _, _, _, x4, r4⟩, sa4, ga4, gg4, nf4, iC4, tI4, kC4, eC4, tC4, hC4, ⟨_, _, _, _, _, _, _, _, _, _, _, _, _, _, _, li4, ci4⟩⟩
  have X4 : ExcC K C4 := ⟨ga4, gg4, eC4, hC4, cl4, hn, htk, mo4⟩
  have E5 : ErrTxt K mg "BadFormat" "fmt" C5 I5 := ⟨oneF_fmt, PySem.W.mg_of X G aC5, ⟨_, _, _, _, _, _, _, _, _, _, _, _, _, _, _, x5, r5⟩, sa5, ga5, gg5, nf5, iC5, tI5, kC5, eC5, tC5, hC5, ⟨_, _, _, _, _, _, _, _, _, _, _, _, _, _, _, li5, ci5⟩⟩
  have X5 : ExcC K C5 := ⟨ga5, gg5, eC5, hC5, cl5, hn, htk, mo5⟩
  have E6 : ErrTxt K mg "BadStyle" "style" C6 I6 := ⟨oneF_style, PySem.W.mg_of X G aC6, ⟨_, _, _, _, _, _, _, _, _, _, _, _, _, _, _, x6, r6⟩, sa6, ga6, gg6, nf6, iC6, tI6, kC6, eC6, tC6, hC6, ⟨_, _, _, _, _, _, _, _, _, _, _, _, _, _, _, li6, ci6⟩⟩
  have X6 : ExcC K C6 := ⟨ga6, gg6, eC6, hC6, cl6, hn, htk, mo6⟩
  have E7 : ErrTxt K mg "BadMode" "mode" C7 I7 := ⟨oneF_mode, PySem.W.mg_of X G aC7, ⟨_, _, _, _, _, _, _, _, _, _, _, _, _, _, _, x7, r7⟩, sa7, ga7, gg7, nf7, iC7, tI7, kC7, eC7, tC7, hC7, ⟨_, _, _, _, _, _, _, _, _, _, _, _, _, _, _, li7, ci7⟩⟩
  have X7 : ExcC K C7 := ⟨ga7, gg7, eC7, hC7, cl7, hn, htk, mo7⟩
  have E8 : ErrTxt K mg "BadWhen" "when" C8 I8 := ⟨oneF_when, PySem.W.mg_of X G aC8, ⟨_, _, _, _, _, _, _, _, _, _, _, _, _, _, _, x8, r8⟩, sa8, ga8, gg8, nf8, iC8, tI8, kC8, eC8, tC8, hC8, ⟨_, _, _, _, _, _, _, _, _, _, _, _, _, _, _, li8, ci8⟩⟩
  have X8 : ExcC K C8 := ⟨ga8, gg8, eC8, hC8, cl8, hn, htk, mo8⟩
  have E9 : ErrTxt K mg "BadSettings" "path" C9 I9 := ⟨oneF_path, PySem.W.mg_of X G aC9, ⟨_, _, _, _, _, _, _, _, _, _, _, _, _, _, _, x9, r9⟩, sa9, ga9, gg9, nf9, iC9, tI9, kC9, eC9, tC9, hC9, ⟨_, _, _, _, _, _, _, _, _, _, _, _, _, _, _, li9, ci9⟩⟩
  have X9 : ExcC K C9 := ⟨ga9, gg9, eC9, hC9, cl9, hn, htk, mo9⟩
  have E10 : ErrTxt K mg "NotJudged" "path" C10 I10 := ⟨oneF_path, PySem.W.mg_of X G aC10, ⟨_, _, _, _, _, _, _, _, _, _, _, _, _, _, _, x10, r10⟩, sa10, ga10, gg10, nf10, iC10, tI10, kC10, eC10, tC10, hC10, ⟨_, _, _, _, _, _, _, _, _, _, _, _, _, _, _, li10, ci10⟩⟩
  have X10 : ExcC K C10 := ⟨ga10, gg10, eC10, hC10, cl10, hn, htk, mo10⟩
  have E11 : NilTxt K mg "BadCuts" C11 I11 := ⟨PySem.W.mg_of X G aC11, ⟨_, _, _, _, _, _, _, _, _, _, _, _, _, _, _, x11, r11⟩, iC11, tI11, kC11, eC11, tC11, ⟨_, _, _, _, _, _, _, _, _, _, _, li11, ci11⟩⟩
  have X11 : ExcC K C11 := ⟨ga11, gg11, eC11, hC11, cl11, hn, htk, mo11⟩
  have E12 : ErrTxt K mg "BadDeed" "deed" C12 I12 := ⟨oneF_deed, PySem.W.mg_of X G aC12, ⟨_, _, _, _, _, _, _, _, _, _, _, _, _, _, _, x12, r12⟩, sa12, ga12, gg12, nf12, iC12, tI12, kC12, eC12, tC12, hC12, ⟨_, _, _, _, _, _, _, _, _, _, _, _, _, _, _, li12, ci12⟩⟩
  have X12 : ExcC K C12 := ⟨ga12, gg12, eC12, hC12, cl12, hn, htk, mo12⟩
  let cf : Nat → Addr := fun i => match i with
    | 0 => C0
    | 1 => C1
    | 2 => C2
    | 3 => C3
    | 4 => C4
    | 5 => C5
    | 6 => C6
    | 7 => C7
    | 8 => C8
    | 9 => C9
    | 10 => C10
    | 11 => C11
    | 12 => C12
    | _ => 0
  let inf : Nat → Addr := fun i => match i with
    | 0 => I0
    | 1 => I1
    | 2 => I2
    | 3 => I3
    | 4 => I4
    | 5 => I5
    | 6 => I6
    | 7 => I7
    | 8 => I8
    | 9 => I9
    | 10 => I10
    | 11 => I11
    | 12 => I12
    | _ => 0
  have xc : ∀ i, i < 13 → ExcC K (cf i) := fun i hi => match i, hi with
    | 0, _ => X0
    | 1, _ => X1
    | 2, _ => X2
    | 3, _ => X3
    | 4, _ => X4
    | 5, _ => X5
    | 6, _ => X6
    | 7, _ => X7
    | 8, _ => X8
    | 9, _ => X9
    | 10, _ => X10
    | 11, _ => X11
    | 12, _ => X12
  have kit : ∀ i j, i < 13 → j < 13 → PySem.W.kitOne K (.ref (cf i)) (.ref (cf j)) = some (decide (j = i)) := fun i j hi hj => match i, j, hi, hj with
    | 0, 0, _, _ => kit_sub s0_0 s0_0 ic0 tC0
    | 0, 1, _, _ => kit_sub s0_1 s1_1 ic1 tC1
    | 0, 2, _, _ => kit_sub s0_2 s2_2 ic2 tC2
    | 0, 3, _, _ => kit_sub s0_3 s3_3 ic3 tC3
    | 0, 4, _, _ => kit_sub s0_4 s4_4 ic4 tC4
    | 0, 5, _, _ => kit_sub s0_5 s5_5 ic5 tC5
    | 0, 6, _, _ => kit_sub s0_6 s6_6 ic6 tC6
    | 0, 7, _, _ => kit_sub s0_7 s7_7 ic7 tC7
    | 0, 8, _, _ => kit_sub s0_8 s8_8 ic8 tC8
    | 0, 9, _, _ => kit_sub s0_9 s9_9 ic9 tC9
    | 0, 10, _, _ => kit_sub s0_10 s10_10 ic10 tC10
    | 0, 11, _, _ => kit_sub s0_11 s11_11 ic11 tC11
    | 0, 12, _, _ => kit_sub s0_12 s12_12 ic12 tC12
    | 1, 0, _, _ => kit_sub s1_0 s0_0 ic0 tC0
    | 1, 1, _, _ => kit_sub s1_1 s1_1 ic1 tC1
    | 1, 2, _, _ => kit_sub s1_2 s2_2 ic2 tC2
    | 1, 3, _, _ => kit_sub s1_3 s3_3 ic3 tC3
    | 1, 4, _, _ => kit_sub s1_4 s4_4 ic4 tC4
    | 1, 5, _, _ => kit_sub s1_5 s5_5 ic5 tC5
    | 1, 6, _, _ => kit_sub s1_6 s6_6 ic6 tC6
    | 1, 7, _, _ => kit_sub s1_7 s7_7 ic7 tC7
    | 1, 8, _, _ => kit_sub s1_8 s8_8 ic8 tC8
    | 1, 9, _, _ => kit_sub s1_9 s9_9 ic9 tC9
    | 1, 10, _, _ => kit_sub s1_10 s10_10 ic10 tC10
    | 1, 11, _, _ => kit_sub s1_11 s11_11 ic11 tC11
    | 1, 12, _, _ => kit_sub s1_12 s12_12 ic12 tC12
    | 2, 0, _, _ => kit_sub s2_0 s0_0 ic0 tC0
    | 2, 1, _, _ => kit_sub s2_1 s1_1 ic1 tC1
    | 2, 2, _, _ => kit_sub s2_2 s2_2 ic2 tC2
    | 2, 3, _, _ => kit_sub s2_3 s3_3 ic3 tC3
    | 2, 4, _, _ => kit_sub s2_4 s4_4 ic4 tC4
    | 2, 5, _, _ => kit_sub s2_5 s5_5 ic5 tC5
    | 2, 6, _, _ => kit_sub s2_6 s6_6 ic6 tC6
    | 2, 7, _, _ => kit_sub s2_7 s7_7 ic7 tC7
    | 2, 8, _, _ => kit_sub s2_8 s8_8 ic8 tC8
    | 2, 9, _, _ => kit_sub s2_9 s9_9 ic9 tC9
    | 2, 10, _, _ => kit_sub s2_10 s10_10 ic10 tC10
    | 2, 11, _, _ => kit_sub s2_11 s11_11 ic11 tC11
    | 2, 12, _, _ => kit_sub s2_12 s12_12 ic12 tC12
    | 3, 0, _, _ => kit_sub s3_0 s0_0 ic0 tC0
    | 3, 1, _, _ => kit_sub s3_1 s1_1 ic1 tC1
    | 3, 2, _, _ => kit_sub s3_2 s2_2 ic2 tC2
    | 3, 3, _, _ => kit_sub s3_3 s3_3 ic3 tC3
    | 3, 4, _, _ => kit_sub s3_4 s4_4 ic4 tC4
    | 3, 5, _, _ => kit_sub s3_5 s5_5 ic5 tC5
    | 3, 6, _, _ => kit_sub s3_6 s6_6 ic6 tC6
    | 3, 7, _, _ => kit_sub s3_7 s7_7 ic7 tC7
    | 3, 8, _, _ => kit_sub s3_8 s8_8 ic8 tC8
    | 3, 9, _, _ => kit_sub s3_9 s9_9 ic9 tC9
    | 3, 10, _, _ => kit_sub s3_10 s10_10 ic10 tC10
    | 3, 11, _, _ => kit_sub s3_11 s11_11 ic11 tC11
    | 3, 12, _, _ => kit_sub s3_12 s12_12 ic12 tC12
    | 4, 0, _, _ => kit_sub s4_0 s0_0 ic0 tC0
    | 4, 1, _, _ => kit_sub s4_1 s1_1 ic1 tC1
    | 4, 2, _, _ => kit_sub s4_2 s2_2 ic2 tC2
    | 4, 3, _, _ => kit_sub s4_3 s3_3 ic3 tC3
    | 4, 4, _, _ => kit_sub s4_4 s4_4 ic4 tC4
    | 4, 5, _, _ => kit_sub s4_5 s5_5 ic5 tC5
    | 4, 6, _, _ => kit_sub s4_6 s6_6 ic6 tC6
    | 4, 7, _, _ => kit_sub s4_7 s7_7 ic7 tC7
    | 4, 8, _, _ => kit_sub s4_8 s8_8 ic8 tC8
    | 4, 9, _, _ => kit_sub s4_9 s9_9 ic9 tC9
    | 4, 10, _, _ => kit_sub s4_10 s10_10 ic10 tC10
    | 4, 11, _, _ => kit_sub s4_11 s11_11 ic11 tC11
    | 4, 12, _, _ => kit_sub s4_12 s12_12 ic12 tC12
    | 5, 0, _, _ => kit_sub s5_0 s0_0 ic0 tC0
    | 5, 1, _, _ => kit_sub s5_1 s1_1 ic1 tC1
    | 5, 2, _, _ => kit_sub s5_2 s2_2 ic2 tC2
    | 5, 3, _, _ => kit_sub s5_3 s3_3 ic3 tC3
    | 5, 4, _, _ => kit_sub s5_4 s4_4 ic4 tC4
    | 5, 5, _, _ => kit_sub s5_5 s5_5 ic5 tC5
    | 5, 6, _, _ => kit_sub s5_6 s6_6 ic6 tC6
    | 5, 7, _, _ => kit_sub s5_7 s7_7 ic7 tC7
    | 5, 8, _, _ => kit_sub s5_8 s8_8 ic8 tC8
    | 5, 9, _, _ => kit_sub s5_9 s9_9 ic9 tC9
    | 5, 10, _, _ => kit_sub s5_10 s10_10 ic10 tC10
    | 5, 11, _, _ => kit_sub s5_11 s11_11 ic11 tC11
    | 5, 12, _, _ => kit_sub s5_12 s12_12 ic12 tC12
    | 6, 0, _, _ => kit_sub s6_0 s0_0 ic0 tC0
    | 6, 1, _, _ => kit_sub s6_1 s1_1 ic1 tC1
    | 6, 2, _, _ => kit_sub s6_2 s2_2 ic2 tC2
    | 6, 3, _, _ => kit_sub s6_3 s3_3 ic3 tC3
    | 6, 4, _, _ => kit_sub s6_4 s4_4 ic4 tC4
    | 6, 5, _, _ => kit_sub s6_5 s5_5 ic5 tC5
    | 6, 6, _, _ => kit_sub s6_6 s6_6 ic6 tC6
    | 6, 7, _, _ => kit_sub s6_7 s7_7 ic7 tC7
    | 6, 8, _, _ => kit_sub s6_8 s8_8 ic8 tC8
    | 6, 9, _, _ => kit_sub s6_9 s9_9 ic9 tC9
    | 6, 10, _, _ => kit_sub s6_10 s10_10 ic10 tC10
    | 6, 11, _, _ => kit_sub s6_11 s11_11 ic11 tC11
    | 6, 12, _, _ => kit_sub s6_12 s12_12 ic12 tC12
    | 7, 0, _, _ => kit_sub s7_0 s0_0 ic0 tC0
    | 7, 1, _, _ => kit_sub s7_1 s1_1 ic1 tC1
    | 7, 2, _, _ => kit_sub s7_2 s2_2 ic2 tC2
    | 7, 3, _, _ => kit_sub s7_3 s3_3 ic3 tC3
    | 7, 4, _, _ => kit_sub s7_4 s4_4 ic4 tC4
    | 7, 5, _, _ => kit_sub s7_5 s5_5 ic5 tC5
    | 7, 6, _, _ => kit_sub s7_6 s6_6 ic6 tC6
    | 7, 7, _, _ => kit_sub s7_7 s7_7 ic7 tC7
    | 7, 8, _, _ => kit_sub s7_8 s8_8 ic8 tC8
    | 7, 9, _, _ => kit_sub s7_9 s9_9 ic9 tC9
    | 7, 10, _, _ => kit_sub s7_10 s10_10 ic10 tC10
    | 7, 11, _, _ => kit_sub s7_11 s11_11 ic11 tC11
    | 7, 12, _, _ => kit_sub s7_12 s12_12 ic12 tC12
    | 8, 0, _, _ => kit_sub s8_0 s0_0 ic0 tC0
    | 8, 1, _, _ => kit_sub s8_1 s1_1 ic1 tC1
    | 8, 2, _, _ => kit_sub s8_2 s2_2 ic2 tC2
    | 8, 3, _, _ => kit_sub s8_3 s3_3 ic3 tC3
    | 8, 4, _, _ => kit_sub s8_4 s4_4 ic4 tC4
    | 8, 5, _, _ => kit_sub s8_5 s5_5 ic5 tC5
    | 8, 6, _, _ => kit_sub s8_6 s6_6 ic6 tC6
    | 8, 7, _, _ => kit_sub s8_7 s7_7 ic7 tC7
    | 8, 8, _, _ => kit_sub s8_8 s8_8 ic8 tC8
    | 8, 9, _, _ => kit_sub s8_9 s9_9 ic9 tC9
    | 8, 10, _, _ => kit_sub s8_10 s10_10 ic10 tC10
    | 8, 11, _, _ => kit_sub s8_11 s11_11 ic11 tC11
    | 8, 12, _, _ => kit_sub s8_12 s12_12 ic12 tC12
    | 9, 0, _, _ => kit_sub s9_0 s0_0 ic0 tC0
    | 9, 1, _, _ => kit_sub s9_1 s1_1 ic1 tC1
    | 9, 2, _, _ => kit_sub s9_2 s2_2 ic2 tC2
    | 9, 3, _, _ => kit_sub s9_3 s3_3 ic3 tC3
    | 9, 4, _, _ => kit_sub s9_4 s4_4 ic4 tC4
    | 9, 5, _, _ => kit_sub s9_5 s5_5 ic5 tC5
    | 9, 6, _, _ => kit_sub s9_6 s6_6 ic6 tC6
    | 9, 7, _, _ => kit_sub s9_7 s7_7 ic7 tC7
    | 9, 8, _, _ => kit_sub s9_8 s8_8 ic8 tC8
    | 9, 9, _, _ => kit_sub s9_9 s9_9 ic9 tC9
    | 9, 10, _, _ => kit_sub s9_10 s10_10 ic10 tC10
    | 9, 11, _, _ => kit_sub s9_11 s11_11 ic11 tC11
    | 9, 12, _, _ => kit_sub s9_12 s12_12 ic12 tC12
    | 10, 0, _, _ => kit_sub s10_0 s0_0 ic0 tC0
    | 10, 1, _, _ => kit_sub s10_1 s1_1 ic1 tC1
    | 10, 2, _, _ => kit_sub s10_2 s2_2 ic2 tC2
    | 10, 3, _, _ => kit_sub s10_3 s3_3 ic3 tC3
    | 10, 4, _, _ => kit_sub s10_4 s4_4 ic4 tC4
    | 10, 5, _, _ => kit_sub s10_5 s5_5 ic5 tC5
    | 10, 6, _, _ => kit_sub s10_6 s6_6 ic6 tC6
    | 10, 7, _, _ => kit_sub s10_7 s7_7 ic7 tC7
    | 10, 8, _, _ => kit_sub s10_8 s8_8 ic8 tC8
    | 10, 9, _, _ => kit_sub s10_9 s9_9 ic9 tC9
    | 10, 10, _, _ => kit_sub s10_10 s10_10 ic10 tC10
    | 10, 11, _, _ => kit_sub s10_11 s11_11 ic11 tC11
    | 10, 12, _, _ => kit_sub s10_12 s12_12 ic12 tC12
    | 11, 0, _, _ => kit_sub s11_0 s0_0 ic0 tC0
    | 11, 1, _, _ => kit_sub s11_1 s1_1 ic1 tC1
    | 11, 2, _, _ => kit_sub s11_2 s2_2 ic2 tC2
    | 11, 3, _, _ => kit_sub s11_3 s3_3 ic3 tC3
    | 11, 4, _, _ => kit_sub s11_4 s4_4 ic4 tC4
    | 11, 5, _, _ => kit_sub s11_5 s5_5 ic5 tC5
    | 11, 6, _, _ => kit_sub s11_6 s6_6 ic6 tC6
    | 11, 7, _, _ => kit_sub s11_7 s7_7 ic7 tC7
    | 11, 8, _, _ => kit_sub s11_8 s8_8 ic8 tC8
    | 11, 9, _, _ => kit_sub s11_9 s9_9 ic9 tC9
    | 11, 10, _, _ => kit_sub s11_10 s10_10 ic10 tC10
    | 11, 11, _, _ => kit_sub s11_11 s11_11 ic11 tC11
    | 11, 12, _, _ => kit_sub s11_12 s12_12 ic12 tC12
    | 12, 0, _, _ => kit_sub s12_0 s0_0 ic0 tC0
    | 12, 1, _, _ => kit_sub s12_1 s1_1 ic1 tC1
    | 12, 2, _, _ => kit_sub s12_2 s2_2 ic2 tC2
    | 12, 3, _, _ => kit_sub s12_3 s3_3 ic3 tC3
    | 12, 4, _, _ => kit_sub s12_4 s4_4 ic4 tC4
    | 12, 5, _, _ => kit_sub s12_5 s5_5 ic5 tC5
    | 12, 6, _, _ => kit_sub s12_6 s6_6 ic6 tC6
    | 12, 7, _, _ => kit_sub s12_7 s7_7 ic7 tC7
    | 12, 8, _, _ => kit_sub s12_8 s8_8 ic8 tC8
    | 12, 9, _, _ => kit_sub s12_9 s9_9 ic9 tC9
    | 12, 10, _, _ => kit_sub s12_10 s10_10 ic10 tC10
    | 12, 11, _, _ => kit_sub s12_11 s11_11 ic11 tC11
    | 12, 12, _, _ => kit_sub s12_12 s12_12 ic12 tC12
  have kitY : ∀ i, i < 13 → PySem.W.kitOne K (.ref (cf i)) (.ref CY) = some true := fun i hi => match i, hi with
    | 0, _ => kit_sub y0 sY iY tY
    | 1, _ => kit_sub y1 sY iY tY
    | 2, _ => kit_sub y2 sY iY tY
    | 3, _ => kit_sub y3 sY iY tY
    | 4, _ => kit_sub y4 sY iY tY
    | 5, _ => kit_sub y5 sY iY tY
    | 6, _ => kit_sub y6 sY iY tY
    | 7, _ => kit_sub y7 sY iY tY
    | 8, _ => kit_sub y8 sY iY tY
    | 9, _ => kit_sub y9 sY iY tY
    | 10, _ => kit_sub y10 sY iY tY
    | 11, _ => kit_sub y11 sY iY tY
    | 12, _ => kit_sub y12 sY iY tY
  have kitV : ∀ i, i < 13 → PySem.W.kitOne K (.ref (cf i)) (.type "ValueError") = some true := fun i hi => match i, hi with
    | 0, _ => kit_typ v0 (by decide +kernel)
    | 1, _ => kit_typ v1 (by decide +kernel)
    | 2, _ => kit_typ v2 (by decide +kernel)
    | 3, _ => kit_typ v3 (by decide +kernel)
    | 4, _ => kit_typ v4 (by decide +kernel)
    | 5, _ => kit_typ v5 (by decide +kernel)
    | 6, _ => kit_typ v6 (by decide +kernel)
    | 7, _ => kit_typ v7 (by decide +kernel)
    | 8, _ => kit_typ v8 (by decide +kernel)
    | 9, _ => kit_typ v9 (by decide +kernel)
    | 10, _ => kit_typ v10 (by decide +kernel)
    | 11, _ => kit_typ v11 (by decide +kernel)
    | 12, _ => kit_typ v12 (by decide +kernel)
  have exm : ∀ i, i < 13 → PySem.W.exmOne K (.ref (cf i)) (.ref CY) = some true := fun i hi => match i, hi with
    | 0, _ => PySem.W.exm_ref eY hY tY y0
    | 1, _ => PySem.W.exm_ref eY hY tY y1
    | 2, _ => PySem.W.exm_ref eY hY tY y2
    | 3, _ => PySem.W.exm_ref eY hY tY y3
    | 4, _ => PySem.W.exm_ref eY hY tY y4
    | 5, _ => PySem.W.exm_ref eY hY tY y5
    | 6, _ => PySem.W.exm_ref eY hY tY y6
    | 7, _ => PySem.W.exm_ref eY hY tY y7
    | 8, _ => PySem.W.exm_ref eY hY tY y8
    | 9, _ => PySem.W.exm_ref eY hY tY y9
    | 10, _ => PySem.W.exm_ref eY hY tY y10
    | 11, _ => PySem.W.exm_ref eY hY tY y11
    | 12, _ => PySem.W.exm_ref eY hY tY y12
  let T : Txt K mg := { B := B, f__law_draw := f0, fd__law_draw := _, D__law_draw := D0, f__law_pick := f1, fd__law_pick := _, D__law_pick := D1, f__law_object := f2, fd__law_object := _, D__law_object := D2, f__law_copied := f3, fd__law_copied := _, D__law_copied := D3, f__law_same := f4, fd__law_same := _, D__law_same := D4, f__law_fields := f5, fd__law_fields := _, D__law_fields := D5, f__law_errors := f6, fd__law_errors := _, D__law_errors := D6, f__law_classes := f7, fd__law_classes := _, D__law_classes := D7, f__law_caught := f8, fd__law_caught := _, D__law_caught := D8, f__law_raised := f9, fd__law_raised := _, D__law_raised := D9, f_law := f10, fd_law := _, D_law := D10, c := cf, ini := inf, E_BadLevel := E0, E_BadName := E1, E_BadExtra := E2, E_BadMessage := E3, E_BadField := E4, E_BadFormat := E5, E_BadStyle := E6, E_BadMode := E7, E_BadWhen := E8, E_BadSettings := E9, E_NotJudged := E10, E_BadCuts := E11, E_BadDeed := E12, xc := xc, kit := kit, cY := CY, gY := PySem.W.mg_of X G aY, kitY := kitY, kitV := kitV, exm := exm }
  exact ⟨_, fun s v => .of_eq rfl, fun base _ _ => ok_law T⟩
theorem walk {l : PySem.W.OpenLaw} {q : Program} {loose : List Str} {XP : (Str → Option Value) → Heap → Prop} {YP : World → Heap → Prop} {d : DefRec} {K : Params → PySem.W.Frag} (hn : l.most = some 63) (hdf : d.params.defaults = [])
    (hY : ∀ (w : World) (h : Heap), YP w h → (K w.params).In h)
    (F : ∀ (w : World) (mg : Str → Option Value) (fa : Addr) (h : Heap), (K w.params).In h → h.Ns mainGlobals mg → mg d.name = some (.ref fa) →
      ∃ fd : FuncData, (∀ (s : Shared) (u : Value), BindsTo s fd ⟨[u], []⟩ [("_law_script", u)]) ∧ ∀ base : Heap, (K w.params).In base → base.Ns mainGlobals mg → FnOk l.prog w (K w.params) mg base CX0 7 fa fd ["_law_script"] (spLaw (K w.params))) :
    PySem.W.WalkO q loose XP YP l.row.toRowW d [] (fun f vs => PySem.call f vs) :=
  L2.walk_of (n := 63) (k := 7) (x := "_law_script") (CX := fun _ => CX0) (sp := fun w => spLaw (K w.params)) hn (by decide) hdf ⟨rfl, by decide, by decide⟩ hY F
    (fun _ _ a ns hl _ hS => .a ⟨a, ns, rfl, hS, hl, fun _ => rfl⟩) fun _ _ _ _ _ z => z
end My
open PySem PySem.W PyProof.Rows
set_option maxRecDepth 100000 in
set_option maxHeartbeats 0 in
theorem PySem.Challenge.cw_recordyard_k01_errors_made_holds : PySem.Challenge.rw_recordyard_k01_errors_made.Holds := by
  w_on; o_law; k_head; (case hw => w_witness2)
  k_fill
  refine My.walk (l := PySem.Challenge.rw_recordyard_k01_errors_made) rfl rfl (fun w h Y => PySem.W.kIn_of Y) ?F
  case F =>
    intro w mg fa h KX G hmg
    refine' My.all_mk KX G hmg ?a0 ?l0 ?c0 ?k0 ?a1 ?l1 ?c1 ?k1 ?a2 ?l2 ?c2 ?k2 ?a3 ?l3 ?c3 ?k3 ?a4 ?l4 ?c4 ?k4 ?a5 ?l5 ?c5 ?k5 ?a6 ?l6 ?c6 ?k6 ?a7 ?l7 ?c7 ?k7 ?a8 ?l8 ?c8 ?k8 ?a9 ?l9 ?c9 ?k9 ?a10 ?l10 ?c10 ?k10 ?z_ValueError ?z_all ?z_bool ?z_dict ?z_enumerate ?z_int ?z_isinstance ?z_len ?z_list ?z_range ?z_sorted ?z_tuple ?z_zip ?aY ?tY ?iY ?hY ?eY ?sY ?hn ?htk ?aC0 ?x0 ?r0 ?sa0 ?nf0 ?ga0 ?gg0 ?iC0 ?tI0 ?kC0 ?eC0 ?tC0 ?hC0 ?ic0 ?cl0 ?mo0 ?li0 ?ci0 ?y0 ?v0 ?aC1 ?x1 ?r1 ?sa1 ?nf1 ?ga1 ?gg1 ?iC1 ?tI1 ?kC1 ?eC1 ?tC1 ?hC1 ?ic1 ?cl1 ?mo1 ?li1 ?ci1 ?y1 ?v1 ?aC2 ?x2 ?r2 ?sa2 ?nf2 ?ga2 ?gg2 ?iC2 ?tI2 ?kC2 ?eC2 ?tC2 ?hC2 ?ic2 ?cl2 ?mo2 ?li2 ?ci2 ?y2 ?v2 ?aC3 ?x3 ?r3 ?sa3 ?nf3 ?ga3 ?gg3 ?iC3 ?tI3 ?kC3 ?eC3 ?tC3 ?hC3 ?ic3 ?cl3 ?mo3 ?li3 ?ci3 ?y3 ?v3 ?aC4 ?x4 ?r4 ?sa4 ?nf4 ?ga4 ?gg4 ?iC4 ?tI4 ?kC4 ?eC4 ?tC4 ?hC4 ?ic4 ?cl4 ?mo4 ?li4 ?ci4 ?y4 ?v4 ?aC5 ?x5 ?r5 ?sa5 ?nf5 ?ga5 ?gg5 ?iC5 ?tI5 ?kC5 ?eC5 ?tC5 ?hC5 ?ic5 ?cl5 ?mo5 ?li5 ?ci5 ?y5 ?v5 ?aC6 ?x6 ?r6 ?sa6 ?nf6 ?ga6 ?gg6 ?iC6 ?tI6 ?kC6 ?eC6 ?tC6 ?hC6 ?ic6 ?cl6 ?mo6 ?li6 ?ci6 ?y6 ?v6 ?aC7 ?x7 ?r7 ?sa7 ?nf7 ?ga7 ?gg7 ?iC7 ?tI7 ?kC7 ?eC7 ?tC7 ?hC7 ?ic7 ?cl7 ?mo7 ?li7 ?ci7 ?y7 ?v7 ?aC8 ?x8 ?r8 ?sa8 ?nf8 ?ga8 ?gg8 ?iC8 ?tI8 ?kC8 ?eC8 ?tC8 ?hC8 ?ic8 ?cl8 ?mo8 ?li8 ?ci8 ?y8 ?v8 ?aC9 ?x9 ?r9 ?sa9 ?nf9 ?ga9 ?gg9 ?iC9 ?tI9 ?kC9 ?eC9 ?tC9 ?hC9 ?ic9 ?cl9 ?mo9 ?li9 ?ci9 ?y9 ?v9 ?aC10 ?x10 ?r10 ?sa10 ?nf10 ?ga10 ?gg10 ?iC10 ?tI10 ?kC10 ?eC10 ?tC10 ?hC10 ?ic10 ?cl10 ?mo10 ?li10 ?ci10 ?y10 ?v10 ?aC11 ?x11 ?r11 ?ga11 ?gg11 ?iC11 ?tI11 ?kC11 ?eC11 ?tC11 ?hC11 ?ic11 ?cl11 ?mo11 ?li11 ?ci11 ?y11 ?v11 ?aC12 ?x12 ?r12 ?sa12 ?nf12 ?ga12 ?gg12 ?iC12 ?tI12 ?kC12 ?eC12 ?tC12 ?hC12 ?ic12 ?cl12 ?mo12 ?li12 ?ci12 ?y12 ?v12 ?s0_0 ?s0_1 ?s0_2 ?s0_3 ?s0_4 ?s0_5 ?s0_6 ?s0_7 ?s0_8 ?s0_9 ?s0_10 ?s0_11 ?s0_12 ?s1_0 ?s1_1 ?s1_2 ?s1_3 ?s1_4 ?s1_5 ?s1_6 ?s1_7 ?s1_8 ?s1_9 ?s1_10 ?s1_11 ?s1_12 ?s2_0 ?s2_1 ?s2_2 ?s2_3 ?s2_4 ?s2_5 ?s2_6 ?s2_7 ?s2_8 ?s2_9 ?s2_10 ?s2_11 ?s2_12 ?s3_0 ?s3_1 ?s3_2 ?s3_3 ?s3_4 ?s3_5 ?s3_6 ?s3_7 ?s3_8 ?s3_9 ?s3_10 ?s3_11 ?s3_12 ?s4_0 ?s4_1 ?s4_2 ?s4_3 ?s4_4 ?s4_5 ?s4_6 ?s4_7 ?s4_8 ?s4_9 ?s4_10 ?s4_11 ?s4_12 ?s5_0 ?s5_1 ?s5_2 ?s5_3 ?s5_4 ?s5_5 ?s5_6 ?s5_7 ?s5_8 ?s5_9 ?s5_10 ?s5_11 ?s5_12 ?s6_0 ?s6_1 ?s6_2 ?s6_3 ?s6_4 ?s6_5 ?s6_6 ?s6_7 ?s6_8 ?s6_9 ?s6_10 ?s6_11 ?s6_12 ?s7_0 ?s7_1 ?s7_2 ?s7_3 ?s7_4 ?s7_5 ?s7_6 ?s7_7 ?s7_8 ?s7_9 ?s7_10 ?s7_11 ?s7_12 ?s8_0 ?s8_1 ?s8_2 ?s8_3 ?s8_4 ?s8_5 ?s8_6 ?s8_7 ?s8_8 ?s8_9 ?s8_10 ?s8_11 ?s8_12 ?s9_0 ?s9_1 ?s9_2 ?s9_3 ?s9_4 ?s9_5 ?s9_6 ?s9_7 ?s9_8 ?s9_9 ?s9_10 ?s9_11 ?s9_12 ?s10_0 ?s10_1 ?s10_2 ?s10_3 ?s10_4 ?s10_5 ?s10_6 ?s10_7 ?s10_8 ?s10_9 ?s10_10 ?s10_11 ?s10_12 ?s11_0 ?s11_1 ?s11_2 ?s11_3 ?s11_4 ?s11_5 ?s11_6 ?s11_7 ?s11_8 ?s11_9 ?s11_10 ?s11_11 ?s11_12 ?s12_0 ?s12_1 ?s12_2 ?s12_3 ?s12_4 ?s12_5 ?s12_6 ?s12_7 ?s12_8 ?s12_9 ?s12_10 ?s12_11 ?s12_12
    (case a0 => k_is)
    (case l0 => k_is)
    (case c0 => k_is)
    (case k0 => k_is)
    (case a1 => k_is)
    (case l1 => k_is)
    (case c1 => k_is)
    (case k1 => k_is)
    (case a2 => k_is)
    (case l2 => k_is)
    (case c2 => k_is)
    (case k2 => k_is)
    (case a3 => k_is)
    (case l3 => k_is)
    (case c3 => k_is)
    (case k3 => k_is)
    (case a4 => k_is)
    (case l4 => k_is)
    (case c4 => k_is)
    (case k4 => k_is)
    (case a5 => k_is)
    (case l5 => k_is)
    (case c5 => k_is)
    (case k5 => k_is)
    (case a6 => k_is)
    (case l6 => k_is)
    (case c6 => k_is)
    (case k6 => k_is)
    (case a7 => k_is)
    (case l7 => k_is)
    (case c7 => k_is)
    (case k7 => k_is)
    (case a8 => k_is)
    (case l8 => k_is)
    (case c8 => k_is)
    (case k8 => k_is)
    (case a9 => k_is)
    (case l9 => k_is)
    (case c9 => k_is)
    (case k9 => k_is)
    (case a10 => k_is)
    (case l10 => k_is)
    (case c10 => k_is)
    (case k10 => k_is)
    (case z_ValueError => k_is)
    (case z_all => k_is)
    (case z_bool => k_is)
    (case z_dict => k_is)
    (case z_enumerate => k_is)
    (case z_int => k_is)
    (case z_isinstance => k_is)
    (case z_len => k_is)
    (case z_list => k_is)
    (case z_range => k_is)
    (case z_sorted => k_is)
    (case z_tuple => k_is)
    (case z_zip => k_is)
    (case aY => k_is)
    (case tY => k_is)
    (case iY => k_is)
    (case hY => k_is)
    (case eY => k_is)
    (case sY => k_is)
    (case hn => k_is)
    (case htk => k_is)
    (case aC0 => k_is)
    (case x0 => k_is)
    (case r0 => rfl)
    (case sa0 => k_is)
    (case nf0 => k_is)
    (case ga0 => k_is)
    (case gg0 => k_is)
    (case iC0 => k_is)
    (case tI0 => k_is)
    (case kC0 => k_is)
    (case eC0 => k_is)
    (case tC0 => k_is)
    (case hC0 => k_is)
    (case ic0 => k_is)
    (case cl0 => k_is)
    (case mo0 => k_is)
    (case li0 => k_is)
    (case ci0 => k_is)
    (case y0 => k_is)
    (case v0 => k_is)
    (case aC1 => k_is)
    (case x1 => k_is)
    (case r1 => rfl)
    (case sa1 => k_is)
    (case nf1 => k_is)
    (case ga1 => k_is)
    (case gg1 => k_is)
    (case iC1 => k_is)
    (case tI1 => k_is)
    (case kC1 => k_is)
    (case eC1 => k_is)
    (case tC1 => k_is)
    (case hC1 => k_is)
    (case ic1 => k_is)
    (case cl1 => k_is)
    (case mo1 => k_is)
    (case li1 => k_is)
    (case ci1 => k_is)
    (case y1 => k_is)
    (case v1 => k_is)
    (case aC2 => k_is)
    (case x2 => k_is)
    (case r2 => rfl)
    (case sa2 => k_is)
    (case nf2 => k_is)
    (case ga2 => k_is)
    (case gg2 => k_is)
    (case iC2 => k_is)
    (case tI2 => k_is)
    (case kC2 => k_is)
    (case eC2 => k_is)
    (case tC2 => k_is)
    (case hC2 => k_is)
    (case ic2 => k_is)
    (case cl2 => k_is)
    (case mo2 => k_is)
    (case li2 => k_is)
    (case ci2 => k_is)
    (case y2 => k_is)
    (case v2 => k_is)
    (case aC3 => k_is)
    (case x3 => k_is)
    (case r3 => rfl)
    (case sa3 => k_is)
    (case nf3 => k_is)
    (case ga3 => k_is)
    (case gg3 => k_is)
    (case iC3 => k_is)
    (case tI3 => k_is)
    (case kC3 => k_is)
    (case eC3 => k_is)
    (case tC3 => k_is)
    (case hC3 => k_is)
    (case ic3 => k_is)
    (case cl3 => k_is)
    (case mo3 => k_is)
    (case li3 => k_is)
    (case ci3 => k_is)
    (case y3 => k_is)
    (case v3 => k_is)
    (case aC4 => k_is)
    (case x4 => k_is)
    (case r4 => rfl)
    (case sa4 => k_is)
    (case nf4 => k_is)
    (case ga4 => k_is)
    (case gg4 => k_is)
    (case iC4 => k_is)
    (case tI4 => k_is)
    (case kC4 => k_is)
    (case eC4 => k_is)
    (case tC4 => k_is)
    (case hC4 => k_is)
    (case ic4 => k_is)
    (case cl4 => k_is)
    (case mo4 => k_is)
    (case li4 => k_is)
    (case ci4 => k_is)
    (case y4 => k_is)
    (case v4 => k_is)
    (case aC5 => k_is)
    (case x5 => k_is)
    (case r5 => rfl)
    (case sa5 => k_is)
    (case nf5 => k_is)
    (case ga5 => k_is)
    (case gg5 => k_is)
    (case iC5 => k_is)
    (case tI5 => k_is)
    (case kC5 => k_is)
    (case eC5 => k_is)
    (case tC5 => k_is)
    (case hC5 => k_is)
    (case ic5 => k_is)
    (case cl5 => k_is)
    (case mo5 => k_is)
    (case li5 => k_is)
    (case ci5 => k_is)
    (case y5 => k_is)
    (case v5 => k_is)
    (case aC6 => k_is)
    (case x6 => k_is)
    (case r6 => rfl)
    (case sa6 => k_is)
    (case nf6 => k_is)
    (case ga6 => k_is)
    (case gg6 => k_is)
    (case iC6 => k_is)
    (case tI6 => k_is)
    (case kC6 => k_is)
    (case eC6 => k_is)
    (case tC6 => k_is)
    (case hC6 => k_is)
    (case ic6 => k_is)
    (case cl6 => k_is)
    (case mo6 => k_is)
    (case li6 => k_is)
    (case ci6 => k_is)
    (case y6 => k_is)
    (case v6 => k_is)
    (case aC7 => k_is)
    (case x7 => k_is)
    (case r7 => rfl)
    (case sa7 => k_is)
    (case nf7 => k_is)
    (case ga7 => k_is)
    (case gg7 => k_is)
    (case iC7 => k_is)
    (case tI7 => k_is)
    (case kC7 => k_is)
    (case eC7 => k_is)
    (case tC7 => k_is)
    (case hC7 => k_is)
    (case ic7 => k_is)
    (case cl7 => k_is)
    (case mo7 => k_is)
    (case li7 => k_is)
    (case ci7 => k_is)
    (case y7 => k_is)
    (case v7 => k_is)
    (case aC8 => k_is)
    (case x8 => k_is)
    (case r8 => rfl)
    (case sa8 => k_is)
    (case nf8 => k_is)
    (case ga8 => k_is)
    (case gg8 => k_is)
    (case iC8 => k_is)
    (case tI8 => k_is)
    (case kC8 => k_is)
    (case eC8 => k_is)
    (case tC8 => k_is)
    (case hC8 => k_is)
    (case ic8 => k_is)
    (case cl8 => k_is)
    (case mo8 => k_is)
    (case li8 => k_is)
    (case ci8 => k_is)
    (case y8 => k_is)
    (case v8 => k_is)
    (case aC9 => k_is)
    (case x9 => k_is)
    (case r9 => rfl)
    (case sa9 => k_is)
    (case nf9 => k_is)
    (case ga9 => k_is)
    (case gg9 => k_is)
    (case iC9 => k_is)
    (case tI9 => k_is)
    (case kC9 => k_is)
    (case eC9 => k_is)
    (case tC9 => k_is)
    (case hC9 => k_is)
    (case ic9 => k_is)
    (case cl9 => k_is)
    (case mo9 => k_is)
    (case li9 => k_is)
    (case ci9 => k_is)
    (case y9 => k_is)
    (case v9 => k_is)
    (case aC10 => k_is)
    (case x10 => k_is)
    (case r10 => rfl)
    (case sa10 => k_is)
    (case nf10 => k_is)
    (case ga10 => k_is)
    (case gg10 => k_is)
    (case iC10 => k_is)
    (case tI10 => k_is)
    (case kC10 => k_is)
    (case eC10 => k_is)
    (case tC10 => k_is)
    (case hC10 => k_is)
    (case ic10 => k_is)
    (case cl10 => k_is)
    (case mo10 => k_is)
    (case li10 => k_is)
    (case ci10 => k_is)
    (case y10 => k_is)
    (case v10 => k_is)
    (case aC11 => k_is)
    (case x11 => k_is)
    (case r11 => rfl)
    (case ga11 => k_is)
    (case gg11 => k_is)
    (case iC11 => k_is)
    (case tI11 => k_is)
    (case kC11 => k_is)
    (case eC11 => k_is)
    (case tC11 => k_is)
    (case hC11 => k_is)
    (case ic11 => k_is)
    (case cl11 => k_is)
    (case mo11 => k_is)
    (case li11 => k_is)
    (case ci11 => k_is)
    (case y11 => k_is)
    (case v11 => k_is)
    (case aC12 => k_is)
    (case x12 => k_is)
    (case r12 => rfl)
    (case sa12 => k_is)
    (case nf12 => k_is)
    (case ga12 => k_is)
    (case gg12 => k_is)
    (case iC12 => k_is)
    (case tI12 => k_is)
    (case kC12 => k_is)
    (case eC12 => k_is)
    (case tC12 => k_is)
    (case hC12 => k_is)
    (case ic12 => k_is)
    (case cl12 => k_is)
    (case mo12 => k_is)
    (case li12 => k_is)
    (case ci12 => k_is)
    (case y12 => k_is)
    (case v12 => k_is)
    (case s0_0 => k_is)
    (case s0_1 => k_is)
    (case s0_2 => k_is)
    (case s0_3 => k_is)
    (case s0_4 => k_is)
    (case s0_5 => k_is)
    (case s0_6 => k_is)
    (case s0_7 => k_is)
    (case s0_8 => k_is)
    (case s0_9 => k_is)
    (case s0_10 => k_is)
    (case s0_11 => k_is)
    (case s0_12 => k_is)
    (case s1_0 => k_is)
    (case s1_1 => k_is)
    (case s1_2 => k_is)
    (case s1_3 => k_is)
    (case s1_4 => k_is)
    (case s1_5 => k_is)
    (case s1_6 => k_is)
    (case s1_7 => k_is)
    (case s1_8 => k_is)
    (case s1_9 => k_is)
    (case s1_10 => k_is)
    (case s1_11 => k_is)
    (case s1_12 => k_is)
    (case s2_0 => k_is)
    (case s2_1 => k_is)
    (case s2_2 => k_is)
    (case s2_3 => k_is)
    (case s2_4 => k_is)
    (case s2_5 => k_is)
    (case s2_6 => k_is)
    (case s2_7 => k_is)
    (case s2_8 => k_is)
    (case s2_9 => k_is)
    (case s2_10 => k_is)
    (case s2_11 => k_is)
    (case s2_12 => k_is)
    (case s3_0 => k_is)
    (case s3_1 => k_is)
    (case s3_2 => k_is)
    (case s3_3 => k_is)
    (case s3_4 => k_is)
    (case s3_5 => k_is)
    (case s3_6 => k_is)
    (case s3_7 => k_is)
    (case s3_8 => k_is)
    (case s3_9 => k_is)
    (case s3_10 => k_is)
    (case s3_11 => k_is)
    (case s3_12 => k_is)
    (case s4_0 => k_is)
    (case s4_1 => k_is)
    (case s4_2 => k_is)
    (case s4_3 => k_is)
    (case s4_4 => k_is)
    (case s4_5 => k_is)
    (case s4_6 => k_is)
    (case s4_7 => k_is)
    (case s4_8 => k_is)
    (case s4_9 => k_is)
    (case s4_10 => k_is)
    (case s4_11 => k_is)
    (case s4_12 => k_is)
    (case s5_0 => k_is)
    (case s5_1 => k_is)
    (case s5_2 => k_is)
    (case s5_3 => k_is)
    (case s5_4 => k_is)
    (case s5_5 => k_is)
    (case s5_6 => k_is)
    (case s5_7 => k_is)
    (case s5_8 => k_is)
    (case s5_9 => k_is)
    (case s5_10 => k_is)
    (case s5_11 => k_is)
    (case s5_12 => k_is)
    (case s6_0 => k_is)
    (case s6_1 => k_is)
    (case s6_2 => k_is)
    (case s6_3 => k_is)
    (case s6_4 => k_is)
    (case s6_5 => k_is)
    (case s6_6 => k_is)
    (case s6_7 => k_is)
    (case s6_8 => k_is)
    (case s6_9 => k_is)
    (case s6_10 => k_is)
    (case s6_11 => k_is)
    (case s6_12 => k_is)
    (case s7_0 => k_is)
    (case s7_1 => k_is)
    (case s7_2 => k_is)
    (case s7_3 => k_is)
    (case s7_4 => k_is)
    (case s7_5 => k_is)
    (case s7_6 => k_is)
    (case s7_7 => k_is)
    (case s7_8 => k_is)
    (case s7_9 => k_is)
    (case s7_10 => k_is)
    (case s7_11 => k_is)
    (case s7_12 => k_is)
    (case s8_0 => k_is)
    (case s8_1 => k_is)
    (case s8_2 => k_is)
    (case s8_3 => k_is)
    (case s8_4 => k_is)
    (case s8_5 => k_is)
    (case s8_6 => k_is)
    (case s8_7 => k_is)
    (case s8_8 => k_is)
    (case s8_9 => k_is)
    (case s8_10 => k_is)
    (case s8_11 => k_is)
    (case s8_12 => k_is)
    (case s9_0 => k_is)
    (case s9_1 => k_is)
    (case s9_2 => k_is)
    (case s9_3 => k_is)
    (case s9_4 => k_is)
    (case s9_5 => k_is)
    (case s9_6 => k_is)
    (case s9_7 => k_is)
    (case s9_8 => k_is)
    (case s9_9 => k_is)
    (case s9_10 => k_is)
    (case s9_11 => k_is)
    (case s9_12 => k_is)
    (case s10_0 => k_is)
    (case s10_1 => k_is)
    (case s10_2 => k_is)
    (case s10_3 => k_is)
    (case s10_4 => k_is)
    (case s10_5 => k_is)
    (case s10_6 => k_is)
    (case s10_7 => k_is)
    (case s10_8 => k_is)
    (case s10_9 => k_is)
    (case s10_10 => k_is)
    (case s10_11 => k_is)
    (case s10_12 => k_is)
    (case s11_0 => k_is)
    (case s11_1 => k_is)
    (case s11_2 => k_is)
    (case s11_3 => k_is)
    (case s11_4 => k_is)
    (case s11_5 => k_is)
    (case s11_6 => k_is)
    (case s11_7 => k_is)
    (case s11_8 => k_is)
    (case s11_9 => k_is)
    (case s11_10 => k_is)
    (case s11_11 => k_is)
    (case s11_12 => k_is)
    (case s12_0 => k_is)
    (case s12_1 => k_is)
    (case s12_2 => k_is)
    (case s12_3 => k_is)
    (case s12_4 => k_is)
    (case s12_5 => k_is)
    (case s12_6 => k_is)
    (case s12_7 => k_is)
    (case s12_8 => k_is)
    (case s12_9 => k_is)
    (case s12_10 => k_is)
    (case s12_11 => k_is)
    (case s12_12 => k_is)
#print axioms PySem.Challenge.cw_recordyard_k01_errors_made_holds
