import PyProof.Rows.All
import Wide.All
import OpenK.AllK
import Wide.FinOn
import KE.KSuper
import HandS.Base
import HandS.Call
import HandS.Nested
import HandS.NestedK
import HandS.Words
import HandS.Codes
import HandS.More
import HandS.Dict
import HandS.ForMost
import HandS.ExcInit
import HandS.IsInst
import HandS.ExcIs
import HandS.ExcValue
import HandS.HotCalls
import HandS.ForExc
import HandS.Defaults
import HandS.Ends
import HandS.Head0
import HandS.Head1
import HandS.Head2
import HandS.HeadEnd
import HandS.HeadHook1
import HandS.HeadHook2
import HandS.AnyAll
import HandS.GenList
import HandS.Text
import HandS.StrMore
import PyProof.StrLawsFrom
import PyProof.StrLawsLast
import PyProof.MeetsStr3
import PyProof.InstEq
import PyProof.NeKinds
import OpenK.KOwn
import HandS.HeadHook4
import HandS.HeadWalk
import HandS.TryMany
import HandS.ReplaceLit
import HandS.ReplaceList
import KE.KDictZip
import KE.DataFind
import HandS.SetFor
import HandS.Walk
import HandS.Zip
import HandS.Style
import HandS.MakeKw
import HandS.Sort
import HandS.FStr
import PySem.Challenge.RW_recordyard_k17_filters_by_names
set_option Elab.async false
set_option linter.all false
set_option maxRecDepth 100000
set_option maxHeartbeats 4000000
/-! super().m(..) in a method of a plain class: a def whose one free name is __class__ -/
namespace SuX
open PySem PySem.Spec PySem.Calls PyProof.Rows L2 LamX NdefX PySem.W
section
variable {X : Cx} {body : List Stmt} {st : Stmt} {rest : List Stmt} {t u : TS} {e : Expr} {te : TE} {pos : Pos}
/-- an expression, a statement, a block, run by the def's own code -/
structure PEA (X : Cx) (body : List Stmt) (e : Expr) (t : TE) : Prop where
  run : ∀ (pins : List (Addr × Obj)) (s : Shared) (σ : L2.St) (H : Hp) (Q : VK), Inv X pins σ H s → t σ H Q → _root_.PySem.wpAt (model X.prog X.w) X.A (.func body X.env) (eval e X.env) (EP X pins σ Q) X.xe s
structure PSA (X : Cx) (body : List Stmt) (st : Stmt) (t : TS) : Prop where
  run : ∀ (pins : List (Addr × Obj)) (s : Shared) (σ : L2.St) (H : Hp) (D : Ends), Inv X pins σ H s → t D σ H → _root_.PySem.wpAt (model X.prog X.w) X.A (.func body X.env) (exec st X.env) (SP X pins D) X.xe s
structure PSsA (X : Cx) (body : List Stmt) (l : List Stmt) (t : TS) : Prop where
  run : ∀ (pins : List (Addr × Obj)) (s : Shared) (σ : L2.St) (H : Hp) (D : Ends), Inv X pins σ H s → t D σ H → _root_.PySem.wpAt (model X.prog X.w) X.A (.func body X.env) (execs l X.env) (SP X pins D) X.xe s
theorem PSA.of (h : PS X st t) : PSA X body st t := ⟨fun pins s σ H D I q => wpAt_of_wpAny (h.run pins s σ H D I q)⟩
theorem PSsA.of (h : PSs X rest t) : PSsA X body rest t := ⟨fun pins s σ H D I q => wpAt_of_wpAny (h.run pins s σ H D I q)⟩
theorem pssA_cons (h1 : PSA X body st t) (h2 : PSsA X body rest u) : PSsA X body (st :: rest) (tSeq t u) := by
  refine ⟨fun pins s σ H D I h => ?_⟩
  refine ks_wpAt_execs_cons (ks_wpAt_mono (h1.run pins s σ H { D with nx := u D } I h) (fun f s1 q => ?_) fun _ _ x => x)
  cases f with
  | next =>
    obtain ⟨σ', H', I', q⟩ := q
    exact h2.run pins s1 σ' H' D I' q
  | ret v => exact q
  | brk => exact q
  | cont => exact q
theorem pssA_one (h1 : PSA X body st t) : PSsA X body [st] t := by
  refine ⟨fun pins s σ H D I h => ?_⟩
  refine ks_wpAt_execs_cons (ks_wpAt_mono (h1.run pins s σ H D I h) (fun f s1 q => ?_) fun _ _ x => x)
  cases f with
  | next => exact wpAt_of_wpAny (wpAny_execs_nil q)
  | ret v => exact q
  | brk => exact q
  | cont => exact q
theorem psA_expr (he : PEA X body e te) (hs : swapsWith e none pos.line X.env = pure false := by rfl) : PSA X body (.Expr e pos) (tDrop te) := by
  refine ⟨fun pins s σ H D I h => ?_⟩
  exact ks_wpAt_Expr_any (ks_wpAt_mono (he.run pins s σ H _ I h) (fun v s1 ⟨x, H1, I1, r1, q1⟩ => ⟨σ, H1, I1, q1⟩) fun _ _ x => x) I.quiet hs
theorem psA_ret (he : PEA X body e te) : PSA X body (.Return (some e) pos) (tRet te) := by
  refine ⟨fun pins s σ H D I h => ?_⟩
  exact ks_wpAt_Return_some (ks_wpAt_mono (he.run pins s σ H _ I h) (fun v s1 ⟨x, H1, I1, r1, q1⟩ => ⟨x, σ, H1, I1, r1, q1⟩) fun _ _ x => x)
end

/-- what the running def is: its object, its code, the cell that holds its class D -/
structure SupD (X : Cx) (D : Addr) (sf : Str) : Prop where
  fn : ∃ (f : Addr) (oc : Value) (od : Option Addr) (fd : FuncData) (osl : Array (Option Value)) (ar : Arg), X.env.func = some f ∧ X.K.lookup f = some ⟨oc, od, .func fd, osl⟩ ∧ (fd.params.posonlyargs ++ fd.params.args).head? = some ar ∧ ar.arg = sf
  code : ∃ (cda : Addr) (ccl : Value) (cdd : Option Addr) (vs : Array Value) (ccs : Array (Option Value)) (file : Str) (tf : Tok), X.env.code = .ref cda ∧ X.K.lookup cda = some ⟨ccl, cdd, .fields vs, ccs⟩ ∧ vs[2]? = some (.str file tf) ∧ ((X.prog.main.file : Str) == file) = true
  cell : ∃ (cc : Addr) (cl : Value) (cld : Option Addr) (csl : Array (Option Value)), X.env.cells.lookup ("__class__" : Str) = some cc ∧ X.K.lookup cc = some ⟨cl, cld, .cell (some (.ref D)), csl⟩
  cls : (clsIn X.K D).isSome = true
  sup : X.mg "super" = none
  top : (X.prog.main.scope.names.lookup ("super" : Str)).isSome = false
  ks : X.env.kindOf "super" = some .globalImplicit
  kc : X.env.kindOf "__class__" = some .free
  kf : X.env.kindOf sf = some .local
/-- the method m that is found behind D for an instance of the class at C -/
structure SupM (K : Frag) (D C : Addr) (m : Str) (f2 : Addr) : Prop where
  cls : (clsIn K C).isSome = true
  sub : mroIn K C (.ref D) = some true
  opq : nsIn K cStatics "thirdparty.any" = some none
  meth : ks_superIn K C D m = some (some (.ref f2))
  ty : typeIn K (.ref f2) = some (.type "function")
  fn : fnIn K f2 = true
/-- super().m(..): self stands in the slot i, an instance of the class at C -/
def tSup (C : Addr) (i : Nat) (sp : Sp) (dvs : List V) (E : XK) (t : TA) : TE := fun σ H Q => ∃ a dx fs, σ[i]? = some (some (.ref a)) ∧ H a = some (.ins C dx fs) ∧ t σ H fun vs H2 => sp (.ref a :: (vs ++ dvs)) H2 Q E

section
variable {X : Cx} {CX : CXT} {k i : Nat} {D C f2 : Addr} {fd2 : FuncData} {ps : List Str} {sp : Sp} {dvs : List V} {ds : List Value} {E : XK} {m sf : Str} {p0 p1 pos apos : Pos} {e : Expr} {es : List Expr} {t : TA} {body : List Stmt}
theorem data_of {K : Frag} {h : Heap} {D : Addr} {cd : ClassData} (Y : K.In h) (hD : clsIn K D = some cd) : ∃ oD, h.get? D = some oD ∧ oD.data = .cls cd := by
  unfold clsIn at hD
  split at hD
  · rename_i c d cd' sl ho
    cases hD
    exact ⟨_, Y _ _ ho, rfl⟩
  · cases hD
/-- behind super(): the bound method stands at q -/
theorem sup_meth {pl : Sem Bool} {pins : List (Addr × Obj)} {σ : L2.St} {H : Hp} {s : Shared} {a dx : Addr} {fs : List (Str × V)} {Q : Value × List Value → Shared → Prop} {so : Addr} {E' : Value → Shared → Prop} {A' : Around}
    (M : SupM X.K D C m f2) (I : Inv X pins σ H s) (ha : H a = some (.ins C dx fs)) (hso : s.heap.get? so = some (ks_superObj D a C)) (hn : (m == ("__class__" : Str)) = false)
    (h : ∀ q s', Inv X ((q, methodObj (.ref f2) (.ref a)) :: pins) σ H s' → Q (.ref q, []) s') : wpAny (model X.prog X.w) A' (getMethod (.ref so) m pl) Q E' s := by
  have Y := I.kIn
  obtain ⟨hh, g, d, tk, os⟩ := s
  obtain ⟨cd, hc⟩ := Option.isSome_iff_exists.mp M.cls
  have hm := M.meth
  unfold ks_superIn at hm
  rw [hc] at hm
  obtain ⟨of, hof, hofc⟩ : ∃ of, hh.get? f2 = some of ∧ of.cls = .type "function" := by
    have ht' : (X.K.lookup f2).map (·.cls) = some (.type "function") := M.ty
    cases z : X.K.lookup f2 with
    | none => rw [z] at ht'; cases ht'
    | some of => rw [z] at ht'; exact ⟨of, Y _ _ z, Option.some.inj ht'⟩
  obtain ⟨mA, O, r, _, _, _⟩ := ins_get I.hok ha
  have hbC : a ≠ C := by
    rintro rfl
    obtain ⟨oC, hoC, hdC⟩ := data_of Y hc
    have hob := O.obj
    rw [hoC] at hob
    cases hob
    cases hdC
  refine ks_wpAny_getMethod_super hso (looks_opaque Y M.opq) (l₀ := cd.mro) (fun A Q E s k q => wpAny_bind ((looks_clsIn Y hc) A _ E s k (wpAny_pure q))) rfl Y hm hof hofc hbC hn ?_
  refine h _ _ ?_
  have I1 : Inv X pins σ H ⟨hh.push { cls := .type "method", data := .fields #[.ref f2, .ref a] }, g, d, tk + 1, os⟩ := I.kept (t' := tk + 1) fun b u z => Heap.get?_push_of_some _ z
  refine I1.pins_of fun p hp => ?_
  rcases List.mem_cons.mp hp with rfl | hp
  · refine ⟨Heap.get?_push_at rfl rfl, I.hok.fresh (Nat.le_refl _), fun z => ?_, I.nofs (Nat.le_refl _), fun v z => by cases z⟩
    exact absurd I.lt (by rw [← z]; exact Nat.lt_irrefl _)
  · exact I1.pin p (List.mem_append_right _ hp)
/-- self's value in its slot -/
theorem self_at {pins : List (Addr × Obj)} {σ : L2.St} {H : Hp} {s : Shared} {a : Addr} (I : Inv X pins σ H s) (hN : X.N[i]? = some sf) (hs : σ[i]? = some (some (.ref a))) (hk : X.env.kindOf sf = some .local) :
    ∃ mm, s.heap.Ns X.env.locals mm ∧ mm sf = some (.ref a) := by
  obtain ⟨mm, hn, hl⟩ := I.loc
  obtain ⟨u, ru, lk⟩ := hl i sf (.ref a) hN hs (.inl hk)
  cases (show u = Value.ref a from ru)
  rcases lk with ⟨_, hm⟩ | ⟨hk', _⟩
  · exact ⟨mm, hn, hm⟩
  · rw [hk] at hk'
    rcases hk' with z | z <;> cases z
/-- super() -/
theorem sup_base {pins : List (Addr × Obj)} {σ : L2.St} {H : Hp} {s : Shared} {a dx : Addr} {fs : List (Str × V)} {Q : Value → Shared → Prop} {whole : Sem Value}
    (S : SupD X D sf) (M : SupM X.K D C m f2) (I : Inv X pins σ H s) (hN : X.N[i]? = some sf) (hs : σ[i]? = some (some (.ref a))) (ha : H a = some (.ins C dx fs)) (hn : (m == ("__class__" : Str)) = false)
    (h : ∀ so s', Inv X pins σ H s' → s'.heap.get? so = some (ks_superObj D a C) → Q (.ref so) s') :
    _root_.PySem.wpAt (model X.prog X.w) X.A (.func body X.env) (attributeBase (.Call (.Name "super" p0) [] [] p1) m X.env whole) Q X.xe s := by
  have Y := I.kIn
  obtain ⟨hh, g, d, tk, os⟩ := s
  obtain ⟨f, oc, od, fd, osl, ar, hfu, hf, har, hsf⟩ := S.fn
  obtain ⟨cda, ccl, cdd, vs, ccs, file, tf, hco, hcode, hvs, hfile⟩ := S.code
  obtain ⟨cc, cl, cld, csl, hcl, hcell⟩ := S.cell
  obtain ⟨cdD, hD⟩ := Option.isSome_iff_exists.mp S.cls
  obtain ⟨oD, hD1, hD2⟩ := data_of Y hD
  obtain ⟨mA, O, r, _, _, _⟩ := ins_get I.hok ha
  obtain ⟨mm, hns, hv⟩ := self_at I hN hs S.kf
  refine ks_wpAt_super_base (prog := X.prog) (w := X.w) S.ks S.kc hn hfu (Y _ _ hf) rfl har hco (Y _ _ hcode) rfl hvs hfile S.top ?_
  obtain ⟨mb, hb1, hb2⟩ := I.mod.blt
  refine ks_loadName_global I.ok.kind S.ks (Calls.loadGlobal_builtin (by rw [I.ok.glob]; exact I.mod.glob.keeps I.bk) S.sup (by rw [I.ok.blt]; exact hb1.keeps I.bk) ((hb2 "super" (by decide)).trans (show bootBuiltins "super" = some (.type "super") by decide +kernel)) ⟨rfl, ?_⟩)
  refine wpAny_loadName_free I.ok.kind S.kc hcl ⟨_, Y _ _ hcell, rfl⟩ ?_
  rw [hsf]
  refine wpAny_loadName_local I.ok.kind S.kf hns hv ?_
  refine ks_wpAny_isType_cls hD1 hD2 ⟨rfl, ?_⟩
  refine ks_wpAny_call_super hD1 hD2 O.obj rfl (fun c z => by cases z) (looks_mroIn Y M.sub) (fun h' e k => ?_)
  exact h _ _ (I.kept (t' := tk) k) e
/-- the method behind super() runs -/
theorem sup_run {pins : List (Addr × Obj)} {σ : L2.St} {H : Hp} {s : Shared} {Q : VK} {a q : Addr} {us : List Value} {vs : List V} (F : FnOk X.prog X.w X.K X.mg X.base CX k f2 fd2 ps sp) (hr : Room k X.A) (hb : Binds X.K fd2 ps ds) (hd : Vals dvs ds) (hx : Passes CX X E)
    (I : Inv X ((q, methodObj (.ref f2) (.ref a)) :: pins) σ H s) (r : Vals vs us) (h : sp (.ref a :: (vs ++ dvs)) H Q E) : wpAny (model X.prog X.w) X.A (call (.ref q) us) (EP X pins σ Q) X.xe s := by
  have I0 : Inv X pins σ H s := I.pins_of fun p hp => I.pin p (List.mem_append_right _ (List.mem_cons_of_mem _ hp))
  have hq : s.heap.get? q = some (methodObj (.ref f2) (.ref a)) := (I.pin _ (List.mem_append_right _ List.mem_cons_self)).1
  have r2 : Vals (V.ref a :: (vs ++ dvs)) (Value.ref a :: (us ++ ds)) := .cons rfl (r.append hd)
  have hl : (Value.ref a :: us ++ ds).length = ps.length := by
    have e := r2.length
    rw [F.len _ _ _ _ h] at e
    exact e.symm
  refine wpAny_call (ks_codeAny_call_bound hq (codeAny_mono (F.run X.A X.stack s H ⟨Value.ref a :: us, []⟩ (Value.ref a :: (us ++ ds)) (V.ref a :: (vs ++ dvs)) Q E hr I0.env0 (hb s (Value.ref a :: us) I.kIn hl) r2 h) fun r s' hq => ?_))
  cases r with
  | error e => exact hx pins σ H s e s' I0 hq
  | ok fl =>
    cases fl with
    | ret u => exact I0.after hq
    | next => exact False.elim hq
    | brk => exact False.elim hq
    | cont => exact False.elim hq
/-- super().m(e, ..) -/
theorem peA_sup {pl : Sem Bool} (S : SupD X D sf) (M : SupM X.K D C m f2) (F : FnOk X.prog X.w X.K X.mg X.base CX k f2 fd2 ps sp) (hr : Room k X.A) (hb : Binds X.K fd2 ps ds) (hd : Vals dvs ds) (hx : Passes CX X E) (hN : X.N[i]? = some sf) (ha : PA X (e :: es) t)
    (hn : (m == ("__class__" : Str)) = false := by decide) (hst : starEach (e :: es) X.env = (false, eval e X.env) :: starEach es X.env := by rfl) (hpl : (backTo pos (starEach es X.env)).any (·.1) = false := by rfl)
    (ht : eval (.Call (.Attribute (.Call (.Name "super" p0) [] [] p1) m apos) (e :: es) [] pos) X.env = (do
      let ov ← attributeBase (.Call (.Name "super" p0) [] [] p1) m X.env (eval (.Call (.Name "super" p0) [] [] p1) X.env)
      standAt apos.atName
      let (f, first) ← holding [ov] (getMethod ov m pl)
      callWith pos f first (backTo pos (starEach (e :: es) X.env)) []) := by rfl) :
    PEA X body (.Call (.Attribute (.Call (.Name "super" p0) [] [] p1) m apos) (e :: es) [] pos) (tSup C i sp dvs E t) := by
  refine ⟨fun pins s σ H Q I h => ?_⟩
  obtain ⟨a, dx, fs, hs, hH, h⟩ := h
  refine ks_wpAt_MethodCall (sup_base S M I hN hs hH hn fun so s1 I1 hso => ?_) ht
  refine sup_meth M I1 hH hso hn fun q s2 I2 => ?_
  rw [hst]
  refine callWith_of (P := MethP X.K q f2 (.ref a)) (by show ((false || (backTo pos (starEach es X.env)).any (·.1)) || false) = false; rw [hpl]; rfl) (keeps_M M.fn) (evalArgs_plain ?_)
  have hp := ha.run pos ((q, methodObj (.ref f2) (.ref a)) :: pins) s2 σ H _ I2 h
  rw [hst] at hp
  refine thn hp fun us s3 ⟨vs, H3, I3, r3, q3⟩ => ⟨⟨(I3.pin _ (List.mem_append_right _ List.mem_cons_self)).1, I3.kIn⟩, ?_⟩
  exact sup_run F hr hb hd hx I3 r3 q3
/-- super().m() -/
theorem peA_sup0 {pl : Sem Bool} (S : SupD X D sf) (M : SupM X.K D C m f2) (F : FnOk X.prog X.w X.K X.mg X.base CX k f2 fd2 ps sp) (hr : Room k X.A) (hb : Binds X.K fd2 ps ds) (hd : Vals dvs ds) (hx : Passes CX X E) (hN : X.N[i]? = some sf)
    (hn : (m == ("__class__" : Str)) = false := by decide)
    (ht : eval (.Call (.Attribute (.Call (.Name "super" p0) [] [] p1) m apos) [] [] pos) X.env = (do
      let ov ← attributeBase (.Call (.Name "super" p0) [] [] p1) m X.env (eval (.Call (.Name "super" p0) [] [] p1) X.env)
      standAt apos.atName
      let (f, first) ← holding [ov] (getMethod ov m pl)
      callWith pos f first (backTo pos (starEach [] X.env)) []) := by rfl) :
    PEA X body (.Call (.Attribute (.Call (.Name "super" p0) [] [] p1) m apos) [] [] pos) (tSup C i sp dvs E tNil) := by
  refine ⟨fun pins s σ H Q I h => ?_⟩
  obtain ⟨a, dx, fs, hs, hH, h⟩ := h
  refine ks_wpAt_MethodCall (sup_base S M I hN hs hH hn fun so s1 I1 hso => ?_) ht
  refine sup_meth M I1 hH hso hn fun q s2 I2 => ?_
  refine callWith_M0 ⟨(I2.pin _ (List.mem_append_right _ List.mem_cons_self)).1, I2.kIn⟩ M.fn ?_
  exact sup_run (us := []) F hr hb hd hx I2 .nil h
end

/-! ### the def itself: its body is read in the context of a def whose one free name is __class__ -/
section
variable {CX : CXT} {P : Program} {w : World} {K : Frag} {mg : Str → Option Value} {base : Heap} {N ps : List Str} {f D cc cda : Addr} {k : Nat} {sp : Sp} {name qual : Str} {params : Arguments} {body : List Stmt} {scope : Scope} {dV kV doc pm ct oc ccl cl : Value} {an od cld : Option Addr} {osl csl : Array (Option Value)}
/-- the context -/
abbrev nfS (name qual : Str) (params : Arguments) (body : List Stmt) (scope : Scope) (cc cda : Addr) : NF := ⟨name, qual, params, body, scope, [("__class__", cc)], cda⟩
theorem cells_one {w : World} {h : Heap} {H : Hp} (hc : h.get? cc = some (⟨cl, cld, .cell (some (.ref D)), csl⟩ : Obj)) (hH : H cc = none) : CellsAt [(("__class__" : Str), cc)] ["__class__"] [some (V.ref D)] h H := by
  have one : ∀ (y : Str) (c : Addr), List.lookup y [(("__class__" : Str), cc)] = some c → y = "__class__" ∧ c = cc := by
    intro y c e
    have m := PySem.mem_of_lookup e
    simp only [List.mem_singleton, Prod.mk.injEq] at m
    exact m
  refine ⟨rfl, fun y c e => ?_, fun x y c a b => ?_, fun i y hi => ?_⟩
  · obtain ⟨_, rfl⟩ := one y c e
    exact ⟨hH, _, _, hc, rfl⟩
  · rw [(one x c a).1, (one y c b).1]
  · cases i with
    | zero =>
      cases (show some ("__class__" : Str) = some y from hi)
      refine ⟨cc, rfl, fun v hv => ?_⟩
      cases (show some (some (V.ref D)) = some (some v) from hv)
      exact ⟨.ref D, rfl, _, hc, rfl⟩
    | succ i => cases (show (none : Option Str) = some y from hi)
/-- THE RULE for a def with super() -/
theorem fn_ofS (lk : K.lookup f = some ⟨oc, od, .func (fnX name qual params body scope [("__class__", cc)] dV kV doc pm an (.ref cda) ct), osl⟩) (hcd : codeIn K (.ref cda) qual = true) (S : NScope N ps ["__class__"] scope)
    (hcell : K.lookup cc = some ⟨cl, cld, .cell (some (.ref D)), csl⟩) (len : ∀ vs H Q E, sp vs H Q E → vs.length = ps.length)
    (hbody : ∀ (A : Around) (outer : List Env) (s : Shared) (H : Hp) (vs : List V) (Q : VK) (E : XK), Room k (A.deeper (envF (nfS name qual params body scope cc cda) f s.heap.objs.size)) → sp vs H Q E →
      ∃ t, PSsA (ncx CX P w K mg base N (nfS name qual params body scope cc cda) f A outer s H E) body body t ∧ t { nx := fun _ H' => Q .non H', rt := Q } (startF N vs [some (V.ref D)]) H) :
    FnOk P w K mg base CX (k + 1) f (fnX name qual params body scope [("__class__", cc)] dV kV doc pm an (.ref cda) ct) ps sp := by
  refine ⟨len, fun A outer s H args us vs Q E hr e0 hb r hsp => ?_⟩
  have KX : K.In s.heap := e0.mod.kin.keeps fun b o e => (e0.bs b o e).1
  have hl := len _ _ _ _ hsp
  have lim : s.heap.NoLimit := e0.mod.nolimit.keeps fun b o e => (e0.bs b o e).1
  have C : CellsAt [(("__class__" : Str), cc)] ["__class__"] [some (V.ref D)] s.heap H := cells_one (w := w) (KX _ _ hcell) (e0.bs _ _ (e0.mod.kin _ _ hcell)).2
  refine ks_codeAny_call_defAt (binds := ps.zip us) (body := body) hr.depth (KX _ _ lk) rfl lim (codeRec_of KX hcd) rfl hb S.nocell (fun x hx => S.par x.1 (List.of_mem_zip (a := x.1) (b := x.2) hx).1) (fun h₁ hns kp => ?_) S.co S.gen S.kind
  obtain ⟨t, ht, hq⟩ := hbody A outer s H vs Q E (hr.deeper _) hsp
  have I : Inv (ncx CX P w K mg base N (nfS name qual params body scope cc cda) f A outer s H E) [] (startF N vs [some (V.ref D)]) H { s with heap := h₁, toks := s.toks + (ps.zip us).length } := inv_startN (F := nfS name qual params body scope cc cda) S hr.hd e0 hl r C hns kp
  refine ks_wpAt_mono (ht.run [] _ (startF N vs [some (V.ref D)]) H _ I hq) (fun fl s' hs => ?_) fun e s' hs => hs
  have fin : ∀ {σ' : L2.St} {H' : Hp} {v : V} {u : Value}, Inv (ncx CX P w K mg base N (nfS name qual params body scope cc cda) f A outer s H E) [] σ' H' s' → L2.RelV v u → Q v H' → CE outer P w H s Q u s' :=
    fun {σ' H' v u} J rv q => ⟨v, H', J.os, J.bare, J.base, J.hok, rv, q⟩
  cases fl with
  | ret u =>
    obtain ⟨v, σ', H', J, rv, q⟩ := hs
    exact fin J rv q
  | next =>
    obtain ⟨σ', H', J, q⟩ := hs
    exact fin (v := V.non) (u := Value.none) J rfl q
  | brk =>
    obtain ⟨_, _, _, q⟩ := hs
    exact False.elim q
  | cont =>
    obtain ⟨_, _, _, q⟩ := hs
    exact False.elim q
end
end SuX

namespace SuX
open PySem PySem.Spec PySem.Calls PyProof.Rows L2 LamX NdefX PySem.W
theorem PSsA.nox {X : Cx} {body st : List Stmt} {t : TS} (h : PSsA X.nox body st t) : PSsA X body st t := ⟨fun pins s σ H D I hw =>
  ks_wpAt_mono (h.run pins s σ H D (I.wish _) hw) (fun _ _ q => q.unwish) fun _ _ z => False.elim z⟩
/-- a method with super(), as it stands behind the top -/
structure SupF (K : Frag) (file m qual : Str) (st : Stmt) (f : Addr) (fd : FuncData) (D : Addr) : Prop where
  ex : ∃ (oc cl ccl : Value) (od cld cdd : Option Addr) (dV kV doc pm : Value) (an : Option Addr) (cda cc : Addr) (ct : Value) (osl csl ccs : Array (Option Value)) (vs : Array Value) (tf : Tok),
    fd = fnX m qual (defArgs st) (defBody st) (defScope st) [("__class__", cc)] dV kV doc pm an (.ref cda) ct ∧ K.lookup f = some ⟨oc, od, .func fd, osl⟩ ∧ codeIn K (.ref cda) qual = true ∧
      K.lookup cc = some ⟨cl, cld, .cell (some (.ref D)), csl⟩ ∧ K.lookup cda = some ⟨ccl, cdd, .fields vs, ccs⟩ ∧ vs[2]? = some (.str file tf)
  kp : keepIn K (.ref f) = true
  cls : (clsIn K D).isSome = true
/-- what super() asks of the module -/
structure TopS (P : Program) (mg : Str → Option Value) (file : Str) : Prop where
  file : ((P.main.file : Str) == file) = true
  top : (P.main.scope.names.lookup ("super" : Str)).isSome = false
  sup : mg "super" = none
section
variable {P : Program} {w : World} {K : Frag} {mg : Str → Option Value} {base : Heap}
theorem SupF.ok {CX : CXT} {file m qual sf : Str} {st : Stmt} {f D : Addr} {fd : FuncData} {N ps : List Str} {k : Nat} {sp : Sp} {ar : Arg} (F : SupF K file m qual st f fd D) (hP : TopS P mg file) (S : NScope N ps ["__class__"] (defScope st))
    (har : ((defArgs st).posonlyargs ++ (defArgs st).args).head? = some ar) (hsf : ar.arg = sf) (hks : (defScope st).names.lookup ("super" : Str) = some .globalImplicit) (hkc : (defScope st).names.lookup ("__class__" : Str) = some .free)
    (hkf : (defScope st).names.lookup sf = some .local) (len : ∀ vs H Q E, sp vs H Q E → vs.length = ps.length)
    (hbody : ∀ (cc cda : Addr) (A : Around) (outer : List Env) (s : Shared) (H : Hp) (vs : List V) (Q : VK) (E : XK), Room k (A.deeper (envF (nfS m qual (defArgs st) (defBody st) (defScope st) cc cda) f s.heap.objs.size)) → sp vs H Q E →
      ∃ t, (SupD (ncx CX P w K mg base N (nfS m qual (defArgs st) (defBody st) (defScope st) cc cda) f A outer s H E) D sf → PSsA (ncx CX P w K mg base N (nfS m qual (defArgs st) (defBody st) (defScope st) cc cda) f A outer s H E) (defBody st) (defBody st) t) ∧
        t { nx := fun _ H' => Q .non H', rt := Q } (startF N vs [some (V.ref D)]) H) : FnOk P w K mg base CX (k + 1) f fd ps sp := by
  obtain ⟨oc, cl, ccl, od, cld, cdd, dV, kV, doc, pm, an, cda, cc, ct, osl, csl, ccs, vs, tf, rfl, lk, hcd, hcell, hcode, hvs⟩ := F.ex
  refine fn_ofS lk hcd S hcell len fun A outer s H vs' Q E hr hsp => ?_
  obtain ⟨t, h, q⟩ := hbody cc cda A outer s H vs' Q E hr hsp
  refine ⟨t, h ⟨⟨f, oc, od, _, osl, ar, rfl, lk, har, hsf⟩, ⟨cda, ccl, cdd, vs, ccs, file, tf, rfl, hcode, hvs, hP.file⟩, ⟨cc, cl, cld, csl, ?_, hcell⟩, F.cls, hP.sup, hP.top, hks, hkc, hkf⟩, q⟩
  rfl
theorem SupF.ok0 {file m qual sf : Str} {st : Stmt} {f D : Addr} {fd : FuncData} {N ps : List Str} {k : Nat} {sp : Sp} {ar : Arg} (F : SupF K file m qual st f fd D) (hP : TopS P mg file) (S : NScope N ps ["__class__"] (defScope st))
    (har : ((defArgs st).posonlyargs ++ (defArgs st).args).head? = some ar) (hsf : ar.arg = sf) (hks : (defScope st).names.lookup ("super" : Str) = some .globalImplicit) (hkc : (defScope st).names.lookup ("__class__" : Str) = some .free)
    (hkf : (defScope st).names.lookup sf = some .local) (len : ∀ vs H Q E, sp vs H Q E → vs.length = ps.length)
    (hbody : ∀ (cc cda : Addr) (A : Around) (outer : List Env) (s : Shared) (H : Hp) (vs : List V) (Q : VK) (E : XK), Room k (A.deeper (envF (nfS m qual (defArgs st) (defBody st) (defScope st) cc cda) f s.heap.objs.size)) → sp vs H Q E →
      ∃ t, (SupD (ncx CX0 P w K mg base N (nfS m qual (defArgs st) (defBody st) (defScope st) cc cda) f A outer s H E).nox D sf → PSsA (ncx CX0 P w K mg base N (nfS m qual (defArgs st) (defBody st) (defScope st) cc cda) f A outer s H E).nox (defBody st) (defBody st) t) ∧
        t { nx := fun _ H' => Q .non H', rt := Q } (startF N vs [some (V.ref D)]) H) : FnOk P w K mg base CX0 (k + 1) f fd ps sp := by
  obtain ⟨oc, cl, ccl, od, cld, cdd, dV, kV, doc, pm, an, cda, cc, ct, osl, csl, ccs, vs, tf, rfl, lk, hcd, hcell, hcode, hvs⟩ := F.ex
  refine fn_ofS lk hcd S hcell len fun A outer s H vs' Q E hr hsp => ?_
  obtain ⟨t, h, q⟩ := hbody cc cda A outer s H vs' Q E hr hsp
  refine ⟨t, (h ⟨⟨f, oc, od, _, osl, ar, rfl, lk, har, hsf⟩, ⟨cda, ccl, cdd, vs, ccs, file, tf, rfl, hcode, hvs, hP.file⟩, ⟨cc, cl, cld, csl, ?_, hcell⟩, F.cls, hP.sup, hP.top, hks, hkc, hkf⟩).nox, q⟩
  rfl
end
/-- a class of the module: its instances' fields -/
structure OC (K : Frag) (C : Addr) (fs : List Str) : Prop where
  cl : Cls K C
  na : ∀ f ∈ fs, NoAttr K C f
end SuX

namespace SuX
open PySem PySem.Spec PySem.Calls PyProof.Rows L2
/-- a dict of the module that never changes, as the top left it -/
def DKc (K : PySem.W.Frag) (P : Program) (w : World) (a : Addr) (kvs : List (Key × V)) : Prop :=
  kvs.length ≤ sizeLine ∧ (a == sysModules) = false ∧ ∃ vs, KV kvs vs ∧ ∀ h : Heap, K.In h → h.DictOf (mixKind P w) a vs
section
variable {X : Cx}
/-- dict(d), d a dict of the module -/
theorem call_dictK : CallR X (.type "dict") (fun xs H Q => ∃ (a : Addr) (kvs : List (Key × V)), xs = [.ref a] ∧ DKc X.K X.prog X.w a kvs ∧ ∀ p, H p = none → Q (.ref p) (upd H p (.dK kvs))) := by
  intro pins s σ H xs us Q I r q
  obtain ⟨a, kvs, ex, ⟨z, lo, vs, rel, hd⟩, q⟩ := q
  subst ex
  obtain ⟨u, eu, rx⟩ := vals1 r
  subst eu
  cases rx
  have dd := hd s.heap I.kIn
  refine kt_call_dict lo dd (by rw [← rel.length]; exact z) fun h' d' hs => ?_
  have hm : (s.heap.objs.size == sysModules) = false := beq_eq_false_iff_ne.mpr (Nat.ne_of_gt I.big)
  exact ⟨.ref s.heap.objs.size, upd H s.heap.objs.size (.dK kvs), I.laid (t' := s.toks) (fun b u e => (hs.2 b (Nat.ne_of_lt (Heap.lt_size e))).trans (Heap.get?_push_of_some _ e)) (Nat.le_refl _)
    (show ObjOk X.prog X.w _ _ _ (.dK kvs) from ⟨z, hm, vs, rel, d'⟩), rfl, q _ (I.hok.fresh (Nat.le_refl _))⟩
end
end SuX

namespace My
open PySem PySem.W PySem.Calls PyProof.Rows PySem.HandSPX
section
variable {prog : Program} {w : World} {A : Around} {M : Model} {E : Value → Shared → Prop} {R : Result → Shared → Prop} {h : Heap} {g : Array GenState} {d : Drawn} {t : Nat} {os : OsState}
variable {nm q : Str} {C N : Addr} {bs bm bmB : List Value} {hdct : Bool} {sn : List Str} {sub : List Value} {ab : Bool} {col : Option Bool} {dd : Option Addr} {k0 k1 k2 k3 k5 : Option Value} {B newId initId : String}
theorem chk_new_kw (F : ExcBaseFacts B newId initId bmB) (hT : ∀ X : String, bm.contains (.type X) = bmB.contains (.type X)) {rest : List Value}
    {kw : List (Str × Value)} {Q : Unit → Shared → Prop} (hC : h.get? C = some (excClassObj nm q C N bs bm hdct sn sub ab col dd k0 k1 k2 k3 k5 newId))
    (hq : Q () ⟨h, g, d, t, os⟩) :
    wpAny M A (checkBuiltinCall newId ⟨.ref C :: rest, kw⟩) Q E ⟨h, g, d, t, os⟩ := by
  have hc : (Value.ref C :: bm).contains (.type B) = true := by
    rw [List.contains_cons, hT, F.hasB, Bool.or_true]
  have hstar := F.noStar
  simp only [checkBuiltinCall, F.newKind, F.newSplit, F.newRow]
  repeat (first
    | refine wpAny_loadPart_at hC ?_
    | (refine wpAny_isSubtype_exc hC ?_; rw [hc])
    | refine wpAny_staticBase_exc hC ?_
    | refine wpAny_madeBy_exc hC ?_
    | simp only [bne_self_eq_false, Bool.false_eq_true, if_false]
    | wp_step)
  exact hq
theorem new_kw (F : ExcBaseFacts B newId initId bmB) (hT : ∀ X : String, bm.contains (.type X) = bmB.contains (.type X)) {rest : List Value}
    {kw : List (Str × Value)} (hC : h.get? C = some (excClassObj nm q C N bs bm hdct sn sub ab col dd k0 k1 k2 k3 k5 newId))
    (hq : R (.ok (.ret (.ref (h.objs.size + 1)))) ⟨(h.push (kdv_tup rest)).push (excO C h.objs.size), g, d, t, os⟩)
    (hrest : rest.length ≤ sizeLine) :
    codeAny (model prog w) A (.builtin newId ⟨.ref C :: rest, kw⟩) R ⟨h, g, d, t, os⟩ := by
  have hends := F.ends
  have h1 : (Value.ref C :: bm).contains (.type B) = true := by
    rw [List.contains_cons, hT, F.hasB, Bool.or_true]
  have h2 : (Value.ref C :: bm).contains (.type "AttributeError") = false := by
    rw [List.contains_cons, hT, F.noAttr]; rfl
  have h3 : (Value.ref C :: bm).contains (.type "NameError") = false := by
    rw [List.contains_cons, hT, F.noName]; rfl
  refine PySem.codeAny_builtinAt F.entry ?_
  unfold Builtin.«BaseException.__new__»
  refine PySem.wpAt_bind ?_
  show PySem.wpAt _ _ _ (stack >>= _) _ _ _
  refine PySem.wpAt_bind (PySem.wpAt_stack fun p below => PySem.wpAt_of_wpAny ?_)
  wp_walk
  refine PySem.wpAt_of_wpAny ?_
  rw [F.owner]
  repeat (first
    | with_reducible refine wpAny_madeHere_exc F.canon hC ?_
    | with_reducible refine wpAny_loadPart_at hC ?_
    | (with_reducible refine wpAny_isSubtype_exc hC ?_; first | rw [h1] | rw [h2] | rw [h3])
    | wp_step)
  show R _ _
  rw [Heap.size_push]
  exact hq
theorem tcall_kw (F : ExcBaseFacts B newId initId bmB) (hT : ∀ X : String, bm.contains (.type X) = bmB.contains (.type X)) {rest : List Value}
    {kw : List (Str × Value)} {fI : Addr} {Q : Fin → Shared → Prop} (hC : h.get? C = some (excClassObj nm q C N bs bm hdct sn sub ab col dd k0 k1 k2 k3 k5 newId))
    (hi : W.Looks (model prog w) h (typeLookup (.ref C) "__init__") (some (.ref fI)))
    (hb : ∀ self, W.Looks (model prog w) h (bindSpecial (.ref fI) self) (.ref fI, [self])) (hrest : rest.length ≤ sizeLine)
    (hq : codeAny (model prog w) A (.call (.ref fI) ⟨.ref (h.objs.size + 1) :: rest, kw⟩)
      (fun r s' => match r with
        | .ok (.ret v) => v = .none ∧ Q (.done (.ret (.ref (h.objs.size + 1)))) s'
        | .ok _ => False
        | .error e => E e s')
      ⟨(h.push (kdv_tup rest)).push (excO C h.objs.size), g, d, t, os⟩) :
    wpAny (model prog w) A (Builtin.«type.__call__» ⟨.ref C :: rest, kw⟩) Q E ⟨h, g, d, t, os⟩ := by
  repeat (first
    | with_reducible refine wpAny_loadPart_at hC ?_
    | with_reducible refine wpAny_madeBy_exc hC ?_
    | wp_step)
  refine codeAny_call_builtin_code (Code.quiet_builtin _ F.quiet) (chk_new_kw F hT hC ?_)
  refine new_kw F hT hC ?_ hrest
  show wpAny _ _ _ _ _ _
  have kp : ∀ b o, h.get? b = some o → ((h.push (kdv_tup rest)).push (excO C h.objs.size)).get? b = some o :=
    fun b o e => Heap.get?_push_of_some _ (Heap.get?_push_of_some _ e)
  have hC1 := kp _ _ hC
  have hg : ((h.push (kdv_tup rest)).push (excO C h.objs.size)).get? (h.objs.size + 1) = some (excO C h.objs.size) := by
    heap_get
  have hcC : (Value.ref C :: bm).contains (.ref C) = true := by simp
  have i1 := hi.keeps kp
  have b1 := (hb (.ref (h.objs.size + 1))).keeps kp
  unfold isInstance
  repeat (first
    | with_reducible refine wpAny_loadPart_at hg ?_
    | (with_reducible refine wpAny_isSubtype_exc hC1 ?_; rw [hcC])
    | wp_step)
  show wpAny _ _ (typeLookup (.ref C) _) _ _ _
  refine i1.at ?_
  refine wpAny_holding (wpAny_bind (b1.at ?_))
  refine wpAny_bind (wpAny_call (codeAny_mono hq fun r s' z => ?_))
  rcases r with e | (v | _ | _ | _) <;> first
    | exact z
    | exact z.elim
    | skip
  obtain ⟨rfl, z⟩ := z
  first
    | exact wpAny_pure (wpAny_pure z)
    | (wp_walk; exact z)
theorem call_kw (F : ExcBaseFacts B newId initId bmB) (hT : ∀ X : String, bm.contains (.type X) = bmB.contains (.type X)) {rest : List Value}
    {kw : List (Str × Value)} {fI : Addr} (hC : h.get? C = some (excClassObj nm q C N bs bm hdct sn sub ab col dd k0 k1 k2 k3 k5 newId))
    (hi : W.Looks (model prog w) h (typeLookup (.ref C) "__init__") (some (.ref fI)))
    (hb : ∀ self, W.Looks (model prog w) h (bindSpecial (.ref fI) self) (.ref fI, [self])) (hrest : rest.length ≤ sizeLine)
    (hq : codeAny (model prog w) (A.under (.builtin "type.__call__" ⟨.ref C :: rest, kw⟩)) (.call (.ref fI) ⟨.ref (h.objs.size + 1) :: rest, kw⟩)
      (W.InitBack (h.objs.size + 1) R) ⟨(h.push (kdv_tup rest)).push (excO C h.objs.size), g, d, t, os⟩) :
    codeAny (model prog w) A (.call (.ref C) ⟨rest, kw⟩) R ⟨h, g, d, t, os⟩ := by
  have f1 := tc_lookup
  have f2 := tc_bind (.ref C)
  have hTy : (⟨h, g, d, t, os⟩ : Shared).TypeIs (.ref C) "type" := ⟨_, hC, rfl⟩
  refine codeAny_of_tree ?_
  show wpAny _ _ (callAny (.ref C) _) _ _ _
  repeat (any_goals (first
    | assumption
    | with_reducible refine wpAny_loadPart_at hC ?_
    | wp_step))
  refine ⟨rfl, ?_⟩
  refine codeAny_call_builtin_at (Code.quiet_builtin _ (by decide +kernel)) entry_typeCall
    (wpAny_check_type_call_sub hC (tcall_kw F hT hC hi hb hrest ?_))
  refine codeAny_mono hq fun r s' z => ?_
  rcases r with e | (v | _ | _ | _) <;> exact z
end
end My

namespace My
open PySem PySem.W PySem.Calls PyProof.Rows PySem.HandSPX
/-! ### isinstance of an exception with a dict of its own -/
section
variable {prog : Program} {w : World} {A : Around} {E : Value → Shared → Prop} {s : Shared} {K : Frag} {x D : Addr} {ox : Obj} {od : Option Obj}
theorem kin_cls (T : L2.ExcC K D) (X : K.In s.heap) (I : InstAt s.heap x ox D od) {Q : Option Value → Shared → Prop}
    (h : Q (some (.ref D)) { s with toks := s.toks + 1 }) :
    wpAny (model prog w) A (getAttr? (.ref x) "__class__") Q E s := by
  have hf : findObj K D od "__class__" = some (.bind (.builtin "getset_descriptor.__get__") (.builtin "object.__class__")) := by
    obtain ⟨cd, hc, _⟩ := any_some T.hd
    unfold findObj
    rw [hc, Option.bind_some, T.ha, Option.bind_some]
    simp [T.hn, T.ht]
  obtain ⟨hp, g, d, t, os⟩ := s
  have L0 := I.type (M := model prog w)
  have L1 := looks_findIn (M := model prog w) X T.hg
  have L2 := looks_findIn (M := model prog w) X T.hk
  have L3 := looks_find (M := model prog w) X I hf
  have su : Looks (model prog w) hp (isInstance (.ref x) (.type "BaseException")) true := L0.andThen (looks_subIn X T.hs)
  have n0 : (false && onTheHeap (Value.builtin "BaseException.__getattribute__")) = false := rfl
  have n2 : (Value.builtin "BaseException.__getattribute__" == Value.builtin "object.__getattribute__") = false := by
    decide +kernel
  have n1 : (onTheHeap (Value.ref D) && Value.builtin "BaseException.__getattribute__" == Value.builtin "object.__getattribute__") = false := by
    rw [n2]; rfl
  unfold getAttr? getAttrBy? getAttrBy
  refine wpAny_bind (wpAny_mkText (wpAny_bind (wpAny_attempt (wpAny_holding (wpAny_bind (L0.at (wpAny_bind (L1.at ?_))))))))
  show wpAny _ _ (if (onTheHeap (Value.ref D) && Value.builtin "BaseException.__getattribute__" == Value.builtin "object.__getattribute__") = true
    then _ else _) _ _ _
  rw [n1, if_neg Bool.false_ne_true]
  unfold getAttrByItsOwn hookBefore
  refine wpAny_bind ?_
  rw [if_pos (show onTheHeap (Value.ref D) = true from rfl)]
  refine L2.at ?_
  refine wpAny_bind (wpAny_attempt (wpAny_holding ?_))
  unfold callGetattribute
  rw [n0, if_neg Bool.false_ne_true]
  unfold boundAndCalled
  rw [PySem.F.excAttr_ValueError.ga.bind (.ref x)]
  refine wpAny_bind (wpAny_pure ?_)
  show wpAny _ _ (call (.builtin "BaseException.__getattribute__") [.ref x, .str "__class__" t]) _ _ _
  refine wpAny_call (codeAny_call_builtin PySem.F.excAttr_ValueError.ga.plain PySem.F.entry_bexc_ga ?_)
  refine @check_slot (model prog w) _ _ ⟨hp, g, d, t + 1, os⟩ "BaseException.__getattribute__" "BaseException" "__getattribute__" (.ref x)
    [.str "__class__" t] [] _ (by decide +kernel) (by decide +kernel) su (PySem.F.args_bexc_ga (.ref x) (.str "__class__" t)) ?_
  unfold Builtin.«object.__getattribute__»
  refine wpAny_bind (wpAny_of_eq (a := ((Value.ref x : Value), [Value.str "__class__" t]))
    (by first | rfl | (simp only [slotArgs]; rfl)) ?_)
  refine wpAny_bind (wpAny_pure (wpAny_bind (L0.at (wpAny_bind (L3.at ?_)))))
  show wpAny _ _ (holding [Value.builtin "object.__class__"]
    (call (.builtin "getset_descriptor.__get__") [.builtin "object.__class__", .ref x, .ref D]) >>= ret) _ _ _
  refine wpAny_bind (wpAny_holding (wpAny_call (class_get (s := ⟨hp, g, d, t + 1, os⟩) (ox := ox) (od := od) X I T.hm ?_)))
  refine wpAny_pure ?_
  show wpAny _ _ (handedOut (.ref D)) _ _ _
  rw [handedOut_of (v := .ref D) rfl]
  first
    | exact wpAny_pure (wpAny_pure h)
    | exact wpAny_pure h
    | exact wpAny_pure (wpAny_bind (wpAny_pure (wpAny_pure h)))
theorem kitx_e (T : L2.ExcC K D) : KitX K (.ref x) (.ref D) (fun h => InstAt h x ox D od) where
  ty := fun _ _ _ I => I.type
  it := fun _ _ X _ => by
    obtain ⟨cd, hc, _⟩ := any_some T.hd
    unfold clsIn at hc
    split at hc
    · rename_i ho
      intro A' Q' E' s' k q
      unfold isType loadHead
      exact wpAny_bind (wpAny_loadPart (k _ _ (X _ _ ho)) (wpAny_pure q))
    · exact nomatch hc
  ne := fun h tp dd its n sl X htp => by
    obtain ⟨cd, hc, _⟩ := any_some T.hd
    refine Bool.eq_false_iff.mpr fun q => ?_
    have e : D = tp := Value.ref.inj (beq_iff_eq.mp q)
    subst e
    unfold clsIn at hc
    split at hc
    · rename_i ho
      exact nomatch (X _ _ ho).symm.trans htp
    · exact nomatch hc
  ca := fun X I k => kin_cls T X I k
end
end My

namespace My
open PySem PySem.W PySem.Calls PyProof.Rows PySem.HandSPX
/-! ### an own error class whose __init__ stores its one argument under its own name f -/
def eA (f : Str) (p1 p2 : Pos) : Arguments :=
  { posonlyargs := [], args := [{ arg := "self", annotation := none, pos := p1 }, { arg := f, annotation := none, pos := p2 }], vararg := none,
    kwonlyargs := [], kw_defaults := [], kwarg := none, defaults := [] }
def eB (f : Str) (q1 q2 q3 q4 : Pos) : List Stmt := [.Assign [.Attribute (.Name "self" q1) f q2] (.Name f q3) q4]
def eS (f : Str) : Scope :=
  { kind := .function, names := [(PySem.Str.ofString "self", .local), (f, .local)], isGenerator := false, isCoroutine := false, more := [] }
structure OneF (f : Str) : Prop where
  b1 : ∀ (qual : Str) (p1 p2 q1 q2 q3 q4 : Pos) (doc pm : Value) (an : Option Addr) (cdv ct x v : Value),
    bindArgs (fnOf "__init__" qual (eA f p1 p2) (eB f q1 q2 q3 q4) (eS f) .none .none doc pm an cdv ct) ⟨[x, v], []⟩ = pure [(("self" : Str), x), (f, v)]
  b2 : ∀ (qual : Str) (p1 p2 q1 q2 q3 q4 : Pos) (doc pm : Value) (an : Option Addr) (cdv ct x v : Value),
    bindArgs (fnOf "__init__" qual (eA f p1 p2) (eB f q1 q2 q3 q4) (eS f) .none .none doc pm an cdv ct) ⟨[x], [(f, v)]⟩ = pure [(("self" : Str), x), (f, v)]
  nd : (f == ("__debug__" : Str)) = false
  lk : (eS f).names.lookup f = some .local
  al : ∀ (x v : Value), ([(("self" : Str), x), (f, v)].all fun y =>
      List.lookup y.fst (eS f).names == some NameKind.local || List.lookup y.fst (eS f).names == some NameKind.cell) = true
  vs : ∀ (q : Str) (L a : Addr) (cd x v : Value), bindL (envOfC q (eS f) L a cd).kindOf [(("self" : Str), x), (f, v)] (fun _ => none) "self" = some x
  vf : ∀ (q : Str) (L a : Addr) (cd x v : Value), bindL (envOfC q (eS f) L a cd).kindOf [(("self" : Str), x), (f, v)] (fun _ => none) f = some v
  kf : ∀ (q : Str) (L a : Addr) (cd : Value), (envOfC q (eS f) L a cd).kindOf f = some .local
theorem oneF_level : OneF "level" := ⟨by intros; rfl, by intros; rfl, by decide +kernel, by decide +kernel, by intros; rfl, by intros; rfl, by intros; rfl, by intros; rfl⟩
structure ErrTxt (K : Frag) (mg : Str → Option Value) (cn f : Str) (C fI : Addr) : Prop where
  one : OneF f
  gC : mg cn = some (.ref C)
  cls : ∃ nm q N bs bm sn sub ab col dd k0 k1 k2 k3 k5,
    K.lookup C = some (excClassObj nm q C N bs bm true sn sub ab col dd k0 k1 k2 k3 k5 "ValueError.__new__") ∧ refsVE bm = true
  sa : findIn K (.ref C) "__setattr__" = some (some (.builtin "object.__setattr__"))
  ga : findIn K (.ref C) "__getattribute__" = some (some (.builtin "BaseException.__getattribute__"))
  gg : findIn K (.ref C) "__getattr__" = some none
  noN : findIn K (.ref C) f = some none
  iC : findIn K (.ref C) "__init__" = some (some (.ref fI))
  tC : typeIn K (.ref fI) = some (.type "function")
  kC : keepIn K (.ref C) = true
  exC : subIn K (.ref C) (.type "BaseException") = some true
  tyC : typeIn K (.ref C) = some (.type "type")
  hdC : hasDictIn K C = true
  fn : ∃ (oc : Value) (od : Option Addr) (q : Str) (doc pm : Value) (an : Option Addr) (cdv ct : Value) (osl : Array (Option Value)) (p1 p2 q1 q2 q3 q4 : Pos),
    K.lookup fI = some ⟨oc, od, .func (fnOf "__init__" q (eA f p1 p2) (eB f q1 q2 q3 q4) (eS f) .none .none doc pm an cdv ct), osl⟩ ∧ codeIn K cdv q = true
structure IEnd (h h' : Heap) (x C dx t1 : Addr) (f : Str) (v : Value) : Prop where
  keep : ∀ b o, b ≠ x → h.get? b = some o → h'.get? b = some o
  obj : h'.get? x = some { cls := .ref C, dict := some dx, data := .fields #[.ref t1, .none, .none, .none, .bool false, .none] }
  dbig : h.objs.size ≤ dx
  dne : dx ≠ x
  ns : h'.Ns1 dx (fun y => if y = f then some v else none)
structure EMade (h h' : Heap) (e C d : Addr) (f : Str) (v : Value) : Prop where
  keep : ∀ b o, h.get? b = some o → h'.get? b = some o
  new : h.objs.size ≤ e
  obj : ∃ t1, h'.get? e = some { cls := .ref C, dict := some d, data := .fields #[.ref t1, .none, .none, .none, .bool false, .none] }
  dbig : h.objs.size ≤ d
  dne : d ≠ e
  ns : h'.Ns1 d (fun y => if y = f then some v else none)
theorem size1 (v : Value) : [v].length ≤ sizeLine := by
  rw [sizeLine_eq]
  exact (by decide : 1 ≤ 16777216)
section
variable {prog : Program} {w : World} {A : Around} {E : Value → Shared → Prop} {R : Result → Shared → Prop} {s : Shared} {K : Frag} {mg : Str → Option Value} {cn f : Str} {C fI : Addr}
theorem err_init (T : ErrTxt K mg cn f C fI) {x t0 : Addr} {v : Value} {args : Args} (ha : args = ⟨[.ref x, v], []⟩ ∨ args = ⟨[.ref x], [(f, v)]⟩)
    (X : K.In s.heap) (hlim : s.heap.NoLimit) (hx : s.heap.get? x = some (excO C t0)) (hnx : K.lookup x = none) (hroom : A.depth < recursionLimit)
    (hq : ∀ h' tk dx, IEnd s.heap h' x C dx t0 f v → R (.ok (.ret .none)) { s with heap := h', toks := tk }) :
    codeAny (model prog w) A (.call (.ref fI) args) R s := by
  obtain ⟨oc, od, q0, doc, pm, an, cdv, ct, osl, p1, p2, q1, q2, q3, q4, ho, hcd⟩ := T.fn
  obtain ⟨nm, q, N, bs, bm, sn, sub, ab, col, dd, k0, k1, k2, k3, k5, hC, hbm⟩ := T.cls
  have hcl : clsIn K C = some { name := nm, bases := bs, mro := .ref C :: bm, ns := N, qualname := q, hasDict := true, slotNames := sn, subclasses := sub, abstract := ab, collection := col, hasDel := false } := by
    unfold clsIn
    rw [hC] <;> rfl
  have O := T.one
  have hb : BindsTo s (fnOf "__init__" q0 (eA f p1 p2) (eB f q1 q2 q3 q4) (eS f) .none .none doc pm an cdv ct) args [(("self" : Str), .ref x), (f, v)] := by
    rcases ha with rfl | rfl
    · exact BindsTo.of_eq (O.b1 ..)
    · exact BindsTo.of_eq (O.b2 ..)
  refine Att.call_fn (binds := [(("self" : Str), .ref x), (f, v)]) X hlim ho hcd hroom hb ?_ (fun s₁ IC => ?_) rfl rfl rfl
  · exact O.al _ _
  obtain ⟨h₁, tk₁, rfl⟩ := IC.toInCall.same
  have kp : ∀ b o, s.heap.get? b = some o → h₁.get? b = some o := IC.toInCall.keep
  have hn := IC.toInCall.ns
  have X1 : K.In h₁ := X.keeps kp
  have hx1 := kp _ _ hx
  show wpAny _ _ (execs _ _) _ _ _
  refine wpAny_execs_cons (plainObj_wpAny_Assign_Attribute ?_)
  refine wpAny_Name (wpAny_loadName_local rfl (O.kf ..) hn (O.vf ..) ?_) O.nd
  refine wpAny_Name (wpAny_loadName_local rfl rfl hn (O.vs ..) ?_)
  refine set_plain X1 (ox := excO C t0) (od := none) ⟨hx1, rfl, rfl, trivial⟩ T.sa ?_
  refine exc_osa X1 hx1 hcl (show refsVE (.ref C :: bm) = true from hbm) rfl T.noN (fun h3 tk3 dx k3 dn dne hx3 hn3 => ?_)
  show wpAny _ _ (execs _ _) _ _ _
  have z : s.heap.objs.size < h₁.objs.size := hn.lt
  exact wpAny_execs_nil (hq h3 tk3 dx ⟨fun b o hb e => k3 b o hb (kp b o e), hx3, Nat.le_of_lt (Nat.lt_of_lt_of_le z dn), dne, hn3⟩)
theorem err_made (T : ErrTxt K mg cn f C fI) {v : Value} {args : Args} (ha : args = ⟨[v], []⟩ ∨ args = ⟨[], [(f, v)]⟩) (X : K.In s.heap)
    (hlim : s.heap.NoLimit) (hroom : A.depth + 1 < recursionLimit)
    (hq : ∀ h' tk e d, EMade s.heap h' e C d f v → R (.ok (.ret (.ref e))) { s with heap := h', toks := tk }) :
    codeAny (model prog w) A (.call (.ref C) args) R s := by
  obtain ⟨nm, q, N, bs, bm, sn, sub, ab, col, dd, k0, k1, k2, k3, k5, hC, hbm⟩ := T.cls
  obtain ⟨hp, g, dr, tk, os⟩ := s
  obtain ⟨rest, kw, rfl, hr, ha'⟩ : ∃ rest kw, args = ⟨rest, kw⟩ ∧ rest.length ≤ sizeLine ∧ ∀ x : Value, (⟨x :: rest, kw⟩ : Args) = ⟨[x, v], []⟩ ∨ (⟨x :: rest, kw⟩ : Args) = ⟨[x], [(f, v)]⟩ := by
    rcases ha with rfl | rfl
    · exact ⟨_, _, rfl, size1 v, fun x => .inl rfl⟩
    · exact ⟨_, _, rfl, Nat.zero_le _, fun x => .inr rfl⟩
  have kp : ∀ b o, hp.get? b = some o → ((hp.push (kdv_tup rest)).push (excO C hp.objs.size)).get? b = some o :=
    fun b o e => Heap.get?_push_of_some _ (Heap.get?_push_of_some _ e)
  have hget : ((hp.push (kdv_tup rest)).push (excO C hp.objs.size)).get? (hp.objs.size + 1) = some (excO C hp.objs.size) := by heap_get
  have hnx : K.lookup (hp.objs.size + 1) = none := by
    cases e : K.lookup (hp.objs.size + 1) with
    | none => rfl
    | some o =>
      have z : hp.get? (hp.objs.size + 1) = some o := X _ _ e
      exact absurd (Nat.lt_of_succ_lt (Heap.lt_size z)) (Nat.lt_irrefl _)
  refine call_kw F.excBase_ValueError (fun X => refsVE_contains X bm hbm) (X _ _ hC) (looks_findIn X T.iC) (fun self => bind_fn X self T.tC) hr ?_
  refine err_init (s := ⟨(hp.push (kdv_tup rest)).push (excO C hp.objs.size), g, dr, tk, os⟩) T (ha' _) (X.keeps kp) (hlim.keeps kp) hget hnx ?_ fun h' tk' dx ⟨k', hx, dn, dne, hns⟩ => ?_
  · show A.depth + 1 < recursionLimit
    exact hroom
  · have old : ∀ b o, hp.get? b = some o → h'.get? b = some o :=
      fun b o e => k' b o (Nat.ne_of_lt (Nat.lt_succ_of_lt (Heap.lt_size e))) (kp b o e)
    have z : hp.objs.size + 1 + 1 ≤ dx := by
      first
        | (simpa only [Heap.size_push] using dn)
        | exact dn
    exact ⟨rfl, hq h' tk' (hp.objs.size + 1) dx ⟨old, Nat.le_succ _, ⟨_, hx⟩, Nat.le_trans (Nat.le_trans (Nat.le_succ _) (Nat.le_succ _)) z, dne, hns⟩⟩
end
end My

namespace My
open PySem PySem.Spec PyProof.Rows L2
/-- an error of the class C that is a value; its dict -/
def ExD (C : Addr) (d : Option Addr) (a : Addr) : HO :=
  .ext fun h => ∃ t1, h.get? a = some { cls := .ref C, dict := d, data := .fields #[.ref t1, .none, .none, .none, .bool false, .none] }
theorem exD_ok {P : Program} {w : World} {H : Hp} {h : Heap} {a C t1 : Addr} {d : Option Addr}
    (e : h.get? a = some { cls := .ref C, dict := d, data := .fields #[.ref t1, .none, .none, .none, .bool false, .none] }) : ObjOk P w H h a (ExD C d a) :=
  ⟨⟨t1, e⟩, ⟨_, e⟩, fun _ _ ⟨t, q⟩ k => ⟨t, k _ q⟩⟩
theorem relO_f {v : V} {v' : Value} {f : Str} (r : RelV v v') (g : Str) : RelO (List.lookup g [((f : Str), v)]) (if g = f then some v' else none) := by
  by_cases h : g = f
  · subst h
    rw [if_pos rfl]
    have q : List.lookup g [((g : Str), v)] = some v := by simp [List.lookup]
    rw [q]
    exact r
  · rw [if_neg h]
    have q1 : (g == f) = false := by simpa using h
    have q2 : List.lookup g [((f : Str), v)] = none := by simp [List.lookup, q1]
    rw [q2]
    trivial
section
variable {X : Cx} {C fI : Addr} {cn f : Str}
/-- C(e), C(f = e): a new error as a value -/
def tErr (C : Addr) (f : Str) (t : TA) : TE := fun σ H Q => t σ H fun vs H1 => ∃ v, vs = [v] ∧
  ∀ a d, H1 a = none → H1 d = none → a ≠ d → Q (.ref a) (upd (upd H1 d (.xd [(f, v)])) a (ExD C (some d) a))
theorem err_run (T : ErrTxt X.K X.mg cn f C fI) {k : Nat} (hr : Room k X.A) {pins : List (Addr × Obj)} {σ : L2.St} {H : Hp} {s : Shared} {Q : VK} {v : V} {u : Value} {us : List Value} {ks : List (Str × Value)}
    (hu : (us = [u] ∧ ks = []) ∨ (us = [] ∧ ks = [(f, u)])) (I : Inv X pins σ H s) (rv : RelV v u)
    (h : ∀ a d, H a = none → H d = none → a ≠ d → Q (.ref a) (upd (upd H d (.xd [(f, v)])) a (ExD C (some d) a))) :
    wpAny (model X.prog X.w) X.A (call (.ref C) us ks) (EP X pins σ Q) X.xe s := by
  have ha : (⟨us, ks⟩ : Args) = ⟨[u], []⟩ ∨ (⟨us, ks⟩ : Args) = ⟨[], [(f, u)]⟩ := by
    rcases hu with ⟨rfl, rfl⟩ | ⟨rfl, rfl⟩
    · exact .inl rfl
    · exact .inr rfl
  have hlim := I.nolimit
  obtain ⟨hp, g, dr, tk, os⟩ := s
  refine wpAny_call (err_made T ha I.kIn hlim (by have := hr.dp; omega) fun h' tk' e d M => ?_)
  obtain ⟨t1, ho⟩ := M.obj
  obtain ⟨G', g1, g2⟩ := restrict h' fun b => decide (b ≠ e)
  have gk : ∀ b, b ≠ e → G'.get? b = h'.get? b := fun b hb => g1 b (decide_eq_true hb)
  have ge : G'.get? e = none := g2 e (by simp)
  have old : ∀ b o, hp.get? b = some o → G'.get? b = some o := fun b o q =>
    (gk b (Nat.ne_of_lt (Nat.lt_of_lt_of_le (Heap.lt_size q) M.new))).trans (M.keep b o q)
  have ob : ObjOk X.prog X.w (upd H d (.xd [(f, v)])) G' d (.xd [(f, v)]) :=
    ⟨_, M.ns.at (fun o q => (gk d M.dne).trans q), fun y => relO_f rv y⟩
  have J : Inv X pins σ (upd H d (.xd [(f, v)])) ⟨G', g, dr, tk', os⟩ := I.laid (t' := tk') old M.dbig ob
  have he0 : H e = none := I.hok.fresh M.new
  have hd0 : H d = none := I.hok.fresh M.dbig
  have sub : ∀ b o, G'.get? b = some o → h'.get? b = some o := fun b o q => by
    by_cases hb : b = e
    · rw [hb, ge] at q; cases q
    · exact (gk b hb).symm.trans q
  have J2 := J.laidN (t' := tk') (a := e) (o := ExD C (some d) e) sub ge (by rw [upd_ne (Ne.symm M.dne)]; exact he0) (exD_ok ho)
  exact ⟨.ref e, _, J2, rfl, h e d he0 hd0 (Ne.symm M.dne)⟩
theorem pe_err {a : Expr} {ta : TA} {p pos : Pos} {k : Nat} (T : ErrTxt X.K X.mg cn f C fI) (hr : Room k X.A) (ha : PA X [a] ta) (hg : Gl X cn)
    (hdb : (cn == ("__debug__" : Str)) = false := by decide)
    (he : starEach (a :: []) X.env = (false, eval a X.env) :: starEach [] X.env := by rfl) (hpl : (backTo pos (starEach [] X.env)).any (·.1) = false := by rfl) :
    PE X (.Call (.Name cn p) [a] [] pos) (tErr C f ta) := by
  refine ⟨fun pins s σ H Q I h => ?_⟩
  refine wpAny_Call_Name_kw (ld_glob I hg T.gC ?_ hdb)
  refine PySem.W.callWith_K (h₀ := X.base) I.ok.mod.kin T.kC (thn (ha.run pos pins s σ H _ I h) fun us s1 hh => ?_) he hpl
  obtain ⟨vs, H1, I1, r1, v, ev, q1⟩ := hh
  subst ev
  refine ⟨I1.kIn, ?_⟩
  cases r1 with
  | cons rv rn =>
    cases rn
    exact err_run T hr (.inl ⟨rfl, rfl⟩) I1 rv q1
theorem pe_errK {kws : List Keyword} {tk : TA} {p pos : Pos} {k : Nat} (T : ErrTxt X.K X.mg cn f C fI) (hr : Room k X.A) (ha : PK X kws tk) (hg : Gl X cn)
    (hall : (backToKw pos (keywordEach kws X.env)).all (·.1.isSome) = true := by rfl)
    (hks : (backToKw pos (keywordEach kws X.env)).filterMap (·.1) = [f] := by rfl)
    (hdb : (cn == ("__debug__" : Str)) = false := by decide)
    (hpl : ((backTo pos (starEach [] X.env)).any (·.1) || (backToKw pos (keywordEach kws X.env)).any (·.1.isNone)) = false := by rfl) :
    PE X (.Call (.Name cn p) [] kws pos) (tErr C f tk) := by
  refine ⟨fun pins s σ H Q I h => ?_⟩
  refine wpAny_Call_Name_kw (ld_glob I hg T.gC ?_ hdb)
  refine PySem.W.callWith_KW0 (h₀ := X.base) I.ok.mod.kin T.kC hall (thn (ha.run pos pins s σ H _ I h) fun us s1 hh => ?_) hpl
  obtain ⟨vs, H1, I1, r1, v, ev, q1⟩ := hh
  subst ev
  refine ⟨I1.kIn, ?_⟩
  rw [hks]
  cases r1 with
  | cons rv rn =>
    cases rn
    exact err_run T hr (.inr ⟨rfl, rfl⟩) I1 rv q1
/-- e.f of such an error -/
def tErrF (C : Addr) (f : Str) (te : TE) : TE := fun σ H Q => te σ H fun x H1 => ∃ (a d : Addr) (v : V), x = .ref a ∧ H1 a = some (ExD C (some d) a) ∧ H1 d = some (.xd [(f, v)]) ∧ Q v H1
theorem pe_errF {e : Expr} {te : TE} {pos : Pos} (T : ErrTxt X.K X.mg cn f C fI) (he : PE X e te)
    (hb : attributeBase e f X.env (eval e X.env) = eval e X.env := by rfl) : PE X (.Attribute e f pos) (tErrF C f te) := by
  refine ⟨fun pins s σ H Q I h => ?_⟩
  refine attr_of hb (thn (he.run pins s σ H _ I h) fun u s1 hh => ?_)
  obtain ⟨x, H1, I1, rx, a, d, v, rfl, ea, ed, q⟩ := hh
  obtain rfl : u = Value.ref a := rx
  obtain ⟨⟨t1, ho⟩, _⟩ := (show ObjOk X.prog X.w H1 s1.heap a (ExD C (some d) a) from I1.hok a _ ea)
  obtain ⟨mA, hns, hr⟩ := (show ObjOk X.prog X.w H1 s1.heap d (.xd [(f, v)]) from I1.hok d _ ed)
  obtain ⟨od, hod, hl⟩ := lookIn_ns hns
  have l : List.lookup f [((f : Str), v)] = some v := by simp [List.lookup]
  obtain ⟨u, hu, ru⟩ := RelO.some_of (v := v) (o := mA f) (by rw [← l]; exact hr f)
  have J : PySem.W.InstAt s1.heap a _ C (some od) := ⟨ho, rfl, rfl, hod⟩
  exact HandSPX.exc_get I1.kIn J T.ga T.gg T.exC (PySem.W.findObj_own T.hdC T.noN rfl (by rw [hl, hu])) (handed_of ru) ⟨v, H1, I1.tok _, ru, q⟩
/-- isinstance(e, c) of such an error -/
def rIsD (K : PySem.W.Frag) : List V → Hp → VK → Prop := fun xs H Q => ∃ (a C : Addr) (d : Option Addr) (c : V) (u : Value) (b : Bool), xs = [.ref a, c] ∧ ClsV c u ∧ H a = some (ExD C d a) ∧
  (∀ dd, d = some dd → ∃ fs, H dd = some (.xd fs)) ∧ ExcC K C ∧ PySem.W.kitOne K (.ref C) u = some b ∧ Q (.bl b) H
theorem call_isD : CallR X (.builtin "isinstance") (rIsD X.K) := by
  intro pins s σ H xs us Q I r h
  obtain ⟨a, C, d, c, u, b, rfl, k, ea, ed, T, e, q⟩ := h
  obtain ⟨u1, u2, rfl, r1, r2⟩ := vals2 r
  have e2 := k.eq r2
  subst e2
  obtain rfl : u1 = Value.ref a := r1
  obtain ⟨⟨t1, ho⟩, _⟩ := (show ObjOk X.prog X.w H s.heap a (ExD C d a) from I.hok a _ ea)
  obtain ⟨od, J⟩ : ∃ od, PySem.W.InstAt s.heap a { cls := .ref C, dict := d, data := .fields #[.ref t1, .none, .none, .none, .bool false, .none] } C od := by
    cases d with
    | none => exact ⟨none, ho, rfl, rfl, trivial⟩
    | some dd =>
      obtain ⟨fs, hd⟩ := ed dd rfl
      obtain ⟨mA, hns, _⟩ := (show ObjOk X.prog X.w H s.heap dd (.xd fs) from I.hok dd _ hd)
      obtain ⟨od, hod, _⟩ := lookIn_ns hns
      exact ⟨some od, ho, rfl, rfl, hod⟩
  exact PySem.W.kia_one (kitx_e T) I.kIn J e (fun z => nomatch z) fun tk => ⟨.bl b, H, I.tok tk, rfl, q⟩
end
end My

namespace My
open PySem PySem.W PySem.Calls PyProof.Rows PySem.HandSPX
/-! ### an own error class whose __init__ does nothing -/
def cA (p1 : Pos) : Arguments :=
  { posonlyargs := [], args := [{ arg := "self", annotation := none, pos := p1 }], vararg := none,
    kwonlyargs := [], kw_defaults := [], kwarg := none, defaults := [] }
def cB (q1 : Pos) : List Stmt := [.Pass q1]
def cS : Scope :=
  { kind := .function, names := [(PySem.Str.ofString "self", .local)], isGenerator := false, isCoroutine := false, more := [] }
structure NilTxt (K : Frag) (mg : Str → Option Value) (cn : Str) (C fI : Addr) : Prop where
  gC : mg cn = some (.ref C)
  cls : ∃ nm q N bs bm sn sub ab col dd k0 k1 k2 k3 k5,
    K.lookup C = some (excClassObj nm q C N bs bm true sn sub ab col dd k0 k1 k2 k3 k5 "ValueError.__new__") ∧ refsVE bm = true
  iC : findIn K (.ref C) "__init__" = some (some (.ref fI))
  tC : typeIn K (.ref fI) = some (.type "function")
  kC : keepIn K (.ref C) = true
  exC : subIn K (.ref C) (.type "BaseException") = some true
  tyC : typeIn K (.ref C) = some (.type "type")
  fn : ∃ (oc : Value) (od : Option Addr) (q : Str) (doc pm : Value) (an : Option Addr) (cdv ct : Value) (osl : Array (Option Value)) (p1 q1 : Pos),
    K.lookup fI = some ⟨oc, od, .func (fnOf "__init__" q (cA p1) (cB q1) cS .none .none doc pm an cdv ct), osl⟩ ∧ codeIn K cdv q = true
structure NMade (h h' : Heap) (e C : Addr) : Prop where
  keep : ∀ b o, h.get? b = some o → h'.get? b = some o
  new : h.objs.size ≤ e
  obj : ∃ t1, h'.get? e = some { cls := .ref C, dict := none, data := .fields #[.ref t1, .none, .none, .none, .bool false, .none] }
section
variable {prog : Program} {w : World} {A : Around} {E : Value → Shared → Prop} {R : Result → Shared → Prop} {s : Shared} {K : Frag} {mg : Str → Option Value} {cn f : Str} {C fI : Addr}
theorem nil_made (T : NilTxt K mg cn C fI) (X : K.In s.heap) (hlim : s.heap.NoLimit) (hroom : A.depth + 1 < recursionLimit)
    (hq : ∀ h' tk e, NMade s.heap h' e C → R (.ok (.ret (.ref e))) { s with heap := h', toks := tk }) :
    codeAny (model prog w) A (.call (.ref C) ⟨[], []⟩) R s := by
  obtain ⟨nm, q, N, bs, bm, sn, sub, ab, col, dd, k0, k1, k2, k3, k5, hC, hbm⟩ := T.cls
  obtain ⟨oc, od, q0, doc, pm, an, cdv, ct, osl, p1, q1, ho, hcd⟩ := T.fn
  obtain ⟨hp, g, dr, tk, os⟩ := s
  have kp : ∀ b o, hp.get? b = some o → ((hp.push (kdv_tup [])).push (excO C hp.objs.size)).get? b = some o :=
    fun b o e => Heap.get?_push_of_some _ (Heap.get?_push_of_some _ e)
  have hget : ((hp.push (kdv_tup [])).push (excO C hp.objs.size)).get? (hp.objs.size + 1) = some (excO C hp.objs.size) := by heap_get
  refine call_kw F.excBase_ValueError (fun X => refsVE_contains X bm hbm) (X _ _ hC) (looks_findIn X T.iC) (fun self => bind_fn X self T.tC) (Nat.zero_le _) ?_
  refine Att.call_fn (binds := [(("self" : Str), .ref (hp.objs.size + 1))]) (s := ⟨(hp.push (kdv_tup [])).push (excO C hp.objs.size), g, dr, tk, os⟩) (X.keeps kp) (hlim.keeps kp) ho hcd
    (by show A.depth + 1 < recursionLimit; exact hroom) (BindsTo.of_eq (by first | rfl | with_unfolding_all rfl)) (by first | rfl | decide) (fun s₁ IC => ?_) rfl rfl rfl
  obtain ⟨h₁, tk₁, rfl⟩ := IC.toInCall.same
  have k1 := IC.toInCall.keep
  show wpAny _ _ (execs _ _) _ _ _
  refine wpAny_execs_cons (wpAny_Pass ?_)
  show wpAny _ _ (execs _ _) _ _ _
  refine wpAny_execs_nil ?_
  exact ⟨rfl, hq h₁ tk₁ (hp.objs.size + 1) ⟨fun b o e => k1 b o (kp b o e), Nat.le_succ _, ⟨_, k1 _ _ hget⟩⟩⟩
end
end My
namespace My
open PySem PySem.Spec PyProof.Rows L2
section
variable {X : Cx} {C fI : Addr} {cn f : Str}
def tErr0 (C : Addr) : TE := fun _ H Q => ∀ a, H a = none → Q (.ref a) (upd H a (ExD C none a))
theorem pe_err0 {p pos : Pos} {k : Nat} (T : NilTxt X.K X.mg cn C fI) (hr : Room k X.A) (hg : Gl X cn)
    (hdb : (cn == ("__debug__" : Str)) = false := by decide)
    (hall : (backToKw pos (keywordEach [] X.env)).all (·.1.isSome) = true := by rfl)
    (hpl : ((backTo pos (starEach [] X.env)).any (·.1) || (backToKw pos (keywordEach [] X.env)).any (·.1.isNone)) = false := by rfl) :
    PE X (.Call (.Name cn p) [] [] pos) (tErr0 C) := by
  refine ⟨fun pins s σ H Q I h => ?_⟩
  refine wpAny_Call_Name_kw (ld_glob I hg T.gC ?_ hdb)
  refine PySem.W.callWith_KW0 (h₀ := X.base) I.ok.mod.kin T.kC hall ?_ hpl
  show wpAny _ _ (evalAll []) _ _ _
  refine wpAny_pure ⟨I.kIn, ?_⟩
  show wpAny _ _ (call (.ref C) [] []) _ _ _
  have hlim := I.nolimit
  obtain ⟨hp, g, dr, tk, os⟩ := s
  refine wpAny_call (nil_made T I.kIn hlim (by have := hr.dp; omega) fun h' tk' e M => ?_)
  obtain ⟨t1, ho⟩ := M.obj
  have J := I.laid (t' := tk') (a := e) (o := ExD C none e) M.keep M.new (exD_ok ho)
  exact ⟨.ref e, _, J, rfl, h e (I.hok.fresh M.new)⟩
/-! ### raising them -/
def tMkE (C : Addr) (f : Str) (ta : TA) : L2.St → Hp → XK → Prop := fun σ H Q => ta σ H fun vs H1 => ∃ v, vs = [v] ∧ ∀ d, H1 d = none → Q (.ref C) (some d) (upd H1 d (.xd [(f, v)]))
theorem pmk_err {a : Expr} {ta : TA} {p pos : Pos} {k : Nat} (T : ErrTxt X.K X.mg cn f C fI) (hr : Room k X.A) (ha : PA X [a] ta) (hg : Gl X cn)
    (hdb : (cn == ("__debug__" : Str)) = false := by decide)
    (he : starEach (a :: []) X.env = (false, eval a X.env) :: starEach [] X.env := by rfl) (hpl : (backTo pos (starEach [] X.env)).any (·.1) = false := by rfl) :
    L2.PMk X (.Call (.Name cn p) [a] [] pos) (tMkE C f ta) := by
  intro pins s σ H Q I h
  refine wpAny_Call_Name_kw (ld_glob I hg T.gC ?_ hdb)
  refine PySem.W.callWith_K (h₀ := X.base) I.ok.mod.kin T.kC (thn (ha.run pos pins s σ H _ I h) fun us s1 hh => ?_) he hpl
  obtain ⟨vs, H1, I1, r1, v, ev, q1⟩ := hh
  subst ev
  refine ⟨I1.kIn, ?_⟩
  cases r1 with
  | cons rv rn =>
    cases rn
    rename_i u
    have hlim := I1.nolimit
    obtain ⟨hp, g, dr, tk, os⟩ := s1
    refine wpAny_call (err_made T (.inl rfl) I1.kIn hlim (by have := hr.dp; omega) fun h' tk' e d M => ?_)
    obtain ⟨t1, ho⟩ := M.obj
    obtain ⟨G', g1, g2⟩ := restrict h' fun b => decide (b ≠ e)
    have gk : ∀ b, b ≠ e → G'.get? b = h'.get? b := fun b hb => g1 b (decide_eq_true hb)
    have ge : G'.get? e = none := g2 e (by simp)
    have old : ∀ b o, hp.get? b = some o → G'.get? b = some o := fun b o q =>
      (gk b (Nat.ne_of_lt (Nat.lt_of_lt_of_le (Heap.lt_size q) M.new))).trans (M.keep b o q)
    have ob : ObjOk X.prog X.w (upd H1 d (.xd [(f, v)])) G' d (.xd [(f, v)]) :=
      ⟨_, M.ns.at (fun o q => (gk d M.dne).trans q), fun y => relO_f rv y⟩
    have J : Inv X pins σ (upd H1 d (.xd [(f, v)])) ⟨G', g, dr, tk', os⟩ := I1.laid (t' := tk') old M.dbig ob
    have sub : ∀ b o, G'.get? b = some o → h'.get? b = some o := fun b o q => by
      by_cases hb : b = e
      · rw [hb, ge] at q; cases q
      · exact (gk b hb).symm.trans q
    refine ⟨e, _, _, ⟨G', g, dr, tk', os⟩, _, .ref C, some d, rfl, J, sub, ge, ho, ⟨rfl, rfl⟩, rfl, rfl, ?_, rfl, I1.bare, raises_own T.exC T.tyC, q1 d (I1.hok.fresh M.dbig)⟩
    rw [upd_ne (Ne.symm M.dne)]
    exact I1.hok.fresh M.new
theorem pmk_nil {p pos : Pos} {k : Nat} (T : NilTxt X.K X.mg cn C fI) (hr : Room k X.A) (hg : Gl X cn)
    (hdb : (cn == ("__debug__" : Str)) = false := by decide)
    (hall : (backToKw pos (keywordEach [] X.env)).all (·.1.isSome) = true := by rfl)
    (hpl : ((backTo pos (starEach [] X.env)).any (·.1) || (backToKw pos (keywordEach [] X.env)).any (·.1.isNone)) = false := by rfl) :
    L2.PMk X (.Call (.Name cn p) [] [] pos) (fun _ H Q => Q (.ref C) none H) := by
  intro pins s σ H Q I h
  refine wpAny_Call_Name_kw (ld_glob I hg T.gC ?_ hdb)
  refine PySem.W.callWith_KW0 (h₀ := X.base) I.ok.mod.kin T.kC hall ?_ hpl
  show wpAny _ _ (evalAll []) _ _ _
  refine wpAny_pure ⟨I.kIn, ?_⟩
  show wpAny _ _ (call (.ref C) [] []) _ _ _
  have hlim := I.nolimit
  obtain ⟨hp, g, dr, tk, os⟩ := s
  refine wpAny_call (nil_made T I.kIn hlim (by have := hr.dp; omega) fun h' tk' e M => ?_)
  obtain ⟨t1, ho⟩ := M.obj
  have ne : hp.get? e = none := by
    cases q : hp.get? e with
    | none => rfl
    | some o => exact absurd (Heap.lt_size q) (Nat.not_lt.mpr M.new)
  exact ⟨e, _, _, ⟨hp, g, dr, tk', os⟩, H, .ref C, none, rfl, I.tok tk', M.keep, ne, ho, ⟨rfl, rfl⟩, rfl, rfl, I.hok.fresh M.new, rfl, I.bare, raises_own T.exC T.tyC, h⟩
end
end My

namespace My
open PySem PySem.Spec PyProof.Rows L2
open L2H (RoomH PinOk cxH inv_startH)
/-! ### a def that is called within an except suite with the exception that is handled -/
structure FnZ (P : Program) (w : World) (K : PySem.W.Frag) (mg : Str → Option Value) (base : Heap) (k : Nat) (f : Addr) (fd : FuncData) (ps : List Str)
    (cls : Value) (d : Option Addr) (sp : Addr → Sp) : Prop where
  len : ∀ a vs H Q E, sp a vs H Q E → vs.length = ps.length
  run : ∀ (A : Around) (outer : List Env) (s : Shared) (H : Hp) (args : Args) (us : List Value) (vs : List V) (Q : VK) (p : Addr × Obj), RoomH k A → Zc cls d p.2 → (∃ fv, p.2.data = .fields fv) →
    PinOk outer H s p → Env0 P w K mg base A outer s H → BindsTo s fd args (ps.zip us) → Vals vs us → sp p.1 vs H Q E0 →
    codeAny (model P w) A (.call (.ref f) args) (CR CX0 outer P w H s Q E0) s
theorem Fun.okZ {P : Program} {w : World} {K : PySem.W.Frag} {mg : Str → Option Value} {base : Heap} {x qual : Str} {st : Stmt} {f : Addr} {fd : FuncData} {N ps : List Str} {k : Nat}
    {cls : Value} {d : Option Addr} {sp : Addr → Sp} (F : Fun K x qual st f fd) (S : FnScope N ps (defScope st)) (len : ∀ a vs H Q E, sp a vs H Q E → vs.length = ps.length)
    (hbody : ∀ (cdv : Value) (A : Around) (outer : List Env) (s : Shared) (H : Hp) (vs : List V) (Q : VK) (p : Addr × Obj), Zc cls d p.2 → (∃ fv, p.2.data = .fields fv) →
      RoomH k (A.deeper (envOfC qual (defScope st) s.heap.objs.size f cdv)) → sp p.1 vs H Q E0 →
      ∃ t, PSs (cxH CX0 P w K mg base N qual (defScope st) f cdv A outer s H E0 p) (defBody st) t ∧ t { nx := fun _ H' => Q .non H', rt := Q } (L2.start N vs) H) :
    FnZ P w K mg base (k + 1) f fd ps cls d sp := by
  obtain ⟨oc, od, kV, doc, pm, an, cdv, ct, osl, rfl, lk, hcd⟩ := F.ex
  refine ⟨len, fun A outer s H args us vs Q p hr hz hf hpin e0 hb r hsp => ?_⟩
  have hl := len _ _ _ _ _ hsp
  have KX : K.In s.heap := e0.mod.kin.keeps fun b o e => (e0.bs b o e).1
  have lim : s.heap.NoLimit := e0.mod.nolimit.keeps fun b o e => (e0.bs b o e).1
  have hkind : ∀ y ∈ ps.zip us, (defScope st).names.lookup y.1 = some .local ∨
      ((defScope st).names.lookup y.1 = some .cell ∧ ((cellsFrom (s.heap.objs.size + 1) (defScope st).names []).lookup y.1).isSome = true) := by
    rintro ⟨n, v⟩ hy
    rcases S.par n (List.of_mem_zip hy).1 with q | q
    · exact .inl q
    · exact .inr ⟨q, PySem.W.cellsFrom_some _ _ _ (.inl q)⟩
  refine codeAny_call_function hr.depth (KX _ _ lk) rfl S.co S.gen rfl (PySem.W.codeRec_of KX hcd) (hb _ _ _ _ ?_)
  refine wpAny_newFunctionEnv_cells S.kind hkind fun env he s1 x => ?_
  subst he
  refine ⟨lim.keeps x.toInCall.keep, codeAny_func ?_⟩
  obtain ⟨t, ht, hq⟩ := hbody cdv A outer s H vs Q p hz hf (hr.deeper _) hsp
  have I := inv_startH (CX := CX0) (E := E0) S hpin e0 hl r x
  refine wpAny_mono (ht.run [] s1 (L2.start N vs) H _ I hq) (fun fl s' hs => ?_) fun e s' hs => hs
  cases fl with
  | ret u =>
    obtain ⟨v, σ', H', J, rv, q⟩ := hs
    exact ⟨v, H', J.os, J.bare, J.base, J.hok, rv, q⟩
  | next =>
    obtain ⟨σ', H', J, q⟩ := hs
    exact ⟨V.non, H', J.os, J.bare, J.base, J.hok, rfl, q⟩
  | brk =>
    obtain ⟨_, _, _, q⟩ := hs
    exact q.elim
  | cont =>
    obtain ⟨_, _, _, q⟩ := hs
    exact q.elim
section
variable {X : Cx} {k : Nat} {f a : Addr} {oe : Obj} {pn : List (Addr × Obj)} {fd : FuncData} {ps : List Str} {sp : Addr → Sp} {cls : Value} {d : Option Addr} {x : Str} {q pos : Pos} {e : Expr} {es : List Expr} {t : TA}
def tCallZ (sp : Sp) (t : TA) : TE := fun σ H Q => t σ H fun vs H1 => sp vs H1 Q E0
theorem pe_callZ (F : FnZ X.prog X.w X.K X.mg X.base k f fd ps cls d sp) (hz : Zc cls d oe) (hf : ∃ fv, oe.data = .fields fv) (hr : RoomH k (X.suite a ((a, oe) :: pn)).A) (hg : Gl X x) (hm : X.mg x = some (.ref f))
    (hk : PySem.W.keepIn X.K (.ref f) = true) (hb : Binds X.K fd ps []) (ha : PA (X.suite a ((a, oe) :: pn)) (e :: es) t) (hdb : (x == ("__debug__" : Str)) = false := by decide)
    (he : starEach (e :: es) X.env = (false, eval e X.env) :: starEach es X.env := by rfl) (hpl : (backTo pos (starEach es X.env)).any (·.1) = false := by rfl) :
    PE (X.suite a ((a, oe) :: pn)) (.Call (.Name x q) (e :: es) [] pos) (tCallZ (sp a) t) := by
  refine ⟨fun pins s σ H Q I h => ?_⟩
  refine wpAny_Call_Name_kw (ld_glob I hg hm ?_ hdb)
  refine PySem.W.callWith_K (h₀ := X.base) I.ok.mod.kin hk (thn (ha.run pos pins s σ H _ I h) fun us s1 ⟨vs, H1, I1, r, hq⟩ => ⟨I1.kIn, ?_⟩) he hpl
  have hl : us.length = ps.length := by rw [← r.length]; exact F.len _ _ _ _ _ hq
  have b := hb s1 us I1.kIn (by rw [List.append_nil]; exact hl)
  rw [List.append_nil] at b
  have P1 := I1.pin (a, oe) (List.mem_append_left _ List.mem_cons_self)
  have hpin : PinOk X.stack H1 s1 (a, oe) :=
    ⟨P1.1, P1.2.1, fun hm => (List.mem_cons.mp (I1.stkSub a hm)).elim P1.2.2.1 P1.2.2.2.1, P1.2.2.2.2⟩
  refine wpAny_call (codeAny_mono (F.run _ X.stack s1 H1 ⟨us, []⟩ us vs Q (a, oe) hr hz hf hpin I1.env0 b r hq) fun r s' hq => ?_)
  cases r with
  | error e =>
    exact (pass0 (X := X.suite a ((a, oe) :: pn)) pins σ _ _ e s' I1 hq)
  | ok fl =>
    cases fl with
    | ret u => exact I1.after hq
    | next => exact hq.elim
    | brk => exact hq.elim
    | cont => exact hq.elim
/-- isinstance of a pinned exception -/
def rIsP (K : PySem.W.Frag) (D a : Addr) (d : Option Addr) : List V → Hp → VK → Prop := fun xs H Q => ∃ (c : V) (u : Value) (b : Bool), xs = [.ref a, c] ∧ ClsV c u ∧
  (∀ dd, d = some dd → ∃ fs, H dd = some (.xd fs)) ∧ ExcC K D ∧ PySem.W.kitOne K (.ref D) u = some b ∧ Q (.bl b) H
theorem call_isP {D : Addr} (hp : (a, oe) ∈ X.pn) (hz : Zc (.ref D) d oe) (hf : ∃ fv, oe.data = .fields fv) : CallR X (.builtin "isinstance") (rIsP X.K D a d) := by
  intro pins s σ H xs us Q I r h
  obtain ⟨c, u, b, rfl, k, ed, T, e, q⟩ := h
  obtain ⟨u1, u2, rfl, r1, r2⟩ := vals2 r
  have e2 := k.eq r2
  subst e2
  obtain rfl : u1 = Value.ref a := r1
  have ho := (I.pin (a, oe) (List.mem_append_left _ hp)).1
  obtain ⟨od, J⟩ : ∃ od, PySem.W.InstAt s.heap a oe D od := by
    obtain ⟨fv, hv⟩ := hf
    obtain ⟨h1, h2⟩ := hz
    have hn : PySem.W.notCls oe = true := by unfold PySem.W.notCls; rw [hv] <;> rfl
    cases d with
    | none => exact ⟨none, ho, h1, hn, by rw [h2]; trivial⟩
    | some dd =>
      obtain ⟨fs, hd⟩ := ed dd rfl
      obtain ⟨mA, hns, _⟩ := (show ObjOk X.prog X.w H s.heap dd (.xd fs) from I.hok dd _ hd)
      obtain ⟨od, hod, _⟩ := lookIn_ns hns
      exact ⟨some od, ho, h1, hn, by rw [h2]; exact hod⟩
  exact PySem.W.kia_one (kitx_e T) I.kIn J e (fun z => nomatch z) fun tk => ⟨.bl b, H, I.tok tk, rfl, q⟩
end
end My

/-! the head by facts: what the top leaves, read off by Bools in the kernel -/
namespace HdF
open PySem PySem.Spec PyProof.Rows L2 He SuX
/-! ### defs with super() -/
structure SupE where
  C : Str
  m : Str
  qual : Str
  st : Stmt
  dfl : List Dv := []
abbrev WS : Type := Option (Str × Str × Arguments × FuncBody × Scope × Addr × List Str × Addr)
def wS (K : PySem.W.Frag) (p : Str × Option Str) : WS := match K.lookup (fAd K p) with
  | some ⟨_, _, .func fd, _⟩ => some (fd.name, fd.qualname, fd.params, fd.body, fd.scope, fd.globals, fd.closure.map (·.1), fd.builtins)
  | _ => none
def SupE.val (d : SupE) : WS := some (d.m, d.qual, defArgs d.st, .stmts (defBody d.st), defScope d.st, mainGlobals, ["__class__"], builtinsNs)
def cellB (K : PySem.W.Frag) (D : Addr) : List (Str × Addr) → Bool
  | [(_, cc)] => (match K.lookup cc with
    | some ⟨_, _, .cell (some (.ref E)), _⟩ => decide (E = D)
    | _ => false)
  | _ => false
def fileB (K : PySem.W.Frag) (file : Str) (cd : Value) : Bool := match cd with
  | .ref cda => (match K.lookup cda with
    | some ⟨_, _, .fields vs, _⟩ => (match (vs[2]? : Option Value) with
      | some (.str y _) => decide (y = file)
      | _ => false)
    | _ => false)
  | _ => false
def SupE.ok (file : Str) (d : SupE) (K : PySem.W.Frag) : Bool := PySem.W.keepIn K (.ref (fAd K (d.C, some d.m))) && ((PySem.W.clsIn K (ga K d.C)).isSome && (match K.lookup (fAd K (d.C, some d.m)) with
  | some ⟨_, _, .func fd, _⟩ => PySem.W.codeIn K fd.code d.qual && (cellB K (ga K d.C) fd.closure && (fileB K file fd.code && dflB K fd.defaults (d.dfl.map (Dv.v K))))
  | _ => false))
theorem cellB_ok {K : PySem.W.Frag} {D : Addr} {l : List (Str × Addr)} (h : cellB K D l = true) : ∃ y cc cl cld csl, l = [(y, cc)] ∧ K.lookup cc = some ⟨cl, cld, .cell (some (.ref D)), csl⟩ := by
  match l, h with
  | [(y, cc)], h =>
    have h1 : (match K.lookup cc with
      | some ⟨_, _, .cell (some (.ref E)), _⟩ => decide (E = D)
      | _ => false) = true := h
    split at h1
    · rename_i cl cld E csl q
      have e := of_decide_eq_true h1
      subst e
      exact ⟨y, cc, _, _, _, rfl, q⟩
    · cases h1
theorem fileB_ok {K : PySem.W.Frag} {file : Str} {cd : Value} (h : fileB K file cd = true) : ∃ cda cl cld vs csl t, cd = .ref cda ∧ K.lookup cda = some ⟨cl, cld, .fields vs, csl⟩ ∧ vs[2]? = some (.str file t) := by
  unfold fileB at h
  split at h
  · split at h
    · split at h
      · rename_i q _ y t q2
        have e := of_decide_eq_true h
        subst e
        exact ⟨_, _, _, _, _, t, rfl, q, q2⟩
      · cases h
    · cases h
  · cases h
/-- .. its defaults -/
structure SupDf (K : PySem.W.Frag) (m qual : Str) (st : Stmt) (dvs : List V) (fd : FuncData) : Prop where
  ex : ∃ (cc cda : Addr) (dV kV doc pm ct : Value) (an : Option Addr), fd = PySem.W.fnX m qual (defArgs st) (defBody st) (defScope st) [("__class__", cc)] dV kV doc pm an (.ref cda) ct ∧ DflV K dV dvs
theorem SupDf.bindsN {K : PySem.W.Frag} {m qual : Str} {st : Stmt} {fd : FuncData} {ps : List Str} (F : SupDf K m qual st [] fd)
    (h : ∀ (cc cda : Addr) (kV doc pm ct : Value) (an : Option Addr) (us : List Value), us.length = ps.length → bindArgs (PySem.W.fnX m qual (defArgs st) (defBody st) (defScope st) [("__class__", cc)] .none kV doc pm an (.ref cda) ct) ⟨us, []⟩ = pure (ps.zip us)) : Binds K fd ps [] := by
  obtain ⟨cc, cda, dV, kV, doc, pm, ct, an, rfl, hD⟩ := F.ex
  rcases hD with ⟨_, rfl⟩ | ⟨e, _⟩
  · exact .all (h cc cda kV doc pm ct an)
  · exact absurd rfl e
theorem SupDf.binds1 {K : PySem.W.Frag} {m qual : Str} {st : Stmt} {dvs : List V} {fd : FuncData} {ps : List Str} (F : SupDf K m qual st dvs fd) (n j : Nat) (hd : dvs ≠ []) (hn : n + (dvs.length - j) = ps.length)
    (h : ∀ (T cc cda : Addr) (kV doc pm ct : Value) (an : Option Addr) (us its : List Value), us.length = n → its.length = dvs.length →
      ∃ k, bindArgs (PySem.W.fnX m qual (defArgs st) (defBody st) (defScope st) [("__class__", cc)] (.ref T) kV doc pm an (.ref cda) ct) ⟨us, []⟩ = seqItems? (.ref T) >>= k ∧ k (some its.toArray) = pure (ps.zip (us ++ its.drop j))) : ∃ ds, Vals (dvs.drop j) ds ∧ Binds K fd ps ds := by
  obtain ⟨cc, cda, dV, kV, doc, pm, ct, an, rfl, hD⟩ := F.ex
  rcases hD with ⟨e, _⟩ | ⟨_, T, o, its, mm, rfl, lT, oT, rT⟩
  · exact absurd e hd
  · refine ⟨its.drop j, rT.drop j, fun s us X hlen => ?_⟩
    have l1 : its.length = dvs.length := rT.length.symm
    have l2 : us.length = n := by
      rw [List.length_append, List.length_drop, l1] at hlen
      omega
    obtain ⟨k, e1, e2⟩ := h T cc cda kV doc pm ct an us its l2 l1
    refine BindsTo.of_looks fun M => ?_
    rw [e1]
    exact looks_items X lT oT (.of_pure e2)
theorem SupE.supF {K : PySem.W.Frag} {file : Str} {d : SupE} (e : wS K (d.C, some d.m) = d.val) (c : d.ok file K = true) : ∃ fd, SupF K file d.m d.qual d.st (fAd K (d.C, some d.m)) fd (ga K d.C) ∧ SupDf K d.m d.qual d.st (d.dfl.map (Dv.v K)) fd := by
  obtain ⟨kp, c2⟩ := ba c
  obtain ⟨cs, c3⟩ := ba c2
  unfold wS at e
  cases q : K.lookup (fAd K (d.C, some d.m)) with
  | none =>
    rw [q] at c3
    cases c3
  | some o =>
    obtain ⟨oc, od, dt, osl⟩ := o
    rw [q] at c3 e
    cases dt with
    | func fd =>
      obtain ⟨n1, n2, n3, n4, n5, n6, n7, n8, n9, n10, n11, n12, n13, n14, n15⟩ := fd
      have e2 : @Eq (Option (Str × Str × Arguments × FuncBody × Scope × Addr × List Str × Addr)) (some (n1, n2, n3, n4, n5, n6, n7.map (·.1), n15)) (some (d.m, d.qual, defArgs d.st, FuncBody.stmts (defBody d.st), defScope d.st, mainGlobals, [("__class__" : Str)], builtinsNs)) := e
      simp only [Option.some.injEq, Prod.mk.injEq] at e2
      obtain ⟨h1, h2, h3, h4, h5, h6, h7, h8⟩ := e2
      subst h1 h2 h3 h4 h5 h6 h8
      have c4 : (PySem.W.codeIn K n13 d.qual && (cellB K (ga K d.C) n7 && (fileB K file n13 && dflB K n8 (d.dfl.map (Dv.v K))))) = true := c3
      obtain ⟨k1, k2⟩ := ba c4
      obtain ⟨k3, k45⟩ := ba k2
      obtain ⟨k4, k5⟩ := ba k45
      obtain ⟨y, cc, cl, cld, csl, rfl, hc⟩ := cellB_ok k3
      obtain ⟨cda, ccl, cdd, vs, ccs, t, rfl, hd, hv⟩ := fileB_ok k4
      have hy : y = ("__class__" : Str) := List.head_eq_of_cons_eq h7
      subst hy
      exact ⟨_, ⟨⟨oc, cl, ccl, od, cld, cdd, n8, n9, n10, n11, n12, cda, cc, n14, osl, csl, ccs, vs, t, rfl, q, k1, hc, hd, hv⟩, kp, cs⟩, ⟨cc, cda, n8, n9, n10, n11, n14, n12, rfl, dflB_ok k5⟩⟩
    | _ => cases c3
/-! ### what super() finds: the class at C, behind D, its method m, that of the class B -/
def eqS (a b : Option Bool) : Bool := decide (a = b)
def supB (D C B m : Str) (K : PySem.W.Frag) : Bool := (PySem.W.clsIn K (ga K C)).isSome && (decide (PySem.W.mroIn K (ga K C) (.ref (ga K D)) = some true) && (eqO (PySem.W.nsIn K PySem.cStatics "thirdparty.any") (some none) &&
  (eqO (PySem.W.ks_superIn K (ga K C) (ga K D) m) (some (some (.ref (fAd K (B, some m))))) && (decide (PySem.W.typeIn K (.ref (fAd K (B, some m))) = some (.type "function")) && PySem.W.fnIn K (fAd K (B, some m))))))
theorem supB_ok {D C B m : Str} {K : PySem.W.Frag} (h : supB D C B m K = true) : SupM K (ga K D) (ga K C) m (fAd K (B, some m)) := by
  obtain ⟨h1, h⟩ := ba h
  obtain ⟨h2, h⟩ := ba h
  obtain ⟨h3, h⟩ := ba h
  obtain ⟨h4, h⟩ := ba h
  obtain ⟨h5, h6⟩ := ba h
  exact ⟨h1, of_decide_eq_true h2, eqO_ok h3, eqO_ok h4, of_decide_eq_true h5, h6⟩
/-! ### classes, methods -/
def ocB (C : Str) (fs : List Str) (K : PySem.W.Frag) : Bool := (Fa.cls C).ok K && fs.all fun f => (Fa.noat C f).ok K
theorem ocB_ok {C : Str} {fs : List Str} {K : PySem.W.Frag} (h : ocB C fs K = true) : OC K (ga K C) fs := by
  obtain ⟨h1, h2⟩ := ba h
  exact ⟨cls_ok h1, fun f hf => eqO_ok (List.all_eq_true.mp h2 f hf)⟩
/-- a method that the class at C finds, that of the class B -/
def metB (C B m : Str) (K : PySem.W.Frag) : Bool := eqO (PySem.W.findIn K (.ref (ga K C)) m) (some (some (.ref (fAd K (B, some m))))) && (PySem.W.isFn K (.ref (fAd K (B, some m))) && PySem.W.keepIn K (.ref (fAd K (B, some m))))
theorem metB_ok {C B m : Str} {K : PySem.W.Frag} (h : metB C B m K = true) : Meth K (ga K C) m (fAd K (B, some m)) := by
  obtain ⟨h1, h⟩ := ba h
  obtain ⟨h2, h3⟩ := ba h
  exact ⟨eqO_ok h1, h2, h3⟩
def mkB (C : Str) (K : PySem.W.Frag) : Bool := PySem.W.makesIn K (ga K C) && (eqO (PySem.W.findIn K (.ref (ga K C)) "__init__") (some (some (.ref (fAd K (C, some "__init__"))))) && (PySem.W.isFn K (.ref (fAd K (C, some "__init__"))) && PySem.W.keepIn K (.ref (ga K C))))
theorem mkB_ok {C : Str} {K : PySem.W.Frag} (h : mkB C K = true) : Mk K (ga K C) (fAd K (C, some "__init__")) := by
  obtain ⟨h1, h⟩ := ba h
  obtain ⟨h2, h⟩ := ba h
  obtain ⟨h3, h4⟩ := ba h
  exact ⟨h1, eqO_ok h2, h3, h4⟩
/-! ### a def without defaults -/
theorem fun_of {K : PySem.W.Frag} {x qual : Str} {st : Stmt} {kws : List (Str × V)} {f : Addr} {fd : FuncData} (F : FunD K x qual (defArgs st) (defBody st) (defScope st) [] kws f fd) : Fun K x qual st f fd := by
  obtain ⟨oc, od, dV, kV, doc, pm, an, cdv, ct, osl, e, lk, hcd, hd, _⟩ := F.ex
  rcases hd with ⟨_, rfl⟩ | ⟨h, _⟩
  · exact ⟨⟨oc, od, kV, doc, pm, an, cdv, ct, osl, e, lk, hcd⟩, F.kp⟩
  · exact absurd rfl h
/-! ### own errors whose __init__ stores its one argument -/
/-- the qualified name of a class's __init__ -/
def qe (cn : Str) : Str := PySem.Str.append cn (".__init__" : Str)
def errW (cn f : Str) (p1 p2 q1 q2 q3 q4 : Pos) : FnW := some ("__init__", qe cn, My.eA f p1 p2, .stmts (My.eB f q1 q2 q3 q4), My.eS f, mainGlobals, [], builtinsNs)
def excB (K : PySem.W.Frag) (C : Addr) : Bool := match K.lookup C with
  | some ⟨.type c, _, .cls cd, sl⟩ => decide (c = "type") && (cd.hasDict && (!cd.hasDel && ((match cd.mro with
    | .ref C' :: bm => decide (C' = C) && PySem.HandSPX.refsVE bm
    | _ => false) && (match sl.toList with
    | [_, _, _, _, some (.builtin n), _] => decide (n = "ValueError.__new__")
    | _ => false))))
  | _ => false
theorem excB_ok {K : PySem.W.Frag} {C : Addr} (h : excB K C = true) : ∃ nm q N bs bm sn sub ab col dd k0 k1 k2 k3 k5,
    K.lookup C = some (excClassObj nm q C N bs bm true sn sub ab col dd k0 k1 k2 k3 k5 "ValueError.__new__") ∧ PySem.HandSPX.refsVE bm = true := by
  unfold excB at h
  split at h
  · rename_i c dd cd sl ho
    obtain ⟨h1, h⟩ := ba h
    obtain ⟨h2, h⟩ := ba h
    obtain ⟨h3, h⟩ := ba h
    obtain ⟨h4, h5⟩ := ba h
    split at h4
    · rename_i C' bm hm
      obtain ⟨h6, h7⟩ := ba h4
      split at h5
      · rename_i k0 k1 k2 k3 n k5 hs
        have e1 := of_decide_eq_true h1
        have e2 := of_decide_eq_true h6
        have e3 := of_decide_eq_true h5
        subst e1 e2 e3
        obtain ⟨nm, bs, mro, ns, qn, hd, sn, sub, ab, col, del⟩ := cd
        dsimp only at hm h2 h3
        subst hm h2
        have e4 : del = false := by
          cases del with
          | false => rfl
          | true => cases h3
        subst e4
        have hsl : sl = #[k0, k1, k2, k3, some (.builtin "ValueError.__new__"), k5] := by
          obtain ⟨l⟩ := sl
          simp only at hs
          rw [hs]
        subst hsl
        exact ⟨_, _, _, _, _, _, _, _, _, _, _, _, _, _, _, ho, h7⟩
      · cases h5
    · cases h4
  · cases h
def noneB : Value → Bool
  | .none => true
  | _ => false
theorem noneB_ok {v : Value} (h : noneB v = true) : v = .none := by
  cases v with
  | none => rfl
  | _ => cases h
def errB (cn f : Str) (K : PySem.W.Frag) : Bool := eqO (PySem.W.nsIn K mainGlobals cn) (some (some (.ref (ga K cn)))) && (excB K (ga K cn) && (eqO (PySem.W.findIn K (.ref (ga K cn)) "__setattr__") (some (some (.builtin "object.__setattr__"))) &&
  (eqO (PySem.W.findIn K (.ref (ga K cn)) "__getattribute__") (some (some (.builtin "BaseException.__getattribute__"))) && (eqO (PySem.W.findIn K (.ref (ga K cn)) "__getattr__") (some none) && (eqO (PySem.W.findIn K (.ref (ga K cn)) f) (some none) &&
  (eqO (PySem.W.findIn K (.ref (ga K cn)) "__init__") (some (some (.ref (fAd K (cn, some "__init__"))))) && (decide (PySem.W.typeIn K (.ref (fAd K (cn, some "__init__"))) = some (.type "function")) && (PySem.W.keepIn K (.ref (ga K cn)) &&
  (decide (PySem.W.subIn K (.ref (ga K cn)) (.type "BaseException") = some true) && (decide (PySem.W.typeIn K (.ref (ga K cn)) = some (.type "type")) && (PySem.W.hasDictIn K (ga K cn) && (match K.lookup (fAd K (cn, some "__init__")) with
    | some ⟨_, _, .func fd, _⟩ => PySem.W.codeIn K fd.code (qe cn) && (noneB fd.defaults && noneB fd.kwdefaults)
    | _ => false))))))))))))
theorem errB_ok {cn f : Str} {K : PySem.W.Frag} {h : Heap} {mg : Str → Option Value} {p1 p2 q1 q2 q3 q4 : Pos} (X : K.In h) (G : h.Ns mainGlobals mg) (one : My.OneF f) (e : fnW K (cn, some "__init__") = errW cn f p1 p2 q1 q2 q3 q4) (c : errB cn f K = true) :
    My.ErrTxt K mg cn f (ga K cn) (fAd K (cn, some "__init__")) := by
  obtain ⟨c1, c⟩ := ba c
  obtain ⟨c2, c⟩ := ba c
  obtain ⟨c3, c⟩ := ba c
  obtain ⟨c4, c⟩ := ba c
  obtain ⟨c5, c⟩ := ba c
  obtain ⟨c6, c⟩ := ba c
  obtain ⟨c7, c⟩ := ba c
  obtain ⟨c8, c⟩ := ba c
  obtain ⟨c9, c⟩ := ba c
  obtain ⟨c10, c⟩ := ba c
  obtain ⟨c11, c⟩ := ba c
  obtain ⟨c12, c13⟩ := ba c
  refine ⟨one, PySem.W.mg_of X G (eqO_ok c1), excB_ok c2, eqO_ok c3, eqO_ok c4, eqO_ok c5, eqO_ok c6, eqO_ok c7, of_decide_eq_true c8, c9, of_decide_eq_true c10, of_decide_eq_true c11, c12, ?_⟩
  unfold fnW at e
  cases q : K.lookup (fAd K (cn, some "__init__")) with
  | none =>
    rw [q] at c13
    cases c13
  | some o =>
    obtain ⟨oc, od, dt, osl⟩ := o
    rw [q] at c13 e
    cases dt with
    | func fd =>
      obtain ⟨n1, n2, n3, n4, n5, n6, n7, n8, n9, n10, n11, n12, n13, n14, n15⟩ := fd
      have e2 : @Eq (Option (Str × Str × Arguments × FuncBody × Scope × Addr × List (Str × Addr) × Addr)) (some (n1, n2, n3, n4, n5, n6, n7, n15)) (some (("__init__" : Str), qe cn, My.eA f p1 p2, FuncBody.stmts (My.eB f q1 q2 q3 q4), My.eS f, mainGlobals, [], builtinsNs)) := e
      simp only [Option.some.injEq, Prod.mk.injEq] at e2
      obtain ⟨h1, h2, h3, h4, h5, h6, h7, h8⟩ := e2
      subst h1 h2 h3 h4 h5 h6 h7 h8
      have c14 : (PySem.W.codeIn K n13 (qe cn) && (noneB n8 && noneB n9)) = true := c13
      obtain ⟨k1, k2⟩ := ba c14
      obtain ⟨k3, k4⟩ := ba k2
      have e8 := noneB_ok k3
      have e9 := noneB_ok k4
      subst e8 e9
      exact ⟨oc, od, _, n10, n11, n12, n13, n14, osl, p1, p2, q1, q2, q3, q4, rfl, k1⟩
    | _ => cases c13
/-! ### a dict of the module whose keys are ints and texts -/
def keyW (e : DictEntry) : Option (Key × Int) := match e.key with
  | .int i _ => some (.inl i, e.hash)
  | .str x _ => some (.inr x, e.hash)
  | _ => none
def dicW2 (K : PySem.W.Frag) (a : Addr) : Option (List (Option (Key × Int))) := match K.lookup a with
  | some ⟨.type c, none, .dict es _, sl⟩ => (match decide (c = "dict") && (sl.isEmpty && !(a == sysModules)) with
    | true => some (es.toList.map keyW)
    | false => none)
  | _ => none
def dicV (w : World) (ks : List Key) : Option (List (Option (Key × Int))) := some (ks.map fun k => some (k, keyH w k))
def dicB (a : PySem.W.Frag → Addr) (vs : PySem.W.Frag → List V) (K : PySem.W.Frag) : Bool := match K.lookup (a K) with
  | some ⟨_, _, .dict es _, _⟩ => relAll (vs K) (es.toList.map (·.val))
  | _ => false
theorem keys_of {P : Program} {w : World} : ∀ {es : List DictEntry} {kvs : List (Key × V)}, es.map keyW = (kvs.map (·.1)).map (fun k => some (k, keyH w k)) → relAll (kvs.map (·.2)) (es.map (·.val)) = true →
    ∃ vs : List (Key × Value), KV kvs vs ∧ Pairs (mixKind P w) es vs ∧ vs.map (·.1) = kvs.map (·.1) ∧ ∀ e ∈ es, ∃ k, (mixKind P w).is k e.key = true ∧ e.hash = (mixKind P w).hash k
  | [], [], _, _ => ⟨[], .nil, .nil, rfl, fun _ h => absurd h List.not_mem_nil⟩
  | [], _ :: _, h, _ => by cases h
  | _ :: _, [], h, _ => by cases h
  | e :: es, kv :: kvs, h, h2 => by
    have h1 : keyW e :: es.map keyW = some (kv.1, keyH w kv.1) :: (kvs.map (·.1)).map (fun k => some (k, keyH w k)) := h
    injection h1 with h3 h4
    obtain ⟨h5, h6⟩ := ba (show (relB kv.2 e.val && relAll (kvs.map (·.2)) (es.map (·.val))) = true from h2)
    obtain ⟨vs, r, p, n, z⟩ := keys_of (P := P) h4 h6
    have hk : keyIs kv.1 e.key = true ∧ e.hash = keyH w kv.1 := by
      unfold keyW at h3
      split at h3
      · rename_i i t q
        obtain ⟨e1, e2⟩ := Prod.mk.inj (Option.some.inj h3)
        rw [← e1] at e2 ⊢
        rw [q]
        exact ⟨keyIs_int i t, e2⟩
      · rename_i x t q
        obtain ⟨e1, e2⟩ := Prod.mk.inj (Option.some.inj h3)
        rw [← e1] at e2 ⊢
        rw [q]
        exact ⟨keyIs_str x t, e2⟩
      · cases h3
    refine ⟨(kv.1, e.val) :: vs, .cons ⟨rfl, relB_ok h5⟩ r, .cons hk.1 rfl p, by rw [List.map_cons, List.map_cons, n], fun u hu => ?_⟩
    rcases List.mem_cons.mp hu with rfl | hu
    · exact ⟨kv.1, hk.1, hk.2⟩
    · exact z u hu
theorem dkc_of {P : Program} {w : World} {K : PySem.W.Frag} {a : PySem.W.Frag → Addr} {kvs : List (Key × V)} (h1 : dicW2 K (a K) = dicV w (kvs.map (·.1))) (h2 : dicB a (fun _ => kvs.map (·.2)) K = true) (nd : (kvs.map (·.1)).Nodup) (len : kvs.length ≤ sizeLine) : DKc K P w (a K) kvs := by
  unfold dicW2 at h1
  unfold dicB at h2
  split at h1
  · rename_i c es n sl ho
    rw [ho] at h2
    have h3 : (match decide (c = "dict") && (sl.isEmpty && !(a K == sysModules)) with
      | true => some (es.toList.map keyW)
      | false => none) = dicV w (kvs.map (·.1)) := h1
    cases z : decide (c = "dict") && (sl.isEmpty && !(a K == sysModules)) with
    | false =>
      rw [z] at h3
      cases h3
    | true =>
      rw [z] at h3
      obtain ⟨z1, z2⟩ := ba z
      obtain ⟨z3, z4⟩ := ba z2
      have e1 : c = "dict" := of_decide_eq_true z1
      have e2 : sl = #[] := Array.isEmpty_iff.mp z3
      have e3 : (a K == sysModules) = false := by
        cases y : a K == sysModules with
        | false => rfl
        | true =>
          rw [y] at z4
          cases z4
      subst e1 e2
      obtain ⟨vs, r, p, nn, k⟩ := keys_of (P := P) (w := w) (Option.some.inj h3) h2
      refine ⟨len, e3, vs, r, fun h hk => ⟨_, es, n, hk _ _ ho, ⟨rfl, rfl, rfl⟩, rfl, fun e he => k e (Array.mem_toList_iff.mpr he), p, by rw [nn]; exact nd⟩⟩
  · cases h1
/-! ### an empty tuple that is a def's default -/
def tup0B (a : PySem.W.Frag → Addr) (K : PySem.W.Frag) : Bool := match K.lookup (a K) with
  | some ⟨.type c, _, .seq its _, _⟩ => decide (c = "tuple") && its.isEmpty
  | _ => false
theorem tup0_ok {a : PySem.W.Frag → Addr} {K : PySem.W.Frag} (h : tup0B a K = true) : ∃ eO eN eS, K.lookup (a K) = some ⟨.type "tuple", eO, .seq #[] eN, eS⟩ := by
  unfold tup0B at h
  split at h
  · rename_i c eO its n sl ho
    obtain ⟨h1, h2⟩ := ba h
    have e1 := of_decide_eq_true h1
    have e2 := Array.isEmpty_iff.mp h2
    subst e1 e2
    exact ⟨_, _, _, ho⟩
  · cases h
theorem nil_of {K : PySem.W.Frag} {fd : FuncData} {ps : List Str} (h : ∃ ds, Vals ([] : List V) ds ∧ Binds K fd ps ds) : Binds K fd ps [] := by
  obtain ⟨ds, hv, hb⟩ := h
  cases hv
  exact hb
/-! ### the Hook -/
abbrev AlF : Type := Bool × (List FnW × (List WS × List (Option (List (Option (Key × Int))))))
structure Fs where
  fs : List (PySem.W.Frag → Bool)
  fw : List ((Str × Option Str) × FnW)
  sw : List SupE
  dw : List (Str × List Key)
def obsF (F : Fs) (K : PySem.W.Frag) : AlF := (F.fs.all fun f => f K, (F.fw.map fun p => fnW K p.1, (F.sw.map fun d => wS K (d.C, some d.m), F.dw.map fun d => dicW2 K (ga K d.1))))
def valF (F : Fs) (w : World) : AlF := (true, (F.fw.map (·.2), (F.sw.map SupE.val, F.dw.map fun d => dicV w d.2)))
def SaysF (F : Fs) (w : World) (K : PySem.W.Frag) : Prop := obsF F K = valF F w
def obsFG (as : List Addr) (F : Fs) (g : Addr → Option Obj) : AlF := obsF F (frG g as)
def hookF (as : List Addr) (F : Fs) : PySem.W.Hook where
  α := AlF
  obs := fun s => obsFG as F s.heap.get?
  val := fun w => valF F w
  says := fun w h => ∃ K : PySem.W.Frag, K.In h ∧ SaysF F w K
  of := fun _ _ e => ⟨_, frG_in, e⟩
  keeps := fun _ _ _ ⟨K, hK, c⟩ k => ⟨K, PySem.W.Frag.In.keeps hK k, c⟩
theorem obsFG_eq {as : List Addr} {F : Fs} {g : Addr → Option Obj} {s : Shared} (h : ∀ a, g a = s.heap.get? a) : obsFG as F g = (hookF as F).obs s := by
  have e : g = s.heap.get? := funext h
  rw [e] <;> rfl
section
variable {F : Fs} {w : World} {K : PySem.W.Frag}
theorem SaysF.fact (c : SaysF F w K) (i : Nat) {f : PySem.W.Frag → Bool} (h : F.fs[i]? = some f) : f K = true :=
  List.all_eq_true.mp (show (F.fs.all fun f => f K) = true from congrArg (fun z : AlF => z.1) c) f (List.mem_of_getElem? h)
theorem SaysF.fnw (c : SaysF F w K) (i : Nat) {p : (Str × Option Str) × FnW} (h : F.fw[i]? = some p) : fnW K p.1 = p.2 := by
  have e : F.fw.map (fun p => fnW K p.1) = F.fw.map (·.2) := congrArg (fun z : AlF => z.2.1) c
  have e2 : (F.fw.map fun p => fnW K p.1)[i]? = (F.fw.map (·.2))[i]? := by rw [e]
  rw [List.getElem?_map, List.getElem?_map, h] at e2
  exact Option.some.inj e2
theorem SaysF.sup (c : SaysF F w K) (i : Nat) {d : SupE} (h : F.sw[i]? = some d) : wS K (d.C, some d.m) = d.val := by
  have e : F.sw.map (fun d => wS K (d.C, some d.m)) = F.sw.map SupE.val := congrArg (fun z : AlF => z.2.2.1) c
  have e2 : (F.sw.map fun d => wS K (d.C, some d.m))[i]? = (F.sw.map SupE.val)[i]? := by rw [e]
  rw [List.getElem?_map, List.getElem?_map, h] at e2
  exact Option.some.inj e2
theorem SaysF.dic (c : SaysF F w K) (i : Nat) {d : Str × List Key} (h : F.dw[i]? = some d) : dicW2 K (ga K d.1) = dicV w d.2 := by
  have e : F.dw.map (fun d => dicW2 K (ga K d.1)) = F.dw.map (fun d => dicV w d.2) := congrArg (fun z : AlF => z.2.2.2) c
  have e2 : (F.dw.map fun d => dicW2 K (ga K d.1))[i]? = (F.dw.map fun d => dicV w d.2)[i]? := by rw [e]
  rw [List.getElem?_map, List.getElem?_map, h] at e2
  exact Option.some.inj e2
end
end HdF

/-! all(elt for target in iter): the element may be any expression of the layer, in the generator's own frame -/
namespace GA
open PySem PySem.Spec PyProof.Rows L2 GxR GenW
/-! ### the captured cells -/
theorem clo_has {cells : List (Str × Addr)} : ∀ {names : List (Str × NameKind)} {acc : List (Str × Addr)} {y : Str} {c : Addr}, (cloFrom cells names acc).lookup y = some c →
    acc.lookup y = some c ∨ ((y, NameKind.free) ∈ names ∧ c = (cells.lookup y).getD 0)
  | [], acc, y, c, h => .inl h
  | (n, k) :: r, acc, y, c, h => by
    unfold cloFrom at h
    by_cases hk : (k == NameKind.free) = true
    · rw [if_pos hk] at h
      have ek : k = NameKind.free := by cases k <;> first | rfl | cases hk
      rcases clo_has h with q | ⟨q, e⟩
      · rw [List.lookup_cons] at q
        split at q
        · rename_i hy
          have ey : y = n := eq_of_beq hy
          cases q
          exact .inr ⟨by rw [ey, ek]; exact List.mem_cons_self, by rw [ey]⟩
        · exact .inl q
      · exact .inr ⟨List.mem_cons_of_mem _ q, e⟩
    · rw [if_neg hk] at h
      rcases clo_has h with q | ⟨q, e⟩
      · exact .inl q
      · exact .inr ⟨List.mem_cons_of_mem _ q, e⟩
theorem clo_some {cells : List (Str × Addr)} : ∀ {names : List (Str × NameKind)} {acc : List (Str × Addr)} {y : Str}, ((acc.lookup y).isSome = true ∨ (y, NameKind.free) ∈ names) → ∃ c, (cloFrom cells names acc).lookup y = some c
  | [], acc, y, h => by
    rcases h with h | h
    · exact Option.isSome_iff_exists.mp h
    · cases h
  | (n, k) :: r, acc, y, h => by
    unfold cloFrom
    by_cases hk : (k == NameKind.free) = true
    · rw [if_pos hk]
      refine clo_some ?_
      rcases h with h | h
      · refine .inl ?_
        rw [List.lookup_cons]
        split
        · rfl
        · exact h
      · rcases List.mem_cons.mp h with e | h
        · refine .inl ?_
          obtain ⟨e1, _⟩ := Prod.mk.inj e
          rw [e1, List.lookup_cons, beq_self_eq_true]
          rfl
        · exact .inr h
    · rw [if_neg hk]
      refine clo_some ?_
      rcases h with h | h
      · exact .inl h
      · rcases List.mem_cons.mp h with e | h
        · obtain ⟨_, e2⟩ := Prod.mk.inj e
          rw [← e2] at hk
          exact absurd rfl hk
        · exact .inr h
theorem clo_eq {cells : List (Str × Addr)} {names : List (Str × NameKind)} {y : Str} {c : Addr} (hf : ∀ z ∈ names, z.2 = .free → ∃ c, cells.lookup z.1 = some c) (h : (cloFrom cells names []).lookup y = some c) : cells.lookup y = some c := by
  rcases clo_has h with q | ⟨q, e⟩
  · cases q
  · obtain ⟨d, hd⟩ := hf _ q rfl
    rw [e, show cells.lookup y = some d from hd]
    rfl
/-! ### the generator's own scope -/
structure GSc (X : Cx) (N : List Str) (nx : Nat) (sc : Scope) : Prop where
  kind : sc.kind = .function
  co : sc.isCoroutine = false
  cell : ∀ y ∈ sc.names, y.2 ≠ .cell
  dot : sc.names.lookup (".0" : Str) = some NameKind.local
  free : ∀ y ∈ sc.names, y.2 = .free → X.env.kindOf y.1 = some .cell ∨ X.env.kindOf y.1 = some .free
  /-- the names behind the first nx are captured -/
  cap : ∀ i y, N[i]? = some y → nx ≤ i → sc.names.lookup y = some .free
/-- what stands in the captured names -/
def caps (X : Cx) (N : List Str) (nx : Nat) (σ : L2.St) : L2.St := List.replicate nx none ++ (N.drop nx).map fun y => (σ[X.N.idxOf y]?).join
abbrev gEnv (X : Cx) (sc : Scope) (C : Addr) (code : Value) (bi : Addr) : Env := genEnv sc (cloFrom X.env.cells sc.names []) C code bi X.env
/-- the context of the generator's frame -/
def gx (X : Cx) (N : List Str) (sc : Scope) (C : Addr) (code : Value) (bi : Addr) (s : Shared) (H : Hp) (A : Around) (ex : List Addr) : Cx :=
  { prog := X.prog, w := X.w, K := X.K, mg := X.mg, base := X.base, A := A, N := N, s_0 := s, H_0 := H, env := gEnv X sc C code bi, outer := X.stack, stack := gEnv X sc C code bi :: X.stack, ex := ex, fn := fun _ => false, calm := true, pn := [], xe := fun _ _ => False }
theorem over_comp {A : Around} {e : Expr} {gs : List Comprehension} {sc : Scope} {p : Pos} {it acc : Value} {env : Env} : A.over (.compLoop (.GeneratorExp e gs sc p) 0 it acc env) [] = A.deeper env := by
  first
    | rfl
    | (obtain ⟨hd, d, fr, gs, u⟩ := A; simp [Around.over, Around.deeper, marksOver, frameCount, unitsOf, envsOf, guardsOf, pushEnvs, pushGuards, Code.envs, Code.env?, Code.isFrame, Code.guards, Code.isGuard, Code.weight, Code.frames, Code.isCreation, Code.isCaller, Code.cUnits])
theorem over_start {A : Around} {e : Expr} {gs : List Comprehension} {sc : Scope} {p : Pos} {it acc : Value} {env : Env} : A.over (.compStart (.GeneratorExp e gs sc p) 0 it acc env) [] = A.deeper env := by
  first
    | rfl
    | (obtain ⟨hd, d, fr, gs, u⟩ := A; simp [Around.over, Around.deeper, marksOver, frameCount, unitsOf, envsOf, guardsOf, pushEnvs, pushGuards, Code.envs, Code.env?, Code.isFrame, Code.guards, Code.isGuard, Code.weight, Code.frames, Code.isCreation, Code.isCaller, Code.cUnits])

section
variable {X : Cx} {pins : List (Addr × Obj)} {σ : L2.St} {H : Hp} {s4 s5 : Shared} {N : List Str} {nx : Nat} {sc : Scope} {fp : List Addr} {code : Value} {B : Around} {a : Addr} {go : Obj} {it : Value}
theorem inv_gx (G : GSc X N nx sc) (hx : nx ≤ N.length) (J : Inv X pins σ H s4) (hB : B.frames = some X.stack) (hh : B.handled = none) (hf : ∀ b ∈ fp, FpOk X pins H b) (hfo : ∀ b ∈ fp, b < s4.heap.objs.size)
    (keep : ∀ b o, s4.heap.get? b = some o → s5.heap.get? b = some o) (hns : s5.heap.Ns s4.heap.objs.size (fun y => if y = ".0" then some it else none)) (os : s5.os = s4.os) (bare : AllBare s5.gens)
    (ha : s4.heap.objs.size < a) (hg : s5.heap.get? a = some go) (hgd : ∀ v, go.data ≠ .cell v) :
    Inv (gx X N sc s4.heap.objs.size code builtinsNs s4 H (B.deeper (gEnv X sc s4.heap.objs.size code builtinsNs)) fp) [(a, go)] (caps X N nx σ) H s5 := by
  have hfree : ∀ z ∈ sc.names, z.2 = .free → ∃ c, X.env.cells.lookup z.1 = some c := fun z hz e => J.ok.has _ (G.free z hz e)
  have hcl : ∀ {y c}, (cloFrom X.env.cells sc.names []).lookup y = some c → X.env.cells.lookup y = some c := fun h => clo_eq hfree h
  have nst : ∀ b, s4.heap.objs.size ≤ b → b ∉ frs X.stack := fun b hb hm => by
    rcases List.mem_cons.mp (J.stkSub b hm) with z | z
    · rw [z] at hb
      exact absurd (Nat.lt_of_lt_of_le J.lt hb) (Nat.lt_irrefl _)
    · exact J.nofs hb z
  have exst : ∀ b ∈ fp, b ∉ frs X.stack := fun b hb hm => by
    obtain ⟨_, f1, f2, _⟩ := hf b hb
    rcases List.mem_cons.mp (J.stkSub b hm) with z | z
    · exact f1 z
    · exact f2 z
  refine ⟨⟨J.mod, G.kind, J.ok.glob, rfl, Nat.le_refl _, fun x y c h1 h2 => J.ok.inj x y c (hcl h1) (hcl h2), fun x h => ?_, fun x c h _ => absurd h Bool.false_ne_true, fun _ => hh, Around.frames_deeper hB, .inr ⟨rfl, rfl⟩, fun b hb => ⟨Nat.ne_of_lt (hfo b hb), fun x c h => (hf b hb).2.2.2.2.1 x c (hcl h)⟩,
      J.bs, Nat.le_trans J.ok.bsz J.sz, fun b o e hb => ?_, exst, J.stack, J.stkFree⟩, os, bare, Un.kept keep, ⟨_, hns, fun i y v h1 h2 h3 => ?_⟩, fun y c h => ?_, J.hok.fresh (Nat.le_refl _), fun y c h => J.freeC y c (hcl h), fun p hp => ?_, J.hok.kept keep, ?_⟩
  · have h' : sc.names.lookup x = some .cell ∨ sc.names.lookup x = some .free := h
    rcases h' with h' | h'
    · exact absurd rfl (G.cell _ (PySem.mem_of_lookup h'))
    · exact clo_some (.inr (PySem.mem_of_lookup h'))
  · rcases (hf b hb).2.2.2.1 with z | z
    · exact J.ok.noex b o e z
    · exact absurd (Nat.lt_of_lt_of_le (Heap.lt_size (J.ok.bs b o e).1) z) (Nat.lt_irrefl _)
  · have h1' : N[i]? = some y := h1
    by_cases hi : i < nx
    · unfold caps at h2
      rw [List.getElem?_append_left (by simpa using hi), List.getElem?_replicate] at h2
      split at h2 <;> cases h2
    · have hi' : nx ≤ i := Nat.le_of_not_lt hi
      have hd : (N.drop nx)[i - nx]? = some y := by rw [List.getElem?_drop, show nx + (i - nx) = i by omega]; exact h1'
      have h4 : (σ[X.N.idxOf y]?).join = some v := by
        unfold caps at h2
        rw [List.getElem?_append_right (by simpa using hi'), List.length_replicate, List.getElem?_map, hd] at h2
        exact Option.some.inj h2
      have h5 : σ[X.N.idxOf y]? = some (some v) := by
        cases q : σ[X.N.idxOf y]? with
        | none =>
          rw [q] at h4
          cases h4
        | some o =>
          rw [q] at h4
          exact congrArg some h4
      have hlt : X.N.idxOf y < X.N.length := by
        have := (List.getElem?_eq_some_iff.mp h5).1
        rw [J.len] at this
        exact this
      have hN : X.N[X.N.idxOf y]? = some y := by
        rw [List.getElem?_eq_getElem hlt, List.getElem_idxOf hlt]
      have hfr := G.cap i y h1' hi'
      have hk := G.free _ (PySem.mem_of_lookup hfr) rfl
      obtain ⟨m, _, hl⟩ := J.loc
      obtain ⟨u, ru, lk⟩ := hl _ y v hN h5 (by rcases hk with z | z; exact .inr (.inl z); exact .inr (.inr z))
      refine ⟨u, ru, .inr ⟨.inr hfr, ?_⟩⟩
      rcases lk with ⟨z, _⟩ | ⟨_, c, e, ic⟩
      · have z' : X.env.kindOf y = some .local := z
        have hk' : X.env.kindOf y = some .cell ∨ X.env.kindOf y = some .free := hk
        rw [z'] at hk'
        rcases hk' with q | q <;> cases q
      · obtain ⟨c', e'⟩ := clo_some (cells := X.env.cells) (names := sc.names) (acc := []) (y := y) (.inr (PySem.mem_of_lookup hfr))
        have e2 := hcl e'
        rw [e] at e2
        cases e2
        exact ⟨c, e', ic.keeps keep⟩
  · obtain ⟨v, ic⟩ := J.cell y c (hcl h)
    exact ⟨v, ic.keeps keep⟩
  · have hp' : p = (a, go) := by simpa [gx] using hp
    subst hp'
    exact ⟨hg, J.hok.fresh (Nat.le_of_lt ha), Nat.ne_of_gt ha, nst a (Nat.le_of_lt ha), hgd⟩
  · unfold caps
    show _ = N.length
    rw [List.length_append, List.length_replicate, List.length_map, List.length_drop]
    omega
end

theorem inv_swap {X : Cx} {pins : List (Addr × Obj)} {σ : L2.St} {H : Hp} {s s' : Shared} (I : Inv X pins σ H s) (hh : s'.heap = s.heap) (ho : s'.os = s.os) (hb : AllBare s'.gens) : Inv X pins σ H s' :=
  ⟨I.ok, ho.trans I.os, hb, by rw [hh]; exact I.base, by rw [hh]; exact I.loc, by rw [hh]; exact I.cell, I.free, I.freeC, by rw [hh]; exact I.pin, by rw [hh]; exact I.hok, I.len⟩
/-! ### the generator's code, run -/
/-- seen from the def that made it -/
def At (X : Cx) (s4 : Shared) (H : Hp) (fp : List Addr) (H' : Hp) (s : Shared) : Prop := s.os = s4.os ∧ AllBare s.gens ∧ Un (frs X.stack) fp H H' s4.heap s.heap ∧ HOk X.prog X.w H' s.heap
def RG (X : Cx) (s4 : Shared) (H : Hp) (fp : List Addr) (Q : VK) : GenEnd := fun n s₀ r s1 =>
  ((r = .ok (.ret .none) ∨ r = .ok .next) ∧ ∃ H', At X s4 H fp H' s1 ∧ Q (.bl true) H') ∨ ∃ e, r = .error e ∧ False
def YG (X : Cx) (s4 : Shared) (H : Hp) (fp : List Addr) (a : Addr) (g : Nat) (Q : VK) : Protocol := fun n s₀ v s1 kap =>
  s1.heap.NoLimit ∧ s1.heap.IsGen a g ∧ ∃ H', At X s4 H fp H' s1 ∧
    ((v = .bool true ∧ ∀ s2, s2.heap = s1.heap → s2.os = s1.os → AllBare s2.gens → kap (.send .none) s2) ∨ (v = .bool false ∧ Q (.bl false) H'))
section
variable {X : Cx} {N : List Str} {sc : Scope} {C : Addr} {code : Value} {s4 : Shared} {H4 : Hp} {B : Around} {fp : List Addr} {tg elt iter : Expr} {pos : Pos} {J : It} {it a : Addr} {go : Obj} {gn : Nat} {tn : Nat → Heap → Prop} {g : TG} {te : TE} {W : Nat → L2.St → Hp → Prop} {Q : VK} {Nn : Nat}
theorem gx_over {c : Code} (h : c = .compLoop (.GeneratorExp elt [⟨tg, iter, [], 0⟩] sc pos) 0 (.ref it) .none (gEnv X sc C code builtinsNs)) : B.over c [] = (gx X N sc C code builtinsNs s4 H4 (B.deeper (gEnv X sc C code builtinsNs)) fp).A := by
  rw [h]
  exact over_comp
theorem seg_ga (hco : sc.isCoroutine = false) (T : Turn X.prog X.w X.K tg J fp it tn)
    (hg : PG (gx X N sc C code builtinsNs s4 H4 (B.deeper (gEnv X sc C code builtinsNs)) fp) tg g) (he : PE (gx X N sc C code builtinsNs s4 H4 (B.deeper (gEnv X sc C code builtinsNs)) fp) elt te)
    (hgo : ∀ h : Heap, h.get? a = some go → h.IsGen a gn)
    (stat : ∀ H', (∀ b ∈ fp, H' b = none) → ∀ b ∈ fp, FpOk (gx X N sc C code builtinsNs s4 H4 (B.deeper (gEnv X sc C code builtinsNs)) fp) [(a, go)] H' b)
    (step : ∀ i σ' H', W i σ' H' → (i = Nn ∧ J.stop i H' ∧ Q (.bl true) H') ∨ (i < Nn ∧ J.go i H' ∧ ∀ x H'', J.yld i H' x H'' → g x σ' H'' fun σ2 H3 => te σ2 H3 fun v H4 => (v = .bl true ∧ W (i + 1) σ2 H4) ∨ (v = .bl false ∧ Q (.bl false) H4))) :
    ∀ (n i : Nat) (s₀ s : Shared) (σ : L2.St) (H : Hp), n + i = Nn → Inv (gx X N sc C code builtinsNs s4 H4 (B.deeper (gEnv X sc C code builtinsNs)) fp) [(a, go)] σ H s → (∀ b ∈ fp, H b = none) → tn i s.heap → W i σ H →
      Seg (model X.prog X.w) B (RG X s4 H4 fp Q) (YG X s4 H4 fp a gn Q) n s₀ (.compLoop (.GeneratorExp elt [⟨tg, iter, [], 0⟩] sc pos) 0 (.ref it) .none (gEnv X sc C code builtinsNs))
        ((model X.prog X.w).den (.compLoop (.GeneratorExp elt [⟨tg, iter, [], 0⟩] sc pos) 0 (.ref it) .none (gEnv X sc C code builtinsNs))) [] s := by
  have ov : B.over (.compLoop (.GeneratorExp elt [⟨tg, iter, [], 0⟩] sc pos) 0 (.ref it) .none (gEnv X sc C code builtinsNs)) [] = (gx X N sc C code builtinsNs s4 H4 (B.deeper (gEnv X sc C code builtinsNs)) fp).A := over_comp
  intro n
  induction n with
  | zero =>
    intro i s₀ s σ H hn I fr st w
    have hi : i = Nn := by omega
    show Seg _ B _ _ _ s₀ _ ((compTurn (.GeneratorExp elt [⟨tg, iter, [], 0⟩] sc pos) 0 (.ref it) .none (gEnv X sc C code builtinsNs)).onRaise (leaving (gEnv X sc C code builtinsNs))) [] s
    rw [compTurn_gen, Sem.onRaise_eq_wrap]
    refine seg_bind_wrap (wpAny_standAt ?_)
    rcases step i σ H w with ⟨_, stop, q⟩ | ⟨lt, _⟩
    · refine seg_bind_wrap ?_
      rw [ov]
      refine wpAny_mono (T.done (gx X N sc C code builtinsNs s4 H4 (B.deeper (gEnv X sc C code builtinsNs)) fp) rfl rfl rfl rfl i [(a, go)] s σ H _ I (stat H fr) st stop) (fun r s1 ⟨hr, I1⟩ => ?_) fun _ _ e => e
      subst hr
      exact seg_end (.ok .next) (.inl ⟨.inr rfl, H, ⟨I1.os, I1.bare, I1.base, I1.hok⟩, q⟩)
    · omega
  | succ n ih =>
    intro i s₀ s σ H hn I fr st w
    show Seg _ B _ _ _ s₀ _ ((compTurn (.GeneratorExp elt [⟨tg, iter, [], 0⟩] sc pos) 0 (.ref it) .none (gEnv X sc C code builtinsNs)).onRaise (leaving (gEnv X sc C code builtinsNs))) [] s
    rw [compTurn_gen, Sem.onRaise_eq_wrap]
    refine seg_bind_wrap (wpAny_standAt ?_)
    rcases step i σ H w with ⟨e, _⟩ | ⟨lt, hgo1, nxt⟩
    · omega
    · refine seg_bind_wrap ?_
      rw [ov]
      refine wpAny_mono (T.item (gx X N sc C code builtinsNs s4 H4 (B.deeper (gEnv X sc C code builtinsNs)) fp) rfl rfl rfl rfl i [(a, go)] s σ H _ I (stat H fr) st hgo1) (fun r s1 ⟨u, hr, hq⟩ => ?_) fun _ _ e => e
      subst hr
      refine seg_bind_wrap ?_
      rw [ov]
      refine wpAny_mono hq (fun _ s2 ⟨x, H2, I2, rv, yl, st2, fr2⟩ => ?_) fun _ _ e => e
      have I2p := I2.pinned (stat H2 fr2) (fun b hb => T.obj _ _ st2 b hb)
      refine seg_bind_wrap ?_
      rw [ov]
      refine wpAny_mono (hg.run _ s2 σ H2 x u _ I2p rv (nxt x H2 yl)) (fun _ s3 ⟨σ3, H3, I3, q3⟩ => ?_) fun _ _ e => False.elim e
      refine seg_bind_wrap ?_
      simp only [List.forIn_nil]
      refine wpAny_pure ?_
      simp only [if_true]
      have hy : ∀ v, yieldOut (gEnv X sc C code builtinsNs) v = yieldValue v := fun v => by
        have : (gEnv X sc C code builtinsNs).scope.isCoroutine = false := hco
        simp only [yieldOut, this, Bool.false_eq_true, if_false]
      simp only [hy]
      rw [Sem.bind_eq_wrap', Sem.bind_eq_wrap', Sem.wrap_wrap, Sem.wrap_wrap]
      refine seg_wrap ?_
      rw [ov]
      refine wpAny_mono (he.run _ s3 σ3 H3 _ I3 q3) (fun y s5 ⟨v, H5, I5, r5, q5⟩ => ?_) fun _ _ e => False.elim e
      have fr5 : ∀ b ∈ fp, H5 b = none := fun b hb => by
        obtain ⟨o, ho, _⟩ := T.obj _ _ st2 b hb
        exact (I5.pin (b, o) (List.mem_append_right _ (List.mem_append_right _ (mem_pinsAt hb ho)))).2.1
      have st5 : tn (i + 1) s5.heap := T.keep _ _ _ st2 fun b hb o ho => (I5.pin (b, o) (List.mem_append_right _ (List.mem_append_right _ (mem_pinsAt hb ho)))).1
      have I6 := I5.unpinned
      have hga : s5.heap.get? a = some go := (I6.pin (a, go) (List.mem_append_right _ List.mem_cons_self)).1
      refine seg_at (seg_yield rfl rfl rfl ⟨I6.nolimit, hgo _ hga, H5, ⟨I6.os, I6.bare, I6.base, I6.hok⟩, ?_⟩)
      rcases q5 with ⟨rfl, w5⟩ | ⟨rfl, q5⟩
      · refine .inl ⟨r5, fun s6 hh ho hb => ?_⟩
        have I7 := inv_swap I6 hh ho hb
        exact seg_again rfl (ih (i + 1) s6 s6 σ3 H5 (by omega) I7 fr5 (by rw [hh]; exact st5) w5)
      · exact .inr ⟨r5, q5⟩

theorem seg_ga0 (hco : sc.isCoroutine = false) (T : Turn X.prog X.w X.K tg J fp it tn)
    (hg : PG (gx X N sc C code builtinsNs s4 H4 (B.deeper (gEnv X sc C code builtinsNs)) fp) tg g) (he : PE (gx X N sc C code builtinsNs s4 H4 (B.deeper (gEnv X sc C code builtinsNs)) fp) elt te)
    (hgo : ∀ h : Heap, h.get? a = some go → h.IsGen a gn)
    (stat : ∀ H', (∀ b ∈ fp, H' b = none) → ∀ b ∈ fp, FpOk (gx X N sc C code builtinsNs s4 H4 (B.deeper (gEnv X sc C code builtinsNs)) fp) [(a, go)] H' b)
    (step : ∀ i σ' H', W i σ' H' → (i = Nn ∧ J.stop i H' ∧ Q (.bl true) H') ∨ (i < Nn ∧ J.go i H' ∧ ∀ x H'', J.yld i H' x H'' → g x σ' H'' fun σ2 H3 => te σ2 H3 fun v H4 => (v = .bl true ∧ W (i + 1) σ2 H4) ∨ (v = .bl false ∧ Q (.bl false) H4)))
    (s₀ s : Shared) (σ : L2.St) (H : Hp) (I : Inv (gx X N sc C code builtinsNs s4 H4 (B.deeper (gEnv X sc C code builtinsNs)) fp) [(a, go)] σ H s) (fr : ∀ b ∈ fp, H b = none) (st : tn 0 s.heap) (w : W 0 σ H) :
      Seg (model X.prog X.w) B (RG X s4 H4 fp Q) (YG X s4 H4 fp a gn Q) Nn s₀ (.compStart (.GeneratorExp elt [⟨tg, iter, [], 0⟩] sc pos) 0 (.ref it) .none (gEnv X sc C code builtinsNs))
        ((model X.prog X.w).den (.compStart (.GeneratorExp elt [⟨tg, iter, [], 0⟩] sc pos) 0 (.ref it) .none (gEnv X sc C code builtinsNs))) [] s := by
  have loop := seg_ga (pos := pos) (iter := iter) hco T hg he hgo stat step Nn 0 s₀ s σ H (Nat.add_zero _) I fr st w
  show Seg _ B _ _ _ s₀ _ ((compStart (.GeneratorExp elt [⟨tg, iter, [], 0⟩] sc pos) 0 (.ref it) .none (gEnv X sc C code builtinsNs)).onRaise (leaving (gEnv X sc C code builtinsNs))) [] s
  unfold compStart
  rw [Sem.onRaise_eq_wrap]
  show Seg _ B _ _ _ s₀ _ ((ask >>= _).wrap _ _ _ _) [] s
  refine seg_bind_wrap (wpAny_askSetting ?_)
  split
  · exact seg_again rfl loop
  · first
      | exact seg_bind_wrap (wpAny_rule (seg_bind_wrap (wpAny_standAt (seg_bind_wrap (T.self _ 0 s _ _ st (seg_again rfl loop))))))
      | (refine seg_bind_wrap (wpAny_rule ?_); show Seg _ B _ _ _ s₀ _ ((standAt iter.pos >>= _).wrap _ _ _ _) [] s; exact seg_bind_wrap (wpAny_standAt (seg_bind_wrap (T.self _ 0 s _ _ st (seg_again rfl loop)))))
end
/-! ### all over such a generator -/
theorem At.kept {X : Cx} {s4 : Shared} {H : Hp} {fp : List Addr} {H' : Hp} {s s' : Shared} (h : At X s4 H fp H' s) (k : ∀ b o, s.heap.get? b = some o → s'.heap.get? b = some o) (ho : s'.os = s.os) (hb : AllBare s'.gens) : At X s4 H fp H' s' :=
  ⟨ho.trans h.1, hb, h.2.2.1.trans (Un.kept k), h.2.2.2.kept k⟩
section
variable {X : Cx} {s4 : Shared} {H4 : Hp} {fp : List Addr} {a : Addr} {gn : Nat} {Q : VK} {A : Around} {R : Result → Shared → Prop}
theorem all_ga (hh : A.handled = none) (hd : A.depth < recursionLimit) (hT : ∀ s' H' b, At X s4 H4 fp H' s' → Q (.bl b) H' → R (.ok (.ret (.bool b))) s') :
    ∀ (n : Nat) (s : Shared), s.heap.IsGen a gn → s.heap.NoLimit →
      (∃ gs, s.gens[gn]? = some gs ∧ gs.Goes (model X.prog X.w) A.in1.in1 (RG X s4 H4 fp Q) (YG X s4 H4 fp a gn Q) n (.send .none) (s.setGen gn .running)) →
      codeAny (model X.prog X.w) A (.builtin "all.loop" ⟨[.ref a], []⟩) R s := by
  have goes : ∀ {gs : GenState} {B : Around} {n : Nat} {r : Resume} {s : Shared}, gs.Goes (model X.prog X.w) B (RG X s4 H4 fp Q) (YG X s4 H4 fp a gn Q) n r s →
      gs.Goes (model X.prog X.w) B (fun n s₀ r s1 => ((r = .ok (.ret .none) ∨ r = .ok .next) ∧ (∃ H', At X s4 H4 fp H' s1 ∧ Q (.bl true) H')) ∨ ∃ e, r = .error e ∧ False) (YG X s4 H4 fp a gn Q) n r s := fun h => h
  intro n
  induction n with
  | zero =>
    intro s hg hl ⟨gs, hgs, hgo⟩
    refine codeAny_builtin F.entry_all_loop ?_
    rw [Around.under_plainId F.plain_all_loop _]
    show wpAny _ A.in1 (pyNext (.ref a) >>= _) _ _ s
    refine wpAny_bind (next_genG (A := A.in1) (Er := fun _ _ => False) hh hl hd hg hgs (goes hgo) (fun v s₁ gs' hbare hv => ?_) (fun s₁ hp h' hk => ?_) fun e s₁ he => he.elim)
    · obtain ⟨_, _, H', at1, hv⟩ := hv
      rcases hv with ⟨_, k⟩ | ⟨rfl, q⟩
      · exact False.elim (k s₁ rfl rfl at1.2.1)
      · refine wpAny_bind (wpAny_holding (wpAny_truthy_bool ?_))
        refine wpAny_bind (wpAny_letGo ?_)
        simp only [Bool.false_eq_true, if_false]
        refine wpAny_bind (wpAny_rule (wpAny_pure ?_))
        exact hT _ H' false (at1.kept (fun _ _ e => e) rfl (allBare_setGen at1.2.1 hbare)) q
    · obtain ⟨H', at1, q⟩ := hp
      refine wpAny_bind (wpAny_rule (wpAny_pure ?_))
      exact hT _ H' true (at1.kept hk rfl (allBare_setGen at1.2.1 rfl)) q
  | succ n ih =>
    intro s hg hl ⟨gs, hgs, hgo⟩
    have hgl : gn < s.gens.size := (Array.getElem?_eq_some_iff.mp hgs).1
    refine codeAny_builtin F.entry_all_loop ?_
    rw [Around.under_plainId F.plain_all_loop _]
    show wpAny _ A.in1 (pyNext (.ref a) >>= _) _ _ s
    refine wpAny_bind (wpAny_gsz (n := gn + 1) hgl (next_genG (A := A.in1) (Er := fun _ _ => False) hh hl hd hg hgs (goes hgo) (fun v s₁ gs' hbare hv => ?_) (fun s₁ hp h' hk => ?_) fun e s₁ he => he.elim))
    · intro hsz
      obtain ⟨hl1, hg1, H', at1, hv⟩ := hv
      rcases hv with ⟨rfl, k⟩ | ⟨rfl, q⟩
      · refine wpAny_bind (wpAny_holding (wpAny_truthy_bool ?_))
        refine wpAny_bind (wpAny_letGo ?_)
        simp only [if_true]
        have hsz1 : gn < s₁.gens.size := by
          have q : (s₁.setGen gn gs').gens.size = s₁.gens.size := setGen_size _ _ _
          have hsz' : gn + 1 ≤ (s₁.setGen gn gs').gens.size := hsz
          omega
        refine wpAny_pure ⟨plainId_quiet F.plain_all_loop _, ih (s₁.setGen gn gs') hg1 hl1 ⟨gs', setGen_at hsz1, ?_⟩⟩
        exact k _ rfl rfl (allBare_setGen (allBare_setGen at1.2.1 hbare) rfl)
      · refine wpAny_bind (wpAny_holding (wpAny_truthy_bool ?_))
        refine wpAny_bind (wpAny_letGo ?_)
        simp only [Bool.false_eq_true, if_false]
        refine wpAny_bind (wpAny_rule (wpAny_pure ?_))
        exact hT _ H' false (at1.kept (fun _ _ e => e) rfl (allBare_setGen at1.2.1 hbare)) q
    · intro hsz
      obtain ⟨H', at1, q⟩ := hp
      refine wpAny_bind (wpAny_rule (wpAny_pure ?_))
      exact hT _ H' true (at1.kept hk rfl (allBare_setGen at1.2.1 rfl)) q
end

/-! ### the expression -/
/-- all(elt for target in iter): Nn turns at most; W what holds ahead of the i-th -/
def tAllW (X : Cx) (P : Addr) (N : List Str) (nx : Nat) (wi : TI) (g : TG) (te : TE) : TE := fun σ H Q => wi σ H fun J H1 => TabG H1 P ∧ ∀ H2, Tabbed P H1 H2 →
  ∃ (Nn : Nat) (W : Nat → L2.St → Hp → Prop), W 0 (caps X N nx σ) H2 ∧ ∀ i σ' H', W i σ' H' → (i = Nn ∧ J.stop i H' ∧ Q (.bl true) H') ∨
    (i < Nn ∧ J.go i H' ∧ ∀ x H'', J.yld i H' x H'' → g x σ' H'' fun σ2 H3 => te σ2 H3 fun v H4 => (v = .bl true ∧ W (i + 1) σ2 H4) ∨ (v = .bl false ∧ Q (.bl false) H4))
section
variable {X : Cx} {pl : List (Addr × Obj)} {st : L2.St} {hp : Hp} {z : Shared}
theorem pe_allW {c P : Addr} {elt iter tg : Expr} {p pos gp : Pos} {sc : Scope} {N : List Str} {nx : Nat} {wi : TI} {g : TG} {te : TE} {k : Nat}
    (room : Room (k + 1) X.A) (hg : Gl X "all") (hm : X.mg "all" = none) (hb : bootBuiltins "all" = some (.builtin "all")) (tb : TabB X.base X.mg c P) (cd : X.env.code = .ref c) (G : GSc X N nx sc) (hx : nx ≤ N.length) (hi : PI X tg iter wi)
    (hpg : ∀ (C : Addr) (code : Value) (s4 : Shared) (H4 : Hp) (A : Around) (fp : List Addr), Room k A → PG (gx X N sc C code builtinsNs s4 H4 A fp) tg g)
    (hpe : ∀ (C : Addr) (code : Value) (s4 : Shared) (H4 : Hp) (A : Around) (fp : List Addr), Room k A → PE (gx X N sc C code builtinsNs s4 H4 A fp) elt te)
    (fold : ∀ v, genFold iter X.env v = pure v)
    (se : starEach [.GeneratorExp elt [⟨tg, iter, [], 0⟩] sc gp] X.env = (false, eval (.GeneratorExp elt [⟨tg, iter, [], 0⟩] sc gp) X.env) :: starEach [] X.env := by rfl) :
    PE X (.Call (.Name "all" p) [.GeneratorExp elt [⟨tg, iter, [], 0⟩] sc gp] [] pos) (tAllW X P N nx wi g te) := by
  refine ⟨fun pl z st hp Q inv yes => ?_⟩
  have glob : X.env.globals = mainGlobals := inv.ok.glob
  refine wpAny_Call_Name_kw (ld_blt inv hg hm hb ?_)
  refine PyProof.Rows.callWith_builtin1 ?_ se (by rfl)
  rw [se]
  show wpAny _ _ (spliced ((false, eval (.GeneratorExp elt [⟨tg, iter, [], 0⟩] sc gp) X.env) :: backTo pos (starEach [] X.env))) _ _ z
  refine Calls.spliced_cons ?_
  have hfree : ∀ y ∈ sc.names, y.2 = .free → ∃ c, X.env.cells.lookup y.1 = some c := fun y hy e => inv.ok.has _ (G.free y hy e)
  refine wpAny_GeneratorExp_make G.co (closure_ok hfree) G.cell G.dot G.kind (by have := room.dp; omega) ?_ fold
  refine thn (hi.run pl z st hp _ inv yes) fun xv s1 h1 => thn h1 fun itv s2 ⟨it, fp, tn, J, H1, e1, I2, T, st2, f2, ⟨⟨tab, hT, tri⟩, yes2⟩⟩ => ⟨I2.nolimit, ?_⟩
  subst e1
  have tabAt : s2.heap.get? P = some { cls := .none, data := .fields tab } := I2.hok P _ hT
  have code2 : PySem.W.CodeHd s2.heap c P := tb.code.keeps fun b u q => I2.bk b u q
  have nsG : s2.heap.Ns mainGlobals X.mg := I2.mod.glob.keeps I2.bk
  have fpP : ∀ b ∈ fp, b ≠ P := fun b hb e => by
    have h0 := (f2 b hb).1
    rw [e, hT] at h0
    cases h0
  have rest : ∀ (cv : Value) (h3 : Heap) (t3 : Nat) (tab' : Array Value), Heap.ExtBut P s2.heap h3 → s2.heap.objs.size ≤ h3.objs.size → h3.get? P = some { cls := .none, data := .fields tab' } →
      (∃ more, tab' = tab ++ more) → TriplesOk tab'.toList →
      wpAny (model X.prog X.w) X.A (builtinsFor X.env.globals X.env.builtins) (fun bi s₄ => ∀ h', h'.Ns s₄.heap.objs.size (fun y => if y = ".0" then some (.ref it) else none) → Heap.SameBut s₄.heap.objs.size (s₄.heap.push { cls := .type "frame", data := .dict #[] }) h' →
        wpAny (model X.prog X.w) X.A (spliced (backTo pos (starEach [] X.env))) (fun vs s' => wpAny (model X.prog X.w) X.A (call (.builtin "all") (.ref h'.objs.size :: vs)) (EP X pl st Q) X.xe s') X.xe { s₄ with
            gens := s₄.gens.push (.fresh (.compStart (.GeneratorExp elt [⟨tg, iter, [], 0⟩] sc gp) 0 (.ref it) .none (genEnv sc (cloFrom X.env.cells sc.names []) s₄.heap.objs.size cv bi X.env))),
            toks := s₄.toks + 1 + 1 + 1,
            heap := h'.push { cls := .type "generator", data := .fields #[.int s₄.gens.size 0, .str "<genexpr>" (s₄.toks + 1), .str (X.env.qual ++ "<genexpr>") (s₄.toks + 1 + 1)] } }) X.xe { s2 with heap := h3, toks := t3 } := by
    intro cv h3 t3 tab' ext big tabAt3 ⟨more, em⟩ tri3
    obtain ⟨bm, ob, b1, b2, b3, b4, b5, b6, b7, b8⟩ := tb.bm
    have stay : ∀ b u, b ≠ P → s2.heap.get? b = some u → h3.get? b = some u := fun b u hb q => ext b u hb q
    have nsG3 : h3.Ns mainGlobals X.mg := nsG.extBut ext tb.gP
    refine wpAny_builtinsFor (m := X.mg) (by rw [glob]; exact nsG3) b1 b2 (stay _ _ b4 (I2.bk _ _ b5)) b6 b7 b8 ?_
    intro h' hns hsb
    have I4 := inv_tab (more := more) (h' := h3) (g' := s2.gens) (d' := s2.drawn) (t' := t3) I2 hT (fun b u hb q => stay b u hb q) (by rw [← em]; exact tabAt3) I2.bare
    have td : Tabbed P H1 (upd H1 P (.tbl (tab ++ more))) := ⟨⟨tab ++ more, upd_same, by rw [← em]; exact tri3⟩, fun b hb => upd_ne hb⟩
    obtain ⟨Nn, W, w0, step⟩ := yes2 _ td
    have f4 : ∀ b ∈ fp, FpOk X pl (upd H1 P (.tbl (tab ++ more))) b := fun b hb => ⟨by rw [upd_ne (fpP b hb)]; exact (f2 b hb).1, (f2 b hb).2⟩
    have st4 : tn 0 h3 := T.keep _ _ _ st2 fun b hb o q => stay b o (fpP b hb) q
    have hfo : ∀ b ∈ fp, b < h3.objs.size := fun b hb => by
      obtain ⟨o, q, _⟩ := T.obj _ _ st4 b hb
      exact Heap.lt_size q
    have hsz : h'.objs.size = h3.objs.size + 1 := by rw [hsb.1, Heap.size_push]
    have keep' : ∀ b o, h3.get? b = some o → h'.get? b = some o := fun b o e => hsb.extBut b o (Nat.ne_of_lt (Heap.lt_size e)) (Heap.get?_push_of_some _ e)
    refine Calls.spliced_nil ?_
    have keep5 : ∀ b o, h3.get? b = some o → (h'.push { cls := .type "generator", data := .fields #[.int s2.gens.size 0, .str "<genexpr>" (t3 + 1), .str (X.env.qual ++ "<genexpr>") (t3 + 1 + 1)] }).get? b = some o :=
      fun b o e => Heap.get?_push_of_some _ (keep' b o e)
    have hgen : ∀ h : Heap, h.get? h'.objs.size = some { cls := .type "generator", data := .fields #[.int s2.gens.size 0, .str "<genexpr>" (t3 + 1), .str (X.env.qual ++ "<genexpr>") (t3 + 1 + 1)] } → h.IsGen h'.objs.size s2.gens.size := fun h e => ⟨_, _, _, e, rfl, rfl, rfl⟩
    have hge : (h'.push { cls := .type "generator", data := .fields #[.int s2.gens.size 0, .str "<genexpr>" (t3 + 1), .str (X.env.qual ++ "<genexpr>") (t3 + 1 + 1)] }).get? h'.objs.size = some { cls := .type "generator", data := .fields #[.int s2.gens.size 0, .str "<genexpr>" (t3 + 1), .str (X.env.qual ++ "<genexpr>") (t3 + 1 + 1)] } := Heap.get?_push_size _ rfl
    have bare5 : AllBare (s2.gens.push (.fresh (.compStart (.GeneratorExp elt [⟨tg, iter, [], 0⟩] sc gp) 0 (.ref it) .none (genEnv sc (cloFrom X.env.cells sc.names []) h3.objs.size cv builtinsNs X.env)))) := I2.bare.push rfl
    refine call_function_tree F.kind_all F.plain_all F.entry_all (F.args_all1 _) ?_
    unfold Builtin.«all»
    refine wpAny_bind (m := oneArg "all" _) (wpAny_pure ?_)
    refine wpAny_bind (wpAny_pyIter_gen (hgen _ hge) ?_)
    refine wpAny_pure ⟨plainId_quiet F.plain_all_loop _, ?_⟩
    refine all_ga (X := X) (s4 := { s2 with heap := h3, toks := t3 }) (H4 := upd H1 P (.tbl (tab ++ more))) (fp := fp) (Q := Q) (gn := s2.gens.size) (A := X.A) room.hd (by have := room.dp; omega) (fun s' H' b at1 q => ?_) Nn _ (hgen _ hge) (I4.nolimit.keeps keep5) ⟨_, Array.getElem?_push_size .., rfl, ?_⟩
    · have I9 := I4.call' (ch := fp) at1.1 at1.2.2.1 at1.2.2.2 at1.2.1 fun b hb => ⟨(f4 b hb).2.2.2.1, (f4 b hb).2.1, (f4 b hb).2.2.2.2.1, (f4 b hb).2.2.2.2.2⟩
      exact ⟨.bl b, H', I9, rfl, q⟩
    · have ha : h3.objs.size < h'.objs.size := by omega
      have roomB : Room k (X.A.in1.in1.deeper (gEnv X sc h3.objs.size cv builtinsNs)) := ⟨room.hd, by have := room.dp; show X.A.depth + 1 + 3 * k + 5 < _; omega, by have := room.un; show X.A.units + 1 + 1 + 3 + 16 * k + 200 < _; omega⟩
      have I5 := inv_gx (X := X) (B := X.A.in1.in1) (code := cv) (fp := fp) (a := h'.objs.size) (it := .ref it) (s4 := { s2 with heap := h3, toks := t3 })
        (s5 := Shared.setGen { s2 with gens := s2.gens.push (.fresh (.compStart (.GeneratorExp elt [⟨tg, iter, [], 0⟩] sc gp) 0 (.ref it) .none (genEnv sc (cloFrom X.env.cells sc.names []) h3.objs.size cv builtinsNs X.env))), toks := t3 + 1 + 1 + 1, heap := h'.push { cls := .type "generator", data := .fields #[.int s2.gens.size 0, .str "<genexpr>" (t3 + 1), .str (X.env.qual ++ "<genexpr>") (t3 + 1 + 1)] } } s2.gens.size .running)
        G hx I4 I4.ok.frames room.hd f4 hfo keep5 (hns.push _) rfl (allBare_setGen bare5 rfl) ha hge (fun v q => by cases q)
      refine seg_ga0 (X := X) (N := N) (sc := sc) (C := h3.objs.size) (code := cv) (s4 := { s2 with heap := h3, toks := t3 }) (H4 := upd H1 P (.tbl (tab ++ more))) (B := X.A.in1.in1) (fp := fp) (a := h'.objs.size) (gn := s2.gens.size) (Q := Q) (W := W) (Nn := Nn)
        G.co T (hpg _ _ _ _ _ _ roomB) (hpe _ _ _ _ _ _ roomB) hgen (fun H' hn b hb => ?_) step _ _ _ _ I5 (fun b hb => (f4 b hb).1) (T.keep _ _ _ st4 fun b hb o q => keep5 b o q) w0
      refine ⟨hn b hb, Nat.ne_of_lt (hfo b hb), fun hm => ?_, .inl hb, fun y c h => (f4 b hb).2.2.2.2.1 y c (clo_eq hfree h), fun q hq => ?_⟩
      · rcases List.mem_cons.mp (I4.stkSub b hm) with z | z
        · exact (f4 b hb).2.1 z
        · exact (f4 b hb).2.2.1 z
      · have h7 := hq
        simp [gx] at h7
        rw [h7]
        exact Nat.ne_of_gt (Nat.lt_trans (hfo b hb) ha)
  cases among : codeAmong gp tab.toList with
  | none =>
    refine wpAny_genexprCodeX cd (code2.code tabAt tri) (code2.tab tabAt) among fun c2 h2 t2 ext ge lt isC _ tabE _ => ?_
    obtain ⟨o1, vs, f1, tf, fl, tg', inF, tx, tt, op, _, _, _, _, _, _, _, _, _, tr2, _⟩ := isC
    exact rest _ h2 t2 _ ext (Nat.le_trans ge (Nat.le_of_lt lt)) tabE.2 ⟨_, rfl⟩ tr2
  | some cv =>
    refine wpAny_genexprCode_hit cd (code2.code tabAt tri) among ?_
    exact rest cv s2.heap s2.toks tab (Heap.ExtBut.refl _ _) (Nat.le_refl _) tabAt ⟨#[], by simp⟩ tri
end
end GA
namespace GA
open PySem PySem.Spec PyProof.Rows L2 GxR GenW
/-- a scope without captured names -/
theorem gsc0 {X : Cx} {N : List Str} {nx : Nat} {sc : Scope} (h1 : sc.kind = .function) (h2 : sc.isCoroutine = false) (h3 : sc.names.lookup (".0" : Str) = some NameKind.local)
    (h4 : (sc.names.all fun y => decide (y.2 ≠ .cell) && decide (y.2 ≠ .free)) = true) (h5 : N.length ≤ nx) : GSc X N nx sc := by
  have q : ∀ y ∈ sc.names, y.2 ≠ .cell ∧ y.2 ≠ .free := fun y hy => by
    have := List.all_eq_true.mp h4 y hy
    rw [Bool.and_eq_true, decide_eq_true_eq, decide_eq_true_eq] at this
    exact this
  exact ⟨h1, h2, fun y hy => (q y hy).1, h3, fun y hy e => absurd e (q y hy).2, fun i y hi hn => absurd (List.getElem?_eq_some_iff.mp hi).1 (by omega)⟩
/-- a def as it stands behind the top, its code object at c -/
structure DefC (K : PySem.W.Frag) (x qual : Str) (st : Stmt) (c : Addr) (f : Addr) (fd : FuncData) : Prop where
  ex : ∃ (oc : Value) (od : Option Addr) (dV kV doc pm : Value) (an : Option Addr) (ct : Value) (osl : Array (Option Value)),
    fd = PySem.W.fnOf x qual (defArgs st) (defBody st) (defScope st) dV kV doc pm an (.ref c) ct ∧ K.lookup f = some ⟨oc, od, .func fd, osl⟩ ∧ PySem.W.codeIn K (.ref c) qual = true
section
variable {P : Program} {w : World} {K : PySem.W.Frag} {mg : Str → Option Value} {base : Heap} {x qual : Str} {st : Stmt} {c f : Addr} {fd : FuncData}
theorem DefC.ok {CX : CXT} {N ps : List Str} {k : Nat} {sp : Sp} (F : DefC K x qual st c f fd) (S : FnScope N ps (defScope st)) (len : ∀ vs H Q E, sp vs H Q E → vs.length = ps.length)
    (hbody : ∀ (A : Around) (outer : List Env) (s : Shared) (H : Hp) (vs : List V) (Q : VK) (E : XK), Room k (A.deeper (envOfC qual (defScope st) s.heap.objs.size f (.ref c))) → sp vs H Q E →
      ∃ t, PSs (cxOf CX P w K mg base N qual (defScope st) f (.ref c) A outer s H E) (defBody st) t ∧ t { nx := fun _ H' => Q .non H', rt := Q } (start N vs) H) : FnOk P w K mg base CX (k + 1) f fd ps sp := by
  obtain ⟨oc, od, dV, kV, doc, pm, an, ct, osl, rfl, lk, hcd⟩ := F.ex
  exact fn_of lk hcd S len fun A outer s H vs Q E hr hsp => hbody A outer s H vs Q E hr hsp
end
end GA

namespace SL
open PySem PySem.Spec PyProof.Rows L2 SX
/-! ### texts by their code points: rules -/
variable {X : Cx}
theorem pe_strL {x : Str} {j pos} (l : List Nat) (h : x = S l) : PE X (.Constant (.str x) j pos) (tC (.str (S l))) := by
  subst h
  exact pe_str
theorem V_str_S {a b : List Nat} : decide (V.str (S a) = V.str (S b)) = decide (a = b) := by
  rw [decide_eq_decide]
  exact ⟨fun h => S_inj (V.str.inj h), fun h => by rw [h]⟩
def rEqL : R2 := fun x y H Q => ∃ a b, x = .str (S a) ∧ y = .str (S b) ∧ Q (.bl (decide (a = b))) H
def rNeL : R2 := fun x y H Q => ∃ a b, x = .str (S a) ∧ y = .str (S b) ∧ Q (.bl (!decide (a = b))) H
theorem op_eqL : OpR X (compareOp .Eq) rEqL := by
  intro pins s σ H x y v u Q I rx ry h
  obtain ⟨a, b, rfl, rfl, q⟩ := h
  exact op_eq pins s σ H _ _ v u Q I rx ry ⟨rfl, by rw [V_str_S]; exact q⟩
theorem op_neL : OpR X (compareOp .NotEq) rNeL := by
  intro pins s σ H x y v u Q I rx ry h
  obtain ⟨a, b, rfl, rfl, q⟩ := h
  exact op_ne pins s σ H _ _ v u Q I rx ry ⟨rfl, by rw [V_str_S]; exact q⟩
theorem sz {n : Nat} (h : n ≤ 100000) : n ≤ sizeLine := Nat.le_trans h (by decide)
def rAddL : R2 := fun x y H Q => ∃ a b, x = .str (S a) ∧ y = .str (S b) ∧ a.length + b.length ≤ 100000 ∧ Q (.str (S (a ++ b))) H
theorem op_addL : OpR X (binaryOp .Add) rAddL := by
  intro pins s σ H x y v u Q I rx ry h
  obtain ⟨a, b, rfl, rfl, hz, q⟩ := h
  exact op_add_str pins s σ H _ _ v u Q I rx ry ⟨S a, S b, rfl, rfl, by rw [S_len, S_len]; exact sz hz, by rw [S_cat]; exact q⟩
theorem iop_addL : OpR X (inplaceOp .Add) rAddL := by
  intro pins s σ H x y v u Q I rx ry h
  obtain ⟨a, b, rfl, rfl, hz, q⟩ := h
  exact iop_add_str pins s σ H _ _ v u Q I rx ry ⟨S a, S b, rfl, rfl, by rw [S_len, S_len]; exact sz hz, by rw [S_cat]; exact q⟩
theorem occ_nil (a : List Nat) : (!(Builtin.Str.occurrences (S a) (S []) 0 (S a).length 1).isEmpty) = true :=
  (StrLaws.found_iff (S a) (S [])).mpr ⟨0, Nat.zero_le _, by rw [StrLaws.subAt_eq]; rfl⟩
/-- is b, a sign or nothing, in a -/
def inL (b a : List Nat) : Bool := match b with
  | [] => true
  | c :: _ => decide (c ∈ a)
theorem occ_in {b a : List Nat} (h : b.length ≤ 1) : (!(Builtin.Str.occurrences (S a) (S b) 0 (S a).length 1).isEmpty) = inL b a := by
  match b, h with
  | [], _ => exact occ_nil a
  | [c], _ => exact in_one a c
  | _ :: _ :: _, h => simp at h
def rInL : R2 := fun x y H Q => ∃ b a, x = .str (S b) ∧ y = .str (S a) ∧ b.length ≤ 1 ∧ Q (.bl (inL b a)) H
def rNotInL : R2 := fun x y H Q => ∃ b a, x = .str (S b) ∧ y = .str (S a) ∧ b.length ≤ 1 ∧ Q (.bl (!inL b a)) H
theorem op_inL : OpR X (compareOp .In) rInL := by
  intro pins s σ H x y v u Q I rx ry h
  obtain ⟨b, a, rfl, rfl, hz, q⟩ := h
  exact op_in_str pins s σ H _ _ v u Q I rx ry ⟨S b, S a, rfl, rfl, by rw [occ_in hz]; exact q⟩
theorem op_notInL : OpR X (compareOp .NotIn) rNotInL := by
  intro pins s σ H x y v u Q I rx ry h
  obtain ⟨b, a, rfl, rfl, hz, q⟩ := h
  exact op_notin_str pins s σ H _ _ v u Q I rx ry ⟨S b, S a, rfl, rfl, by rw [occ_in hz]; exact q⟩
/-- an item, from the left -/
def rIxSL : R2 := fun x y H Q => ∃ a i, x = .str (S a) ∧ y = .int i ∧ a.length ≤ 100000 ∧ 0 ≤ i ∧ i < a.length ∧ ∀ c, a[i.toNat]? = some c → Q (.str (S [c])) H
theorem ix_strL : IxR X rIxSL := by
  have hh : ∀ {x y : V} {H : Hp} {Q : VK}, rIxSL x y H Q → rIxS x y H Q := by
    intro x y H Q h
    obtain ⟨a, i, rfl, rfl, hz, h0, h1, q⟩ := h
    obtain ⟨n, rfl⟩ := Int.eq_ofNat_of_zero_le h0
    have hn : n < a.length := by omega
    have e : a[n]? = some a[n] := List.getElem?_eq_getElem hn
    exact ⟨S a, (n : Int), a[n], rfl, rfl, by rw [S_len]; exact sz hz, atI_nat e, q _ e⟩
  intro value slice pins s σ H x y v u Q I rx ry h hsub
  exact ix_str value slice pins s σ H x y v u Q I rx ry (hh h) hsub
/-- slices with bounds from the left -/
def cutL (a : List Nat) (lo hi : Option Int) : List Nat := match hi with
  | none => a.drop (lo.getD 0).toNat
  | some h => (a.take h.toNat).drop (lo.getD 0).toNat
theorem sIx_pos {n d : Nat} {i : Int} (h : 0 ≤ i) : HT.sIx n d (some i) = min i.toNat n := by
  unfold HT.sIx
  first
    | (rw [if_neg (by omega)]; omega)
    | (simp only; split <;> omega)
theorem cutS_L {a : List Nat} {lo hi : Option Int} (h1 : 0 ≤ lo.getD 0) (h2 : 0 ≤ hi.getD 0) : cutS (S a) lo hi = S (cutL a lo hi) := by
  have hl : (S a).length = a.length := S_len a
  have e0 : HT.sIx (S a).length 0 lo = min (lo.getD 0).toNat a.length := by
    rw [hl]
    cases lo with
    | none => show (0 : Nat) = _; simp
    | some i => exact sIx_pos h1
  unfold cutS
  rw [e0]
  refine congrArg S ?_
  show (a.drop _).take _ = _
  cases hi with
  | none =>
    have e1 : HT.sIx (S a).length (S a).length none = a.length := by rw [hl]; rfl
    rw [e1]
    show _ = a.drop (lo.getD 0).toNat
    rw [List.take_of_length_le (by rw [List.length_drop]; omega)]
    by_cases z : (lo.getD 0).toNat ≤ a.length
    · rw [Nat.min_eq_left z]
    · rw [Nat.min_eq_right (by omega), List.drop_eq_nil_of_le (Nat.le_refl _), List.drop_eq_nil_of_le (by omega)]
  | some h =>
    have e1 : HT.sIx (S a).length (S a).length (some h) = min h.toNat a.length := by rw [hl]; exact sIx_pos h2
    rw [e1]
    show _ = (a.take h.toNat).drop (lo.getD 0).toNat
    generalize (lo.getD 0).toNat = p
    generalize h.toNat = q
    rw [← List.drop_take]
    have ht : a.take (min q a.length) = a.take q := by
      by_cases z : q ≤ a.length
      · rw [Nat.min_eq_left z]
      · rw [Nat.min_eq_right (by omega), List.take_of_length_le (Nat.le_refl _), List.take_of_length_le (by omega)]
    rw [ht]
    by_cases z : p ≤ a.length
    · rw [Nat.min_eq_left z]
    · rw [Nat.min_eq_right (by omega), List.drop_eq_nil_of_le (by rw [List.length_take]; omega), List.drop_eq_nil_of_le (by rw [List.length_take]; omega)]
def rSlL : V → Option Int → Option Int → Hp → VK → Prop := fun x lo hi H Q => ∃ a, x = .str (S a) ∧ (a.length ≤ 100000 ∧ 0 ≤ lo.getD 0 ∧ 0 ≤ hi.getD 0) ∧ Q (.str (S (cutL a lo hi))) H
theorem sl_L : SlR X rSlL := by
  intro pins s σ H x v vl vu lo hi sl Q I rx hs pl pu h
  obtain ⟨a, rfl, ⟨hz, h1, h2⟩, q⟩ := h
  exact sl_str pins s σ H _ v vl vu lo hi sl Q I rx hs pl pu ⟨S a, rfl, by rw [S_len]; exact sz hz, by rw [cutS_L h1 h2]; exact q⟩
theorem call_lenL : CallR X (.builtin "len") (fun xs H Q => ∃ a, xs = [.str (S a)] ∧ a.length ≤ 100000 ∧ Q (.int a.length) H) := by
  intro pins s σ H xs us Q I r h
  obtain ⟨a, rfl, hz, q⟩ := h
  exact call_len_str pins s σ H _ us Q I r ⟨S a, rfl, by rw [S_len]; exact sz hz, by rw [S_len]; exact q⟩
end SL

/-! dotted names: a text as its parts, joined by points -/
namespace DN
open PySem PySem.Spec PyProof.Rows L2 SX
def dot (ps : List (List Nat)) : List Nat := TL.joinL [46] ps
theorem dot_nil : dot [] = [] := rfl
theorem dot_one (p : List Nat) : dot [p] = p := rfl
theorem dot_cons (p : List Nat) {ps : List (List Nat)} (h : ps ≠ []) : dot (p :: ps) = p ++ 46 :: dot ps := by
  cases ps with
  | nil => exact absurd rfl h
  | cons q r => rfl
theorem dot_snoc : ∀ {ps : List (List Nat)} (p : List Nat), ps ≠ [] → dot (ps ++ [p]) = dot ps ++ 46 :: p
  | [], _, h => absurd rfl h
  | [q], p, _ => rfl
  | q :: z :: r, p, _ => by
    rw [List.cons_append, dot_cons q (by simp), dot_snoc (ps := z :: r) p (by simp), dot_cons q (by simp), List.append_assoc]
    rfl
theorem dot_app : ∀ {ps qs : List (List Nat)}, ps ≠ [] → qs ≠ [] → dot (ps ++ qs) = dot ps ++ 46 :: dot qs
  | [], _, h, _ => absurd rfl h
  | [p], qs, _, hq => dot_cons p hq
  | p :: z :: r, qs, _, hq => by
    rw [List.cons_append, dot_cons p (by simp), dot_app (ps := z :: r) (by simp) hq, dot_cons p (by simp), List.append_assoc]
    rfl
/-- parts without a point, not empty -/
def GP (ps : List (List Nat)) : Prop := ∀ p ∈ ps, p ≠ [] ∧ 46 ∉ p
theorem GP.tail {p : List Nat} {ps : List (List Nat)} (h : GP (p :: ps)) : GP ps := fun q hq => h q (List.mem_cons_of_mem _ hq)
theorem GP.head {p : List Nat} {ps : List (List Nat)} (h : GP (p :: ps)) : p ≠ [] ∧ 46 ∉ p := h p List.mem_cons_self
theorem GP.take {ps : List (List Nat)} (h : GP ps) (k : Nat) : GP (ps.take k) := fun q hq => h q (List.mem_of_mem_take hq)
theorem GP.app {ps qs : List (List Nat)} (h : GP ps) (g : GP qs) : GP (ps ++ qs) := fun q hq => (List.mem_append.mp hq).elim (h q) (g q)
theorem GP.left {ps qs : List (List Nat)} (h : GP (ps ++ qs)) : GP ps := fun q hq => h q (List.mem_append_left _ hq)
theorem GP.right {ps qs : List (List Nat)} (h : GP (ps ++ qs)) : GP qs := fun q hq => h q (List.mem_append_right _ hq)
theorem split_dot {ps : List (List Nat)} (h0 : ps ≠ []) (h : GP ps) : Txt.split (S (dot ps)) (S [46]) = ps.map S := by
  rw [split_S (by simp) (by decide)]
  exact congrArg (List.map S) (TL.spl_join (s := 46) (S := []) h0 fun p hp => (h p hp).2)
theorem partsFrom_len (x : Str) (w : Nat) : ∀ (cuts : List Nat) (a : Nat), (PySem.StrLaws.partsFrom x w a cuts).length = cuts.length + 1
  | [], _ => rfl
  | c :: r, a => by
    show (PySem.StrLaws.partsFrom x w (c + w) r).length + 1 = r.length + 1 + 1
    rw [partsFrom_len x w r]
theorem count_dot {ps : List (List Nat)} (h0 : ps ≠ []) (h : GP ps) : Txt.count (S (dot ps)) (S [46]) = ((ps.length - 1 : Nat) : Int) := by
  obtain ⟨f, g, hn⟩ := PySem.StrLaws.occ_tight (S (dot ps)) (S [46]) (by decide)
  have key := TL.parts_spl (x := S (dot ps)) (y := S [46]) (by simp [S, TL.tl]) _ 0 f (Nat.zero_le _) g hn
  have e1 := congrArg List.length key
  rw [List.length_map, partsFrom_len] at e1
  have e2 : (TL.spl (TL.tl (S [46])) 0 [] ((TL.tl (S (dot ps))).drop 0)).length = ps.length := by
    rw [List.drop_zero]
    exact congrArg List.length (TL.spl_join (s := 46) (S := []) h0 fun p hp => (h p hp).2)
  rw [e2] at e1
  show ((_ : Nat) : Int) = _
  omega
theorem dot_ne {ps : List (List Nat)} (h0 : ps ≠ []) (h : GP ps) : dot ps ≠ [] := by
  cases ps with
  | nil => exact absurd rfl h0
  | cons p r =>
    intro e
    cases r with
    | nil => exact h.head.1 e
    | cons q r =>
      rw [dot_cons p (by simp)] at e
      simp at e
theorem dot_inj {ps qs : List (List Nat)} (hp : GP ps) (hq : GP qs) (e : dot ps = dot qs) : ps = qs := by
  by_cases h0 : ps = []
  · subst h0
    by_cases h1 : qs = []
    · exact h1.symm
    · exact absurd e.symm (dot_ne h1 hq)
  · by_cases h1 : qs = []
    · subst h1
      exact absurd e (dot_ne h0 hp)
    · have a := split_dot h0 hp
      rw [e, split_dot h1 hq] at a
      have b := congrArg (List.map TL.tl) a
      rw [map_S_tl, map_S_tl] at b
      exact b.symm
/-- what stands ahead of the last point -/
theorem last_dot {ps : List (List Nat)} (p : List Nat) (h0 : ps ≠ []) (hp : 46 ∉ p) : Builtin.Str.lastOccurrence (S (dot (ps ++ [p]))) (S [46]) 0 (S (dot (ps ++ [p]))).length = some (dot ps).length := by
  have at1 : ∀ i, PySem.StrLaws.At (S (dot (ps ++ [p]))) (S [46]) (S (dot (ps ++ [p]))).length i ↔ (dot (ps ++ [p]))[i]? = some 46 := fun i => PySem.StrLaws.subAt_one (S (dot (ps ++ [p]))) 46 i
  have hat : (dot (ps ++ [p]))[(dot ps).length]? = some 46 := by
    rw [dot_snoc p h0, List.getElem?_append_right (Nat.le_refl _), Nat.sub_self]
    rfl
  have hno : ∀ k, (dot ps).length < k → (dot (ps ++ [p]))[k]? ≠ some 46 := fun k hk e => by
    rw [dot_snoc p h0, List.getElem?_append_right (Nat.le_of_lt hk)] at e
    obtain ⟨j, hj⟩ : ∃ j, k - (dot ps).length = j + 1 := ⟨k - (dot ps).length - 1, by omega⟩
    rw [hj] at e
    exact hp (List.mem_of_getElem? (show p[j]? = some 46 from e))
  rcases PySem.StrLaws.last_spec (S (dot (ps ++ [p]))) (S [46]) with ⟨_, no⟩ | ⟨i, e, h1, h2⟩
  · exact absurd ((at1 _).mpr hat) (no _)
  · rw [e]
    have h1' := (at1 i).mp h1
    rcases Nat.lt_trichotomy i (dot ps).length with z | z | z
    · exact absurd ((at1 _).mpr hat) (h2 _ z)
    · rw [z]
    · exact absurd h1' (hno i z)
theorem last_one {p : List Nat} (hp : 46 ∉ p) : Builtin.Str.lastOccurrence (S p) (S [46]) 0 (S p).length = none := by
  rcases PySem.StrLaws.last_spec (S p) (S [46]) with ⟨e, _⟩ | ⟨i, e, h1, h2⟩
  · exact e
  · exact absurd (List.mem_of_getElem? ((PySem.StrLaws.subAt_one (S p) 46 i).mp h1)) hp
/-- a name begins with another one and a point -/
theorem take_dot : ∀ {ps qs : List (List Nat)}, ps ≠ [] → qs ≠ [] → GP ps → GP qs → ((dot ps).take (dot qs ++ [46]).length = dot qs ++ [46] ↔ ∃ r, r ≠ [] ∧ ps = qs ++ r)
  | p :: ps, [], _, h, _, _ => absurd rfl h
  | [], _, h, _, _, _ => absurd rfl h
  | p :: ps, q :: qs, _, _, hp, hq => by
    have key : ∀ {a b u v : List Nat}, 46 ∉ a → 46 ∉ b → a ++ 46 :: u = b ++ 46 :: v → a = b ∧ u = v := by
      intro a
      induction a with
      | nil =>
        intro b u v ha hb e
        cases b with
        | nil => exact ⟨rfl, by simpa using e⟩
        | cons c r =>
          have : 46 = c := by simpa using (congrArg List.head? e)
          exact absurd (by rw [this]; exact List.mem_cons_self) hb
      | cons c r ih =>
        intro b u v ha hb e
        cases b with
        | nil =>
          have : c = 46 := by simpa using (congrArg List.head? e)
          exact absurd (by rw [this]; exact List.mem_cons_self) ha
        | cons d s =>
          obtain ⟨e1, e2⟩ := List.cons.inj e
          obtain ⟨e3, e4⟩ := ih (fun z => ha (List.mem_cons_of_mem _ z)) (fun z => hb (List.mem_cons_of_mem _ z)) e2
          exact ⟨by rw [e1, e3], e4⟩
    constructor
    · intro e
      have e1 : ∃ t, dot (p :: ps) = dot (q :: qs) ++ 46 :: t := ⟨(dot (p :: ps)).drop (dot (q :: qs) ++ [46]).length, by
        have := List.take_append_drop (dot (q :: qs) ++ [46]).length (dot (p :: ps))
        rw [e, List.append_assoc] at this
        exact this.symm⟩
      obtain ⟨t, e1⟩ := e1
      by_cases h1 : qs = []
      · subst h1
        rw [dot_one] at e1
        by_cases h2 : ps = []
        · subst h2
          rw [dot_one] at e1
          exact absurd (by rw [e1]; exact List.mem_append_right _ List.mem_cons_self) hp.head.2
        · rw [dot_cons p h2] at e1
          obtain ⟨e2, _⟩ := key hp.head.2 hq.head.2 e1
          exact ⟨ps, h2, by rw [e2]; rfl⟩
      · rw [dot_cons q h1, List.append_assoc] at e1
        by_cases h2 : ps = []
        · subst h2
          rw [dot_one] at e1
          exact absurd (by rw [e1]; exact List.mem_append_right _ List.mem_cons_self) hp.head.2
        · rw [dot_cons p h2] at e1
          obtain ⟨e2, e3⟩ := key hp.head.2 hq.head.2 e1
          have e4 : (dot ps).take (dot qs ++ [46]).length = dot qs ++ [46] := by
            have e3' : dot ps = (dot qs ++ [46]) ++ t := by rw [e3, List.append_assoc]; rfl
            rw [e3', List.take_left']
            rfl
          obtain ⟨r, hr, er⟩ := (take_dot h2 h1 hp.tail hq.tail).mp e4
          exact ⟨r, hr, by rw [e2, er]; rfl⟩
    · rintro ⟨r, hr, e⟩
      rw [e, dot_app (by simp) hr]
      have : dot (q :: qs) ++ 46 :: dot r = (dot (q :: qs) ++ [46]) ++ dot r := by rw [List.append_assoc]; rfl
      rw [this, List.take_left']
      rfl
termination_by ps => ps.length
end DN

namespace OQ
open PySem PySem.Spec PyProof.Rows L2 SX
/-! ### s.rpartition('.'), s.split('.'), s.count('.'), s.partition('.') of dotted names -/
section
variable {X : Cx}
theorem mt_rpart : MtR X "str.rpartition" (fun x xs H Q => ∃ ps : List (List Nat), x = .str (S (DN.dot ps)) ∧ xs = [.str (S [46])] ∧ ps ≠ [] ∧ DN.GP ps ∧ (DN.dot ps).length ≤ 100000 ∧
    ∀ p a b, H p = none → Q (.ref p) (upd H p (.tup [.str (S (DN.dot ps.dropLast)), .str a, .str b]))) := by
  intro pins s σ H x xs v us Q I rx rs h
  obtain ⟨ps, rfl, rfl, h0, hg, hz, h⟩ := h
  obtain ⟨t, rfl⟩ := rx
  cases rs with
  | cons r1 rs =>
    cases rs
    obtain ⟨u, rfl⟩ := r1
    refine call_meets F.slot_str_rpartition (typeIs_str _ _ _) F.entry_str_rpartition (F.args_str_rpartition_2 _ _) (meets_str_rpartition (S (DN.dot ps)) (S [46]) t u rfl (by rw [S_len]; exact SL.sz hz)) ?_
    have e0 : ps = ps.dropLast ++ [ps.getLast h0] := (List.dropLast_concat_getLast h0).symm
    have hl : 46 ∉ ps.getLast h0 := (hg _ (List.getLast_mem h0)).2
    by_cases h1 : ps.dropLast = []
    · have e1 : ps = [ps.getLast h0] := by rw [h1] at e0; exact e0
      have e2 : DN.dot ps = ps.getLast h0 := (congrArg DN.dot e1).trans (DN.dot_one _)
      rw [e2, DN.last_one hl]
      rw [h1] at h
      exact L2.laid_parts I (fun p hp => h p _ _ hp)
    · have e2 : DN.dot ps = DN.dot (ps.dropLast ++ [ps.getLast h0]) := by rw [← e0]
      rw [e2, DN.last_dot _ h1 hl]
      have e3 : Builtin.Str.strSub (S (DN.dot (ps.dropLast ++ [ps.getLast h0]))) 0 (DN.dot ps.dropLast).length = S (DN.dot ps.dropLast) := by
        refine TL.ext_tl ?_
        rw [TL.tl_strSub]
        show ((DN.dot (ps.dropLast ++ [ps.getLast h0])).drop 0).take _ = DN.dot ps.dropLast
        rw [List.drop_zero, DN.dot_snoc _ h1, Nat.sub_zero, List.take_left']
        rfl
      dsimp only
      rw [e3]
      exact L2.laid_parts I (fun p hp => h p _ _ hp)
theorem mt_splitD : MtR X "str.split" (fun x xs H Q => ∃ ps : List (List Nat), x = .str (S (DN.dot ps)) ∧ xs = [.str (S [46])] ∧ ps ≠ [] ∧ DN.GP ps ∧ (DN.dot ps).length ≤ 100000 ∧ ∀ p, H p = none → Q (.ref p) (upd H p (.lst (ps.map fun q => V.str (S q))))) := by
  intro pins s σ H x xs v us Q I rx rs h
  obtain ⟨ps, rfl, rfl, h0, hg, hz, h⟩ := h
  refine L2.mt_split pins s σ H _ _ v us Q I rx rs ⟨S (DN.dot ps), S [46], rfl, rfl, rfl, by rw [S_len]; exact Nat.le_trans (Nat.add_le_add_right hz 2) (by decide), ?_⟩
  rw [DN.split_dot h0 hg]
  intro p hp
  have := h p hp
  rw [show (ps.map S).map V.str = ps.map (fun q => V.str (S q)) by rw [List.map_map]; rfl]
  exact this
theorem mt_countD : MtR X "str.count" (fun x xs H Q => ∃ ps : List (List Nat), x = .str (S (DN.dot ps)) ∧ xs = [.str (S [46])] ∧ ps ≠ [] ∧ DN.GP ps ∧ Q (.int ((ps.length - 1 : Nat) : Int)) H) := by
  intro pins s σ H x xs v us Q I rx rs h
  obtain ⟨ps, rfl, rfl, h0, hg, h⟩ := h
  exact L2.mt_count pins s σ H _ _ v us Q I rx rs ⟨S (DN.dot ps), S [46], rfl, rfl, by rw [DN.count_dot h0 hg]; exact h⟩
/-- name.startswith(other + '.') -/
theorem mt_swD : MtR X "str.startswith" (fun x xs H Q => ∃ ps qs : List (List Nat), x = .str (S (DN.dot ps)) ∧ xs = [.str (S (DN.dot qs ++ [46]))] ∧ ps ≠ [] ∧ qs ≠ [] ∧ DN.GP ps ∧ DN.GP qs ∧ ∀ b : Bool, (b = true ↔ ∃ r, r ≠ [] ∧ ps = qs ++ r) → Q (.bl b) H) := by
  intro pins s σ H x xs v us Q I rx rs h
  obtain ⟨ps, qs, rfl, rfl, h0, h1, hp, hq, h⟩ := h
  refine L2.mt_startswith pins s σ H _ _ v us Q I rx rs ⟨S (DN.dot ps), S (DN.dot qs ++ [46]), rfl, rfl, ?_⟩
  refine h _ ?_
  rw [← DN.take_dot h0 h1 hp hq]
  unfold Txt.startswith
  rw [StrLaws.subAt_eq]
  show (decide (0 + (DN.dot qs ++ [46]).length ≤ (DN.dot ps).length) && (((DN.dot ps).drop 0).take (DN.dot qs ++ [46]).length == DN.dot qs ++ [46])) = true ↔ _
  rw [List.drop_zero]
  simp only [Bool.and_eq_true, decide_eq_true_eq, beq_iff_eq]
  constructor
  · exact fun h => h.2
  · intro e
    refine ⟨?_, e⟩
    have := congrArg List.length e
    rw [List.length_take] at this
    omega
theorem mt_partD : MtR X "str.partition" (fun x xs H Q => ∃ ps : List (List Nat), x = .str (S (DN.dot ps)) ∧ xs = [.str (S [46])] ∧ ps ≠ [] ∧ DN.GP ps ∧ (DN.dot ps).length ≤ 100000 ∧
    ∀ p m, H p = none → Q (.ref p) (upd H p (.tup [.str (S (ps.headD [])), .str m, .str (S (DN.dot ps.tail))]))) := by
  intro pins s σ H x xs v us Q I rx rs h
  obtain ⟨ps, rfl, rfl, h0, hg, hz, h⟩ := h
  refine L2.mt_partition pins s σ H _ _ v us Q I rx rs ⟨S (DN.dot ps), S [46], rfl, rfl, rfl, by rw [S_len]; exact SL.sz hz, fun p hp => ?_⟩
  cases ps with
  | nil => exact absurd rfl h0
  | cons q r =>
    by_cases h1 : r = []
    · subst h1
      have e := TL.partition_none (y := S [46]) (s := 46) (S := []) rfl (a := S q) hg.head.2
      rw [DN.dot_one, e]
      exact h p _ hp
    · have e := TL.partition_app (y := S [46]) (s := 46) (S := []) rfl (a := S q) (b := S (DN.dot r)) hg.head.2
      have e2 : S (DN.dot (q :: r)) = S q ++ S [46] ++ S (DN.dot r) := by
        rw [DN.dot_cons q h1, S_cat, S_cat, List.append_assoc]
        rfl
      rw [e2, e]
      exact h p _ hp
end
/-! ### == and != of instances of plain classes -/
/-- a class of the module over object alone, without __eq__ and __ne__ -/
def cmpB (K : PySem.W.Frag) (C : Addr) : Bool := match K.lookup C with
  | some ⟨.type c, _, .cls cd, sl⟩ => decide (c = "type") && (!cd.hasDel && ((match cd.mro with
    | .ref C' :: bm => decide (C' = C) && decide (bm = [.type "object"])
    | _ => false) && ((match sl.toList with
    | [_, _, _, _, some (.builtin _), _] => true
    | _ => false) && (PySem.W.nsOkIn K cd.ns && (He.eqO (PySem.W.nsIn K cd.ns "__eq__") (some none) && He.eqO (PySem.W.nsIn K cd.ns "__ne__") (some none))))))
  | _ => false
structure CmpC (K : PySem.W.Frag) (C : Addr) : Prop where
  b : cmpB K C = true
theorem CmpC.inst {K : PySem.W.Frag} {C dx x : Addr} {h : Heap} (c : CmpC K C) (X : K.In h) (hx : h.get? x = some (PySem.W.instObj C dx)) : h.CmpInst x C [.type "object"] := by
  have q := c.b
  unfold cmpB at q
  split at q
  · rename_i c dd cd sl ho
    obtain ⟨h1, q⟩ := He.ba q
    obtain ⟨h2, q⟩ := He.ba q
    obtain ⟨h3, q⟩ := He.ba q
    obtain ⟨h4, q⟩ := He.ba q
    obtain ⟨h5, q⟩ := He.ba q
    obtain ⟨h6, h7⟩ := He.ba q
    split at h3
    · rename_i C' bm hm
      obtain ⟨h8, h9⟩ := He.ba h3
      split at h4
      · rename_i k0 k1 k2 k3 n k5 hs
        have e1 := of_decide_eq_true h1
        have e2 := of_decide_eq_true h8
        have e3 := of_decide_eq_true h9
        subst e1 e2 e3
        obtain ⟨nm, bs, mro, ns, qn, hd, sn, sub, ab, col, del⟩ := cd
        dsimp only at hm h2 h5 h6 h7
        subst hm
        have e4 : del = false := by
          cases del with
          | false => rfl
          | true => cases h2
        subst e4
        have hsl : sl = #[k0, k1, k2, k3, some (.builtin n), k5] := by
          obtain ⟨l⟩ := sl
          simp only at hs
          rw [hs]
        subst hsl
        exact ⟨_, nm, qn, ns, bs, hd, sn, sub, ab, col, dd, k0, k1, k2, k3, k5, n, _, hx, rfl, X _ _ ho, .of_isNs (PySem.W.isNs_of_in X h5), PySem.W.nsMap_none_of_in X h5 (He.eqO_ok h6), PySem.W.nsMap_none_of_in X h5 (He.eqO_ok h7)⟩
      · cases h4
    · cases h3
  · cases q
/-- an instance of such a class stands at a -/
def ObjA (K : PySem.W.Frag) (H : Hp) (a : Addr) : Prop := ∃ C dx fs, H a = some (.ins C dx fs) ∧ CmpC K C
section
variable {X : Cx} {pins : List (Addr × Obj)} {σ : L2.St} {H : Hp} {s : Shared} {a b : Addr}
theorem ObjA.inst (I : Inv X pins σ H s) (h : ObjA X.K H a) : ∃ C, s.heap.CmpInst a C [.type "object"] := by
  obtain ⟨C, dx, fs, ha, c⟩ := h
  obtain ⟨d, z, ne, ob, r⟩ := (show ObjOk X.prog X.w H s.heap a (.ins C dx fs) from I.hok a _ ha)
  exact ⟨C, c.inst I.kIn ob⟩
theorem rc_obj {A : Around} (I : Inv X pins σ H s) (h1 : ObjA X.K H a) (h2 : ObjA X.K H b) (ne : a ≠ b) (hu : A.units < cLine) : SeqAt.RcAt A s (.ref a) (.ref b) false := fun prog w E Q q => by
  obtain ⟨C, i1⟩ := h1.inst I
  obtain ⟨D, i2⟩ := h2.inst I
  exact richCompare_eq_other F.cmp_object F.cmp_object i1 i2 ne hu q
theorem eq_obj {A : Around} (I : Inv X pins σ H s) (h1 : ObjA X.K H a) (h2 : ObjA X.K H b) (hu : A.units < cLine) : SeqAt.EqAt A s (.ref a) (.ref b) (decide (a = b)) := by
  by_cases e : a = b
  · subst e
    rw [decide_eq_true rfl]
    exact SeqAt.EqAt.same _
  · rw [decide_eq_false e]
    exact SeqAt.EqAt.of_refs e (rc_obj I h1 h2 e hu)
end
section
variable {X : Cx}
def rEqO (K : PySem.W.Frag) : R2 := fun x y H Q => ∃ a b, x = .ref a ∧ y = .ref b ∧ ObjA K H a ∧ ObjA K H b ∧ Q (.bl (decide (a = b))) H
theorem op_eqO (hu : X.A.units + 64 < cLine) : OpR X (compareOp .Eq) (rEqO X.K) := by
  intro pins s σ H x y v u Q I rx ry h
  obtain ⟨a, b, rfl, rfl, h1, h2, q⟩ := h
  cases rx
  cases ry
  have hu0 : X.A.units < cLine := by omega
  obtain ⟨C, i1⟩ := h1.inst I
  obtain ⟨D, i2⟩ := h2.inst I
  by_cases e : a = b
  · subst e
    rw [decide_eq_true rfl] at q
    exact compareOp_eq_same F.cmp_object i1 hu0 ⟨.bl true, H, I, rfl, q⟩
  · rw [decide_eq_false e] at q
    exact compareOp_eq_other F.cmp_object F.cmp_object i1 i2 e hu0 ⟨.bl false, H, I, rfl, q⟩
def rNeO (K : PySem.W.Frag) : R2 := fun x y H Q => (x = .non ∧ y = .non ∧ Q (.bl false) H) ∨ ∃ a b, x = .ref a ∧ y = .ref b ∧ ObjA K H a ∧ ObjA K H b ∧ Q (.bl (!decide (a = b))) H
theorem op_neO (hu : X.A.units + 64 < cLine) : OpR X (compareOp .NotEq) (rNeO X.K) := by
  intro pins s σ H x y v u Q I rx ry h
  rcases h with ⟨rfl, rfl, q⟩ | h
  · exact op_ne pins s σ H _ _ v u Q I rx ry ⟨rfl, by simpa using q⟩
  obtain ⟨a, b, rfl, rfl, h1, h2, q⟩ := h
  cases rx
  cases ry
  have hu0 : X.A.units + 1 < cLine := by omega
  obtain ⟨C, i1⟩ := h1.inst I
  obtain ⟨D, i2⟩ := h2.inst I
  by_cases e : a = b
  · subst e
    rw [decide_eq_true rfl] at q
    exact compareOp_ne_same F.cmp_object i1 hu0 ⟨.bl false, H, I, rfl, q⟩
  · rw [decide_eq_false e] at q
    exact compareOp_ne_other F.cmp_object F.cmp_object i1 i2 e hu0 ⟨.bl true, H, I, rfl, q⟩
/-! lists of such -/
theorem vals_refs {as : List Addr} {its : List Value} (r : Vals (as.map V.ref) its) : its = as.map Value.ref := by
  induction as generalizing its with
  | nil => cases r; rfl
  | cons a as ih =>
    cases r with
    | cons r1 rs =>
      cases r1
      rw [ih rs]
      rfl
def rNeLO (K : PySem.W.Frag) : R2 := fun x y H Q => ∃ (p q : Addr) (as bs : List Addr), x = .ref p ∧ y = .ref q ∧ SqL K H p (as.map V.ref) ∧ SqL K H q (bs.map V.ref) ∧ (∀ a ∈ as, ObjA K H a) ∧ (∀ b ∈ bs, ObjA K H b) ∧ Q (.bl (!decide (as = bs))) H
theorem op_neLO (hu : X.A.units + 64 < cLine) : OpR X (compareOp .NotEq) (rNeLO X.K) := by
  intro pins s σ H x y v u Q I rx ry h
  obtain ⟨p, q, as, bs, rfl, rfl, h1, h2, o1, o2, hq⟩ := h
  cases rx
  cases ry
  obtain ⟨i1, r1, l1, _⟩ := I.list h1
  obtain ⟨i2, r2, l2, _⟩ := I.list h2
  have e1 := vals_refs r1
  have e2 := vals_refs r2
  subst e1 e2
  have fin : ∀ b : Bool, b = (!decide (as = bs)) → EP X pins σ Q (.bool b) s := fun b e => ⟨.bl b, H, I, rfl, by rw [e]; exact hq⟩
  by_cases hs : as.length = bs.length
  · refine SeqAt.RcNeAt.lists (e := fun j => decide (as[j]? = bs[j]?)) l1.isList l2.isList (by simpa using hs) (by omega) (fun j j1 j2 => ?_) X.prog X.w _ _ (fin _ ?_)
    · have k1 : j < as.length := by simpa using j1
      have k2 : j < bs.length := by simpa using j2
      have z := eq_obj (A := X.A.in1) I (o1 _ (List.getElem_mem k1)) (o2 _ (List.getElem_mem k2)) (by show X.A.units + 1 < cLine; omega)
      have e3 : decide (as[j] = bs[j]) = decide (as[j]? = bs[j]?) := by
        rw [List.getElem?_eq_getElem k1, List.getElem?_eq_getElem k2]
        simp
      rw [← e3]
      simpa using z
    · congr 1
      rw [Bool.eq_iff_iff, List.all_eq_true]
      simp only [decide_eq_true_eq]
      constructor
      · intro h
        refine List.ext_getElem? fun j => ?_
        by_cases hj : j < as.length
        · exact h j (List.mem_range.mpr (by simpa using hj))
        · rw [List.getElem?_eq_none (by omega), List.getElem?_eq_none (by omega)]
      · intro h j _
        rw [h]
  · refine SeqAt.RcNeAt.lists_lengths l1.isList l2.isList (by simpa using hs) (by omega) X.prog X.w _ _ (fin _ ?_)
    rw [decide_eq_false fun e => hs (by rw [e])]
    rfl
end
end OQ

/-! the head by facts, with the tables of code objects -/
namespace HdF
open PySem PySem.Spec PyProof.Rows L2 He SuX
/-- a def's own code object -/
theorem defC_of {K : PySem.W.Frag} {x qual : Str} {st : Stmt} {dvs : List V} {kws : List (Str × V)} {p : Str × Option Str} {fd : FuncData} (F : FunD K x qual (defArgs st) (defBody st) (defScope st) dvs kws (fAd K p) fd) : GA.DefC K x qual st (cT K p).1 (fAd K p) fd := by
  obtain ⟨oc, od, dV, kV, doc, pm, an, cdv, ct, osl, e, lk, hcd, _⟩ := F.ex
  obtain ⟨c, rfl⟩ := codeIn_ref hcd
  have ec : codeOf K p = c := codeOf_eq lk (by rw [e])
  refine ⟨⟨oc, od, dV, kV, doc, pm, an, ct, osl, ?_, lk, ?_⟩⟩
  · rw [e]
    show _ = PySem.W.fnOf x qual (defArgs st) (defBody st) (defScope st) dV kV doc pm an (.ref (codeOf K p)) ct
    rw [ec]
  · show PySem.W.codeIn K (.ref (codeOf K p)) qual = true
    rw [ec]
    exact hcd
theorem tabG_new {H : Hp} {P : Addr} (h : H P = some (.tbl #[])) : GxR.TabG H P := ⟨#[], h, by trivial⟩
abbrev AlY : Type := AlF × Bool
def obsY (F : Fs) (tf : List Defn) (as : List Addr) (g : Addr → Option Obj) : AlY := (obsF F (frT g as), tabsB g tf (frT g as))
structure SaysY (F : Fs) (tf : List Defn) (w : World) (h : Heap) (K : PySem.W.Frag) : Prop where
  f : SaysF F w K
  hd : ∀ p ∈ tf, PySem.W.codeHdIn K (cT K p).1 (cT K p).2 = true
  out : ∀ p ∈ tf, K.lookup (cT K p).2 = none
  empty : ∀ p ∈ tf, h.get? (cT K p).2 = some { cls := .none, data := .fields #[] }
theorem saysY_of {F : Fs} {tf : List Defn} {as : List Addr} {w : World} {h : Heap} (e : obsY F tf as h.get? = (valF F w, true)) : SaysY F tf w h (frT h.get? as) := by
  have e1 : SaysF F w (frT h.get? as) := congrArg (fun z : AlY => z.1) e
  have h2 : tabsB h.get? tf (frT h.get? as) = true := congrArg (fun z : AlY => z.2) e
  have key : ∀ p ∈ tf, PySem.W.codeHdIn (frT h.get? as) (cT (frT h.get? as) p).1 (cT (frT h.get? as) p).2 = true ∧ ∃ o, h.get? (cT (frT h.get? as) p).2 = some o ∧ emptyTab o = true := fun p hp => by
    obtain ⟨h3, h4⟩ := ba (List.all_eq_true.mp h2 p hp)
    refine ⟨h3, ?_⟩
    cases q : h.get? (cT (frT h.get? as) p).2 with
    | none =>
      rw [q] at h4
      cases h4
    | some o =>
      rw [q] at h4
      exact ⟨o, rfl, h4⟩
  exact ⟨e1, fun p hp => (key p hp).1, fun p hp => by
    obtain ⟨_, o, q, z⟩ := key p hp
    exact frT_none q z, fun p hp => by
    obtain ⟨_, o, q, z⟩ := key p hp
    rw [q, emptyTab_eq z]⟩
def hookY (as : List Addr) (F : Fs) (tf : List Defn) : PySem.W.Hook where
  α := AlY
  obs := fun s => obsY F tf as s.heap.get?
  val := fun w => (valF F w, true)
  says := fun w h => ∃ K : PySem.W.Frag, K.In h ∧ SaysY F tf w h K
  of := fun _ _ e => ⟨_, frT_in, saysY_of e⟩
  keeps := fun _ _ _ ⟨K, hK, c⟩ k => ⟨K, PySem.W.Frag.In.keeps hK k, ⟨c.f, c.hd, c.out, fun p hp => k _ _ (c.empty p hp)⟩⟩
theorem obsY_eq {F : Fs} {tf : List Defn} {as : List Addr} {g : Addr → Option Obj} {s : Shared} (h : ∀ a, g a = s.heap.get? a) : obsY F tf as g = (hookY as F tf).obs s := by
  have e : g = s.heap.get? := funext h
  rw [e] <;> rfl
end HdF

namespace My
open PySem PySem.Spec PyProof.Rows L2
/-! ### try with several clauses 'except X as n', of which the first always is the one -/
def wFst (K : PySem.W.Frag) (c : Value) (i : Nat) (ts : Addr → Value → Option Addr → TS) (D : Ends) : WX := fun cl dd st hp =>
  PySem.W.exmOne K cl c = some true ∧ ∀ a, hp a = none → ts a cl dd { nx := fun x y => D.nx (x.set i none) y, rt := D.rt, bk := fun x y => D.bk (x.set i none) y, ct := fun x y => D.ct (x.set i none) y } (st.set i (some (.ref a))) hp
section
variable {X : Cx} {x n : Str} {c : Value} {i : Nat} {body su : List Stmt} {b1 : Stmt} {np ps ps' : Pos} {more : List ExceptHandler} {tb : WX → TS} {ts : Addr → Value → Option Addr → TS}
theorem ps_try_fst (e1 : X.stack = X.env :: X.outer) (e2 : X.env.frame = some X.env.locals) (nd : X.N.Nodup) (ei : X.N[i]? = some n) (el : X.env.kindOf n = some .local) (nc : Names X x c)
    (run : ∀ (W : WX) (pl : List (Addr × Obj)) (xe : Value → Shared → Prop), Takes (X.tr pl xe) W → PassesOwn (model X.prog X.w) X.A X.env xe → PSs (X.tr pl xe) body (tb W))
    (suite : ∀ (a : Addr) (oe : Obj) (cl : Value) (dd : Option Addr) (pl : List (Addr × Obj)), Zc cl dd oe → (∃ vs, oe.data = .fields vs) → PSs (X.suite a ((a, oe) :: pl)) (b1 :: su) (ts a cl dd)) :
    PS X (.Try body (.ExceptHandler (some (.Name x np)) (some n) (b1 :: su) ps' :: more) [] [] ps) (fun D st hp => tb (wFst X.K c i ts D) D st hp) := by
  refine ⟨fun pl s st hp D inv yes => ?_⟩
  have good := inv.ok
  have fr : X.A.frames = some (X.env :: X.outer) := by rw [good.frames, e1]
  have lc : Loc X.env.scope n := .inl el
  refine wpAny_Try_except (wpAny_mono ((run (wFst X.K c i ts D) (X.pn ++ pl) (fun ex z1 => wpAny (model X.prog X.w) X.A (noteFrame ex X.env) (fun _ z2 => wpAny (model X.prog X.w) X.A (setFlight ex none) (fun _ z3 =>
    wpAny (model X.prog X.w) X.A (handleBy ex X.env (.ExceptHandler (some (.Name x np)) (some n) (b1 :: su) ps' :: more)) (SP X pl D) X.xe z3) X.xe z2) X.xe z1) (fun u z' got => ?_) PassesOwn.looking).run [] s st hp D (inv.toTry _) yes) (fun fl z1 end1 => ?_) (fun ex z1 w => w))
  · obtain ⟨a, gr, si, pl', st1, hp1, cl, dd, rfl, j0, nb, up, sky, na, os, ag, hit, wish⟩ := got
    have j1 : Inv X pl st1 hp1 si := j0.ofTry good
    have sk : Sky gr (X.env :: X.outer) a (Zc cl dd) X.env.locals z'.heap := by rw [← e1]; exact sky
    show wpAny _ X.A (noteFrame (.ref a) X.env) _ _ _
    refine Sky.land Zc.steady fr e2 sk fun k3 f3 u3 => ?_
    have j3 : Inv X pl st1 hp1 { z' with heap := k3 } := j1.landed nb f3.1 (up.trans u3) os ag
    obtain ⟨o3, w3, r3, t3, q3⟩ := f3.there
    have off : a ∉ frs (X.env :: X.outer) := fun m => by
      obtain ⟨_, o4, r4, none4⟩ := f3.2.2.1.mem m
      rw [r3] at r4; cases r4
      exact none4 _ q3
    have l3 : a ≠ X.env.locals := fun z => off (List.mem_filterMap.mpr ⟨X.env, List.mem_cons_self, by rw [e2, z]⟩)
    have f4 : a ∉ X.fs := fun m => by
      obtain ⟨v, hv, hq⟩ := List.mem_filterMap.mp m
      exact off (List.mem_filterMap.mpr ⟨v, List.mem_cons_of_mem _ hv, hq⟩)
    have s3 := j3.suite r3 q3 na l3 f4
    refine wpAny_handleBy_cons (codeAny_handlers_test ?_) (by intro q; cases q)
    have kind : PySem.W.Looks (model X.prog X.w) k3 (typeOf (.ref a)) cl := fun _ _ _ _ k q => wpAny_typeOf_ref (k _ _ r3) (by rw [t3.1]; exact q)
    have fits := PySem.W.exm_one (M := model X.prog X.w) (j3.kIn) kind hit
    have name : ∀ {Q E : Value → Shared → Prop}, Q c { z' with heap := k3 } → wpAny (model X.prog X.w) (X.A.mark (some (.ref a))) (eval (.Name x np) X.env) Q E { z' with heap := k3 } := fun q => by
      obtain ⟨g1, g2, g3 | ⟨g3, g4, g5⟩⟩ := nc
      · exact ld_glob (X := X.suite a ((a, o3) :: (X.pn ++ pl))) s3 g1 g3 q g2
      · exact ld_blt (X := X.suite a ((a, o3) :: (X.pn ++ pl))) s3 g1 g3 g4 q g5 g2
    refine name (fits.here (codeAny_handlers_suite_as (HandSPX.lands_againZ f3 fun k4 f5 u4 => ?_)))
    have j4 : Inv X pl st1 hp1 { z' with heap := k4 } := j1.landed nb f5.1 ((up.trans u3).trans u4) os ag
    obtain ⟨o5, w5, r5, t5, q5⟩ := f5.there
    have s4 := j4.suite r5 q5 na l3 f4
    refine store_ok (X := X.suite a ((a, o5) :: (X.pn ++ pl))) (v := .ref a) s4 nd ei lc rfl (fun z5 s5 => ?_) (.inr el)
    refine wpAny_mono ((suite a o5 cl dd (X.pn ++ pl) t5 ⟨_, q5⟩).run [] z5 _ hp1 _ s5 (wish a na)) (fun fl z6 end6 => ?_) (fun _ _ z => False.elim z)
    have out : ∀ {st6 : L2.St} {hp6 : Hp} {Q : Shared → Prop}, Inv (X.suite a ((a, o5) :: (X.pn ++ pl))) [] st6 hp6 z6 → (∀ z7, Inv X pl (st6.set i none) hp6 z7 → Q z7) →
        wpAny (model X.prog X.w) X.A (do bindName X.env n .none; unbindBehindTheSuite X.env n ps') (fun _ z7 => Q z7) X.xe z6 := fun s6 q => gone_ok (s6.unsuite good) nd ei el q
    cases fl with
    | next => obtain ⟨_, _, s6, q6⟩ := end6; exact out s6 fun _ j7 => ⟨_, _, j7, q6⟩
    | brk => obtain ⟨_, _, s6, q6⟩ := end6; exact out s6 fun _ j7 => ⟨_, _, j7, q6⟩
    | cont => obtain ⟨_, _, s6, q6⟩ := end6; exact out s6 fun _ j7 => ⟨_, _, j7, q6⟩
    | ret u => obtain ⟨_, _, _, s6, r6, q6⟩ := end6; exact out s6 fun _ j7 => ⟨_, _, _, j7, r6, q6⟩
  · cases fl with
    | next => obtain ⟨_, _, j, q⟩ := end1; exact wpAny_execs_nil ⟨_, _, j.ofTry good, q⟩
    | brk => obtain ⟨_, _, j, q⟩ := end1; exact ⟨_, _, j.ofTry good, q⟩
    | cont => obtain ⟨_, _, j, q⟩ := end1; exact ⟨_, _, j.ofTry good, q⟩
    | ret u => obtain ⟨_, _, _, j, r, q⟩ := end1; exact ⟨_, _, _, j.ofTry good, r, q⟩
end
/-! ### a new instance whose __init__ may raise, in a try -/
def tMkS (C : Addr) (sp : Sp) (dvs : List V) (E : L2.St → XK) (t : TA) : TE := fun st hp Q => t st hp fun vs h1 => ∀ x dx, h1 x = none → h1 dx = none → dx ≠ x →
  sp (.ref x :: (vs ++ dvs)) (upd (upd h1 dx (.own x)) x (.ins C dx [])) (fun v h2 => v = .non ∧ Q (.ref x) h2) (E st)
section
variable {X : Cx} {CX : CXT} {k : Nat} {f C : Addr} {fd : FuncData} {ps : List Str} {sp : Sp} {dvs : List V} {ds : List Value} {E : L2.St → XK} {x : Str} {p pos : Pos} {e : Expr} {es : List Expr} {t : TA}
theorem pe_mkS (M : Mk X.K C f) (F : FnOk X.prog X.w X.K X.mg X.base CX k f fd ps sp) (room : Room (k + 1) X.A) (gl : Gl X x) (gm : X.mg x = some (.ref C)) (bi : Binds X.K fd ps ds) (dv : Vals dvs ds) (let_ : ∀ st, PassesAt CX X st (E st))
    (arg : PA X (e :: es) t) (nb : (x == ("__debug__" : Str)) = false := by decide) (st1 : starEach (e :: es) X.env = (false, eval e X.env) :: starEach es X.env := by rfl) (st2 : (backTo pos (starEach es X.env)).any (·.1) = false := by rfl) :
    PE X (.Call (.Name x p) (e :: es) [] pos) (tMkS C sp dvs E t) := by
  refine ⟨fun pl z st hp Q inv yes => wpAny_Call_Name_kw (ld_glob inv gl gm ?_ nb)⟩
  refine PySem.W.callWith_K (h₀ := X.base) inv.ok.mod.kin M.kp (thn (arg.run pos pl z st hp _ inv yes) fun us z1 ⟨vs, h1, j1, r, q⟩ => ⟨j1.kIn, ?_⟩) st1 st2
  have go := q (z1.heap.objs.size + 1) z1.heap.objs.size (j1.hok.fresh (Nat.le_succ _)) (j1.hok.fresh (Nat.le_refl _)) (Nat.ne_of_lt (Nat.lt_succ_self _))
  have j2 := Inv.made (C := C) j1
  have rr : Vals (V.ref (z1.heap.objs.size + 1) :: (vs ++ dvs)) (Value.ref (z1.heap.objs.size + 1) :: (us ++ ds)) := .cons rfl (r.append dv)
  have ll : (Value.ref (z1.heap.objs.size + 1) :: us ++ ds).length = ps.length := by
    have w := rr.length
    rw [F.len _ _ _ _ go] at w
    exact w.symm
  refine wpAny_call (make_map (f := f) j1.kIn M.makes M.init (beq_iff_eq.mp M.fn) (codeAny_mono (F.run _ X.stack _ _ ⟨Value.ref (z1.heap.objs.size + 1) :: us, []⟩ (Value.ref (z1.heap.objs.size + 1) :: (us ++ ds)) _ _ (E st) (room.make C us [])
    (j2.env0.make C us []) (bi _ (Value.ref (z1.heap.objs.size + 1) :: us) j2.kIn ll) rr go) fun res z2 got => ?_))
  cases res with
  | error ex => exact let_ st pl _ _ ex z2 j2 got
  | ok fl =>
    cases fl with
    | ret u =>
      obtain ⟨v, h3, j3, rv, ev, q3⟩ := j2.after got
      subst ev
      exact ⟨rv, ⟨V.ref (z1.heap.objs.size + 1), h3, j3, rfl, q3⟩⟩
    | next => exact False.elim got
    | brk => exact False.elim got
    | cont => exact False.elim got
end
/-! ### e.f in the suite, e the exception that it handles -/
def tErrS (C : Addr) (f : Str) (a : Addr) (cl : Value) (dd : Option Addr) (te : TE) : TE := fun st hp Q => te st hp fun x h1 => x = .ref a ∧ cl = .ref C ∧ ∃ (d : Addr) (v : V), dd = some d ∧ h1 d = some (.xd [(f, v)]) ∧ Q v h1
theorem pe_errS {X : Cx} {C fI : Addr} {cn f : Str} {a : Addr} {oe : Obj} {cl : Value} {dd : Option Addr} {pl : List (Addr × Obj)} {e : Expr} {te : TE} {pos : Pos} (T : ErrTxt X.K X.mg cn f C fI) (zc : Zc cl dd oe) (fl : ∃ vs, oe.data = .fields vs)
    (hz : PE (X.suite a ((a, oe) :: pl)) e te) (ab : attributeBase e f X.env (eval e X.env) = eval e X.env := by rfl) : PE (X.suite a ((a, oe) :: pl)) (.Attribute e f pos) (tErrS C f a cl dd te) := by
  refine ⟨fun pl2 z st hp Q inv yes => attr_of ab (thn (hz.run pl2 z st hp _ inv yes) fun u z1 got => ?_)⟩
  obtain ⟨x, h1, j1, rx, rfl, rfl, d, v, rfl, ed, q⟩ := got
  obtain rfl : u = Value.ref a := rx
  obtain ⟨at_, _⟩ := j1.pin (a, oe) (List.mem_append_left _ List.mem_cons_self)
  obtain ⟨mA, hns, hr⟩ := (show ObjOk X.prog X.w h1 z1.heap d (.xd [(f, v)]) from j1.hok d _ ed)
  obtain ⟨od, hod, hl⟩ := lookIn_ns hns
  have l : List.lookup f [((f : Str), v)] = some v := by simp [List.lookup]
  obtain ⟨u, hu, ru⟩ := RelO.some_of (v := v) (o := mA f) (by rw [← l]; exact hr f)
  have J : PySem.W.InstAt z1.heap a oe C (some od) := ⟨at_, zc.1, (by obtain ⟨w, hw⟩ := fl; show PySem.W.notCls oe = true; unfold PySem.W.notCls; rw [hw]), (by rw [zc.2]; exact hod)⟩
  exact HandSPX.exc_get j1.kIn J T.ga T.gg T.exC (PySem.W.findObj_own T.hdC T.noN rfl (by rw [hl, hu])) (handed_of ru) ⟨v, h1, j1.tok _, ru, q⟩
end My

namespace My
open PySem PySem.Spec PyProof.Rows L2
/-! ### a token is out behind a written text; a walk whose body wants one -/
section
variable {X : Cx}
theorem tup_tok {x : Str} {j : Nat} {c0 pos : Pos} {k : Nat} {es : List Expr} {t : TA} (rest : PA X es t) {pl : List (Addr × Obj)} {z : Shared} {st : L2.St} {hp : Hp} {Q : VK} (inv : Inv X pl st hp z) (yes : tTup (tCons (tC (.str x)) t) st hp Q)
    (sp : starEach (.Constant (.str x) j c0 :: es) X.env = (false, eval (.Constant (.str x) j c0) X.env) :: starEach es X.env := by rfl) :
    wpAny (model X.prog X.w) X.A (eval (.Tuple (.Constant (.str x) j c0 :: es) k pos) X.env) (fun v z1 => 1 ≤ z1.toks ∧ EP X pl st Q v z1) X.xe z := by
  refine Tuple_ ?_
  rw [sp]
  show wpAny _ _ (spliced ((false, eval (.Constant (.str x) j c0) X.env) :: backTo pos (starEach es X.env))) _ _ z
  refine Calls.spliced_cons (Calls.Constant_str ?_)
  have go := wpAny_toks_of (n := 1) (show 1 ≤ z.toks + 1 by omega) (rest.run pos pl { z with toks := z.toks + 1 } st hp _ (inv.tok _) yes)
  refine wpAny_mono go (fun us z1 got => ?_) fun _ _ w => w.2
  obtain ⟨k1, xs, h1, j1, r1, lz, q⟩ := got
  have rr : Vals (V.str x :: xs) (Value.str x z.toks :: us) := .cons ⟨_, rfl⟩ r1
  refine wpAny_mono (wpAny_toks_of (n := 1) k1 (Q := EP X pl st Q) (E := X.xe) (wpAny_newObj_type ?_ (by show (Value.str x z.toks :: us).toArray.size ≤ sizeLine; rw [List.size_toArray, ← rr.length]; exact lz))) (fun _ _ w => w) fun _ _ w => w.2
  have free : h1 z1.heap.objs.size = none := j1.hok.fresh (Nat.le_refl _)
  refine ⟨.ref z1.heap.objs.size, upd h1 z1.heap.objs.size (.tup (V.str x :: xs)), j1.laid (t' := z1.toks) (fun b u e => Heap.get?_push_of_some _ e) (Nat.le_refl _) ?_, rfl, q _ free⟩
  exact ⟨lz, _, rr, ⟨_, Heap.get?_push_size _ rfl, rfl, _, rfl⟩⟩
/-- tg = ('..', ..): then what wants a token -/
theorem pss_tupT {x : Str} {j : Nat} {c0 p1 pos : Pos} {k : Nat} {tg : Expr} {es : List Expr} {more : List Stmt} {t : TA} {g : TG} {u : TS} (rest : PA X es t) (hg : PG X tg g) (h2 : PSsT X more u)
    (hs : swapsWithSole [tg] (.Tuple (.Constant (.str x) j c0 :: es) k p1) pos.line X.env = pure false := by rfl) (hw : swappedStores [tg] (.Tuple (.Constant (.str x) j c0 :: es) k p1) X.env = pure none := by rfl)
    (h1 : (assignEach [tg] X.env).map (·.2) = [assign tg X.env] := by rfl) (sp : starEach (.Constant (.str x) j c0 :: es) X.env = (false, eval (.Constant (.str x) j c0) X.env) :: starEach es X.env := by rfl) :
    PSs X (.Assign [tg] (.Tuple (.Constant (.str x) j c0 :: es) k p1) pos :: more) (tSeq (tAsg (tTup (tCons (tC (.str x)) t)) g) u) := by
  refine ⟨fun pl z st hp D inv yes => wpAny_execs_cons (wpAny_Assign_stores (wpAny_mono (tup_tok rest inv (show tTup (tCons (tC (V.str x)) t) st hp (fun y h1 => g y st h1 (u D)) from yes) sp) (fun v z1 got => ?_) fun _ _ w => w) hs hw)⟩
  obtain ⟨k1, xv, h3, j1, r1, q⟩ := got
  rw [h1]
  refine wpAny_mono (wpAny_toks_of (n := 1) k1 (hg.run pl z1 st h3 xv v _ j1 r1 q)) (fun _ z2 w => ?_) fun _ _ w => w.2
  obtain ⟨k2, st2, h4, j2, q2⟩ := w
  exact h2 pl z2 st2 h4 D k2 j2 q2
theorem pst_forT {tg iter : Expr} {body : List Stmt} {wi : TI} {g : TG} {tb : TS} {pos : Pos} (po : PassesOwn (model X.prog X.w) X.A X.env X.xe) (ca : X.calm = true) (wk : PI X tg iter wi) (hg : PG X tg g) (hb : PSsT X body tb)
    (nf : ∀ x, foldedSetIterable iter X.env x = pure x := by intro _; rfl) : PST X (.For tg iter body [] pos) (tFor wi g tb) := by
  intro pl z st hp D k0 inv yes
  refine wpAny_For (wpAny_mono (wpAny_toks_of (n := 1) k0 (wk.run pl z st hp _ inv yes)) (fun v z1 got => wpAny_mono (wpAny_toks_of (n := 1) got.1 got.2) (fun itv z2 got2 => ?_) fun _ _ w => w.2) fun _ _ w => w.2) nf
  obtain ⟨k2, it, fp, tn, J, h2, rfl, j2, tu, s2, f2, W, ⟨m0, w0⟩, turn⟩ := got2
  have own : ∀ {h' : Hp}, (∀ b ∈ fp, h' b = none) → ∀ b ∈ fp, FpOk X pl h' b := fun hn b hb => ⟨hn b hb, (f2 b hb).2⟩
  refine codeAny_forLoop_any (fun n z' => ∃ i st' h', 1 ≤ z'.toks ∧ Inv X pl st' h' z' ∧ tn i z'.heap ∧ (∀ b ∈ fp, h' b = none) ∧ W i n st' h') ?_ m0 ⟨0, st, h2, k2, j2, s2, fun b hb => (f2 b hb).1, w0⟩
  rintro n z3 ⟨i, st3, h3, k3, j3, s3, f3, w3⟩
  rcases turn i n st3 h3 w3 with ⟨stop, qn⟩ | ⟨go, N, hN, step⟩
  · refine wpAny_passesOwn po (thn (tu.done X rfl rfl rfl ca i pl z3 st3 h3 X.xe j3 (own f3) s3 stop) fun r z4 ⟨hr, j4⟩ => ?_)
    subst hr
    exact wpAny_execs_nil ⟨st3, h3, j4, qn⟩
  · refine wpAny_passesOwn po (wpAny_mono (wpAny_toks_of (n := 1) k3 (tu.item X rfl rfl rfl ca i pl z3 st3 h3 X.xe j3 (own f3) s3 go)) (fun r z4 ⟨k4, u, hr, h4⟩ => ?_) fun _ _ w => w.2)
    subst hr
    refine wpAny_passesOwn po (wpAny_mono (wpAny_toks_of (n := 1) k4 h4) (fun _ z5 ⟨k5, x, h5, j5, r5, y5, s5, f5⟩ => ?_) fun _ _ w => w.2)
    have j5' := j5.pinned (own f5) (tu.obj _ _ s5)
    refine wpAny_passesOwn po (wpAny_mono (wpAny_toks_of (n := 1) k5 (hg.run _ z5 st3 h5 x u _ j5' r5 (step x h5 y5))) (fun _ z6 ⟨k6, st6, h6, j6, q6⟩ => ?_) fun _ _ w => w.2)
    refine wpAny_passesOwn po (wpAny_mono (wpAny_toks_of (n := 1) k6 (hb _ z6 st6 h6 _ k6 j6 q6)) (fun f z7 ⟨k7, q7⟩ => ?_) fun _ _ w => w.2)
    have next : ∀ {st7 : L2.St} {h7 : Hp}, Inv X (pl ++ pinsAt fp z5.heap) st7 h7 z7 → N st7 h7 → ∃ m, m < n ∧ ∃ i st' h', 1 ≤ z7.toks ∧ Inv X pl st' h' z7 ∧ tn i z7.heap ∧ (∀ b ∈ fp, h' b = none) ∧ W i m st' h' := fun {st7 h7} j7 n7 => by
      obtain ⟨m', hm, w7⟩ := hN st7 h7 n7
      have pinned : ∀ b ∈ fp, ∀ o, z5.heap.get? b = some o → (b, o) ∈ X.pn ++ (pl ++ pinsAt fp z5.heap) := fun b hb o e => List.mem_append_right _ (List.mem_append_right _ (mem_pinsAt hb e))
      refine ⟨m', hm, i + 1, st7, h7, k7, j7.unpinned, tu.keep _ _ _ s5 fun b hb o e => (j7.pin (b, o) (pinned b hb o e)).1, fun b hb => ?_, w7⟩
      obtain ⟨o, e, _⟩ := tu.obj _ _ s5 b hb
      exact (j7.pin (b, o) (pinned b hb o e)).2.1
    cases f with
    | next => obtain ⟨_, _, j7, n7⟩ := q7; exact next j7 n7
    | cont => obtain ⟨_, _, j7, n7⟩ := q7; exact next j7 n7
    | brk => obtain ⟨_, _, j7, q8⟩ := q7; exact ⟨_, _, j7.unpinned, q8⟩
    | ret v => obtain ⟨_, _, _, j7, r7, q8⟩ := q7; exact ⟨_, _, _, j7.unpinned, r7, q8⟩
theorem pst_setT {i : Nat} {x : Str} {e : Expr} {te : TE} {p1 pos : Pos} (nd : X.N.Nodup) (ei : X.N[i]? = some x) (lc : Loc X.env.scope x) (he : PET X e te) (hs : swapsWith e (some (.Name x p1)) pos.line X.env = pure false := by rfl)
    (hf : X.fn x = true ∨ X.env.scope.names.lookup x = some .local := by first | exact .inl rfl | exact .inr rfl | assumption) : PST X (.Assign [.Name x p1] e pos) (tAsg te (gName i)) := by
  intro pl z st hp D k0 inv yes
  refine wpAny_Assign_Name (thn (he pl z st hp _ k0 inv yes) fun v z1 ⟨y, h1, j1, r1, q⟩ => ?_) hs
  exact store_ok j1 nd ei lc r1 (fun z2 j2 => ⟨_, h1, j2, q⟩) hf
end
end My

namespace My
open PySem PySem.Spec PyProof.Rows L2
/-! ### two clauses 'except X as n', 'except Y as n' -/
def inSuite (i : Nat) (a : Addr) (D : Ends) : Ends := { nx := fun x y => D.nx (x.set i none) y, rt := D.rt, bk := fun x y => D.bk (x.set i none) y, ct := fun x y => D.ct (x.set i none) y }
def wTwo (K : PySem.W.Frag) (c c' : Value) (i : Nat) (ts ts' : Addr → Value → Option Addr → TS) (D : Ends) : WX := fun cl dd st hp =>
  (PySem.W.exmOne K cl c = some true ∧ ∀ a, hp a = none → ts a cl dd (inSuite i a D) (st.set i (some (.ref a))) hp) ∨
  (PySem.W.exmOne K cl c = some false ∧ PySem.W.exmOne K cl c' = some true ∧ ∀ a, hp a = none → ts' a cl dd (inSuite i a D) (st.set i (some (.ref a))) hp)
section
variable {X : Cx} {x x' n : Str} {c c' : Value} {i : Nat} {body su su' : List Stmt} {b1 b1' : Stmt} {np ps np' ps' pos : Pos} {more : List ExceptHandler} {tb : WX → TS} {ts ts' : Addr → Value → Option Addr → TS}
theorem ps_try_two (e1 : X.stack = X.env :: X.outer) (e2 : X.env.frame = some X.env.locals) (nd : X.N.Nodup) (ei : X.N[i]? = some n) (el : X.env.kindOf n = some .local) (nc : Names X x c) (nc' : Names X x' c')
    (run : ∀ (W : WX) (pl : List (Addr × Obj)) (xe : Value → Shared → Prop), Takes (X.tr pl xe) W → PassesOwn (model X.prog X.w) X.A X.env xe → PSs (X.tr pl xe) body (tb W))
    (suite : ∀ (a : Addr) (oe : Obj) (cl : Value) (dd : Option Addr) (pl : List (Addr × Obj)), Zc cl dd oe → (∃ vs, oe.data = .fields vs) → PSs (X.suite a ((a, oe) :: pl)) (b1 :: su) (ts a cl dd))
    (suite' : ∀ (a : Addr) (oe : Obj) (cl : Value) (dd : Option Addr) (pl : List (Addr × Obj)), Zc cl dd oe → (∃ vs, oe.data = .fields vs) → PSs (X.suite a ((a, oe) :: pl)) (b1' :: su') (ts' a cl dd)) :
    PS X (.Try body (.ExceptHandler (some (.Name x np)) (some n) (b1 :: su) ps :: .ExceptHandler (some (.Name x' np')) (some n) (b1' :: su') ps' :: more) [] [] pos)
      (fun D st hp => tb (wTwo X.K c c' i ts ts' D) D st hp) := by
  refine ⟨fun pl s st hp D inv yes => ?_⟩
  have good := inv.ok
  have fr : X.A.frames = some (X.env :: X.outer) := by rw [good.frames, e1]
  have lc : Loc X.env.scope n := .inl el
  refine wpAny_Try_except (wpAny_mono ((run (wTwo X.K c c' i ts ts' D) (X.pn ++ pl) (fun ex z1 => wpAny (model X.prog X.w) X.A (noteFrame ex X.env) (fun _ z2 => wpAny (model X.prog X.w) X.A (setFlight ex none) (fun _ z3 =>
    wpAny (model X.prog X.w) X.A (handleBy ex X.env (.ExceptHandler (some (.Name x np)) (some n) (b1 :: su) ps :: .ExceptHandler (some (.Name x' np')) (some n) (b1' :: su') ps' :: more)) (SP X pl D) X.xe z3) X.xe z2) X.xe z1) (fun u z' got => ?_) PassesOwn.looking).run [] s st hp D (inv.toTry _) yes) (fun fl z1 end1 => ?_) (fun ex z1 w => w))
  · obtain ⟨a, gr, si, pl', st1, hp1, cl, dd, rfl, j0, nb, up, sky, na, os, ag, wish⟩ := got
    have j1 : Inv X pl st1 hp1 si := j0.ofTry good
    have sk : Sky gr (X.env :: X.outer) a (Zc cl dd) X.env.locals z'.heap := by rw [← e1]; exact sky
    show wpAny _ X.A (noteFrame (.ref a) X.env) _ _ _
    refine Sky.land Zc.steady fr e2 sk fun k3 f3 u3 => ?_
    have j3 : Inv X pl st1 hp1 { z' with heap := k3 } := j1.landed nb f3.1 (up.trans u3) os ag
    obtain ⟨o3, w3, r3, t3, q3⟩ := f3.there
    have off : a ∉ frs (X.env :: X.outer) := fun m => by
      obtain ⟨_, o4, r4, none4⟩ := f3.2.2.1.mem m
      rw [r3] at r4; cases r4
      exact none4 _ q3
    have l3 : a ≠ X.env.locals := fun z => off (List.mem_filterMap.mpr ⟨X.env, List.mem_cons_self, by rw [e2, z]⟩)
    have f4 : a ∉ X.fs := fun m => by
      obtain ⟨v, hv, hq⟩ := List.mem_filterMap.mp m
      exact off (List.mem_filterMap.mpr ⟨v, List.mem_cons_of_mem _ hv, hq⟩)
    have s3 := j3.suite r3 q3 na l3 f4
    have kind : PySem.W.Looks (model X.prog X.w) k3 (typeOf (.ref a)) cl := fun _ _ _ _ k q => wpAny_typeOf_ref (k _ _ r3) (by rw [t3.1]; exact q)
    have name : ∀ {y : Str} {d : Value} {npp : Pos}, Names X y d → ∀ {Q E : Value → Shared → Prop}, Q d { z' with heap := k3 } → wpAny (model X.prog X.w) (X.A.mark (some (.ref a))) (eval (.Name y npp) X.env) Q E { z' with heap := k3 } := fun {y d npp} nn {Q E} q => by
      obtain ⟨g1, g2, g3 | ⟨g3, g4, g5⟩⟩ := nn
      · exact ld_glob (X := X.suite a ((a, o3) :: (X.pn ++ pl))) s3 g1 g3 q g2
      · exact ld_blt (X := X.suite a ((a, o3) :: (X.pn ++ pl))) s3 g1 g3 g4 q g5 g2
    have land : ∀ {bb : Stmt} {ss : List Stmt} {tt : Addr → Value → Option Addr → TS} {hs : List ExceptHandler} {np0 ps0 : Pos} {y : Str},
        (∀ (a : Addr) (oe : Obj) (cl : Value) (dd : Option Addr) (pl : List (Addr × Obj)), Zc cl dd oe → (∃ vs, oe.data = .fields vs) → PSs (X.suite a ((a, oe) :: pl)) (bb :: ss) (tt a cl dd)) →
        (∀ a, hp1 a = none → tt a cl dd (inSuite i a D) (st1.set i (some (.ref a))) hp1) → ∀ {d : Value}, Names X y d → PySem.W.exmOne X.K cl d = some true →
        wpAny (model X.prog X.w) X.A (handleBy (.ref a) X.env (.ExceptHandler (some (.Name y np0)) (some n) (bb :: ss) ps0 :: hs)) (SP X pl D) X.xe { z' with heap := k3 } := fun {bb ss tt hs np0 ps0 y} sut wsh {d} nn hit => by
      refine wpAny_handleBy_cons (codeAny_handlers_test ?_) (by intro q; cases q)
      have fits := PySem.W.exm_one (M := model X.prog X.w) (j3.kIn) kind hit
      refine name nn (fits.here (codeAny_handlers_suite_as (HandSPX.lands_againZ f3 fun k4 f5 u4 => ?_)))
      have j4 : Inv X pl st1 hp1 { z' with heap := k4 } := j1.landed nb f5.1 ((up.trans u3).trans u4) os ag
      obtain ⟨o5, w5, r5, t5, q5⟩ := f5.there
      have s4 := j4.suite r5 q5 na l3 f4
      refine store_ok (X := X.suite a ((a, o5) :: (X.pn ++ pl))) (v := .ref a) s4 nd ei lc rfl (fun z5 s5 => ?_) (.inr el)
      refine wpAny_mono ((sut a o5 cl dd (X.pn ++ pl) t5 ⟨_, q5⟩).run [] z5 _ hp1 _ s5 (wsh a na)) (fun fl z6 end6 => ?_) (fun _ _ z => False.elim z)
      have out : ∀ {st6 : L2.St} {hp6 : Hp} {Q : Shared → Prop}, Inv (X.suite a ((a, o5) :: (X.pn ++ pl))) [] st6 hp6 z6 → (∀ z7, Inv X pl (st6.set i none) hp6 z7 → Q z7) →
          wpAny (model X.prog X.w) X.A (do bindName X.env n .none; unbindBehindTheSuite X.env n ps0) (fun _ z7 => Q z7) X.xe z6 := fun s6 q => gone_ok (s6.unsuite good) nd ei el q
      cases fl with
      | next => obtain ⟨_, _, s6, q6⟩ := end6; exact out s6 fun _ j7 => ⟨_, _, j7, q6⟩
      | brk => obtain ⟨_, _, s6, q6⟩ := end6; exact out s6 fun _ j7 => ⟨_, _, j7, q6⟩
      | cont => obtain ⟨_, _, s6, q6⟩ := end6; exact out s6 fun _ j7 => ⟨_, _, j7, q6⟩
      | ret u => obtain ⟨_, _, _, s6, r6, q6⟩ := end6; exact out s6 fun _ j7 => ⟨_, _, _, j7, r6, q6⟩
    rcases wish with ⟨hit, wsh⟩ | ⟨miss, hit, wsh⟩
    · exact land suite wsh nc hit
    · refine wpAny_handleBy_cons (codeAny_handlers_test ?_) (by intro q; cases q)
      have not_ := PySem.W.exm_one (M := model X.prog X.w) (j3.kIn) kind miss
      refine name nc (not_.here ?_)
      show wpAny _ X.A (handleBy (.ref a) X.env _) _ _ _
      exact land suite' wsh nc' hit
  · cases fl with
    | next => obtain ⟨_, _, j, q⟩ := end1; exact wpAny_execs_nil ⟨_, _, j.ofTry good, q⟩
    | brk => obtain ⟨_, _, j, q⟩ := end1; exact ⟨_, _, j.ofTry good, q⟩
    | cont => obtain ⟨_, _, j, q⟩ := end1; exact ⟨_, _, j.ofTry good, q⟩
    | ret u => obtain ⟨_, _, _, j, r, q⟩ := end1; exact ⟨_, _, _, j.ofTry good, r, q⟩
end
end My

namespace My
open PySem PySem.Spec PyProof.Rows L2
/-- dict(zip(ks, xs)): two lists, the first one of texts -/
def tDZ (K : PySem.W.Frag) (t : TA) : TE := fun σ H Q => t σ H fun vs H1 => ∃ (a b : Addr) (ks : List Str) (xs : List V), vs = [.ref a, .ref b] ∧ SqL K H1 a (ks.map V.str) ∧ SqL K H1 b xs ∧
  ∀ p, H1 p = none → Q (.ref p) (upd H1 p (.dK (mergeK [] ((ks.zip xs).map fun kv => (Sum.inr kv.1, kv.2)))))
theorem kv_zip : ∀ {ks : List Str} {xs : List V} {us ws : List Value}, Vals (ks.map V.str) us → Vals xs ws →
    ∃ prs : List (Key × Value), KV ((ks.zip xs).map fun kv => ((Sum.inr kv.1 : Key), kv.2)) prs ∧ prs.length = min us.length ws.length ∧
      ∀ (i : Nat) (key v : Value), us[i]? = some key → ws[i]? = some v → ∃ k, prs[i]? = some (k, v) ∧ keyIs k key = true
  | [], xs, us, ws, h1, _ => by
    cases h1
    exact ⟨[], .nil, by simp, fun i key v h => by simp at h⟩
  | k :: ks, [], us, ws, h1, h2 => by
    cases h2
    exact ⟨[], .nil, by simp, fun i key v _ h => by simp at h⟩
  | k :: ks, x :: xs, us, ws, h1, h2 => by
    cases h1 with
    | cons r t =>
      cases h2 with
      | cons r2 t2 =>
        obtain ⟨prs, q1, q2, q3⟩ := kv_zip t t2
        obtain ⟨tk, rfl⟩ := (show ∃ t, _ = Value.str k t from r)
        rename_i u _
        refine ⟨(Sum.inr k, u) :: prs, .cons ⟨rfl, r2⟩ q1, ?_, ?_⟩
        · simp only [List.length_cons, q2]; omega
        · intro i key v e1 e2
          cases i with
          | zero =>
            simp at e1 e2
            subst e1 e2
            exact ⟨_, rfl, by simp [keyIs, Value.isStrOf]⟩
          | succ i =>
            simp at e1 e2
            obtain ⟨k', e3, e4⟩ := q3 i key v e1 e2
            exact ⟨k', by simpa using e3, e4⟩
section
variable {X : Cx}
theorem pe_dictZip {e1 e2 : Expr} {ta : TA} {p pos p2 pos2 : Pos} (hc : X.calm = true) (hg : Gl X "dict") (hm : X.mg "dict" = none) (hg2 : Gl X "zip") (hm2 : X.mg "zip" = none) (ha : PA X [e1, e2] ta)
    (hs : starEach [e1, e2] X.env = (false, eval e1 X.env) :: starEach [e2] X.env := by rfl) (hpl : (backTo pos2 (starEach [e2] X.env)).any (·.1) = false := by rfl)
    (hs2 : starEach [(.Call (.Name "zip" p2) [e1, e2] [] pos2)] X.env = (false, eval (.Call (.Name "zip" p2) [e1, e2] [] pos2) X.env) :: starEach [] X.env := by rfl) :
    PE X (.Call (.Name "dict" p) [.Call (.Name "zip" p2) [e1, e2] [] pos2] [] pos) (tDZ X.K ta) := by
  refine ⟨fun pins s σ H Q I h => ?_⟩
  refine wpAny_Call_Name_kw (ld_blt I hg hm PyProof.Rows.boot_dict ?_)
  refine PyProof.Rows.callWith_type1 ?_ hs2 (by rfl)
  rw [hs2]
  show wpAny _ _ (spliced ((false, eval _ X.env) :: backTo pos (starEach [] X.env))) _ _ s
  refine Calls.spliced_cons ?_
  refine wpAny_Call_Name_kw (ld_blt I hg2 hm2 PyProof.Rows.boot_zip ?_)
  refine PyProof.Rows.callWith_type1 (thn (ha.run pos2 pins s σ H _ I h) fun us s1 hh => ?_) hs hpl
  obtain ⟨vs, H1, I1, r1, a, b, ks, xs, rfl, hqx, hqy, q⟩ := hh
  cases r1 with
  | cons r rr =>
    cases rr with
    | cons r' rr =>
      cases rr
      cases r
      cases r'
      obtain ⟨its, rv, p1, _⟩ := I1.list hqx
      obtain ⟨its2, rv2, p2, hz2⟩ := I1.list hqy
      have la : a < s1.heap.objs.size := p1.lt
      have lb : b < s1.heap.objs.size := p2.lt
      refine call_zip_2 p1.isList p2.isList fun h' hz hTI hTO hi1 hi2 hsz hk => ?_
      refine Calls.spliced_nil ?_
      obtain ⟨prs, rel, hl, hpr⟩ := kv_zip rv rv2
      have P := PairArg.zip (prog := X.prog) (w := X.w) _ _ _ _ _ _ _ (PySem.W.ktu_apart s1.heap.objs.size a b la lb) its.toArray its2.toArray
      have hlen : prs.length = min its.toArray.size its2.toArray.size := by simpa using hl
      refine PySem.call_dict_pairs (knd := mixKind X.prog X.w) (kvs := prs) (s := { s1 with heap := h' }) P (I.ok.hd hc) ⟨hz, hTI, ⟨_, _, hTO⟩, hi1, hi2, p1.isList.at fun o e => hk _ o e, p2.isList.at fun o e => hk _ o e⟩ ⟨hlen, ?_⟩ ?_ ?_
      · rintro i key v ⟨e3, e4⟩
        exact hpr i key v (by simpa using e3) (by simpa using e4)
      · have e5 : xs.length = its2.length := rv2.length
        have e6 : its2.toArray.size = its2.length := by simp
        rw [e6]
        exact Nat.le_trans (Nat.min_le_right _ _) (e5 ▸ hz2)
      · intro h'' tk hd hkk
        have old : ∀ c o, s1.heap.get? c = some o → h''.get? c = some o := fun c o e => by
          have lt := Heap.lt_size e
          refine hkk c o ?_ (hk c o e)
          intro hmem
          have e' : c = s1.heap.objs.size + 4 ∨ c = s1.heap.objs.size + 3 ∨ c = s1.heap.objs.size ∨ c = s1.heap.objs.size + 1 := by simpa using hmem
          have hle : s1.heap.objs.size ≤ c := by
            rcases e' with z | z | z | z
            · rw [z]; exact Nat.le_add_right _ _
            · rw [z]; exact Nat.le_add_right _ _
            · rw [z]; exact Nat.le_refl _
            · rw [z]; exact Nat.le_add_right _ _
          exact absurd lt (Nat.not_lt.mpr hle)
        have big : s1.heap.objs.size ≤ h'.objs.size := by omega
        have hm' : (h'.objs.size == sysModules) = false := by
          exact beq_eq_false_iff_ne.mpr (Nat.ne_of_gt (Nat.lt_of_lt_of_le I1.big big))
        have hlen2 : (mergeK [] ((ks.zip xs).map fun kv => ((Sum.inr kv.1 : Key), kv.2))).length ≤ sizeLine := by
          refine Nat.le_trans (length_mergeK _ []) ?_
          simp only [List.length_nil, List.length_map, List.length_zip]
          omega
        exact ⟨.ref h'.objs.size, _, I1.laid (t' := tk) old big (show ObjOk X.prog X.w _ _ _ (.dK (mergeK [] ((ks.zip xs).map fun kv => (Sum.inr kv.1, kv.2)))) from ⟨hlen2, hm', merged [] prs, KV.merge rel .nil, hd⟩), rfl, q _ (I1.hok.fresh big)⟩
end
end My

namespace My
open PySem PySem.Spec PyProof.Rows L2
/-! ### rules that leave the heap a letter: what stood stands, what is new is told -/
theorem sameNew {H : Hp} {x : Addr} {o : HO} (hx : H x = none) : Same H (upd H x o) := fun b u e => by
  rw [upd_ne (ne_of_none e hx)]
  exact e
section
variable {X : Cx}
/-- [a, b] -/
def tLstG (t : TA) : TE := fun σ H Q => t σ H fun xs H1 => xs.length ≤ sizeLine ∧ ∀ (p : Addr) (H' : Hp), H1 p = none → H' p = some (.lst xs) → Same H1 H' → Q (.ref p) H'
theorem pe_lstG {es : List Expr} {t : TA} {pos : Pos} (h : PA X es t) : PE X (.List es pos) (tLstG t) := by
  refine ⟨fun pins s σ H Q I hq => ?_⟩
  refine wpAny_List_spliced (thn (h.run pos pins s σ H _ I hq) fun us s1 hh => ?_)
  obtain ⟨xs, H1, I1, r, z, q⟩ := hh
  have hf : H1 s1.heap.objs.size = none := I1.hok.fresh (Nat.le_refl _)
  exact ⟨by rw [← r.length]; exact z, .ref s1.heap.objs.size, upd H1 s1.heap.objs.size (.lst xs),
    I1.laid (t' := s1.toks) (fun b u e => Heap.get?_push_of_some _ e) (Nat.le_refl _) (show ObjOk X.prog X.w _ _ _ (.lst xs) from ⟨z, us, 0, r, Heap.get?_push_size _ rfl⟩), rfl, q _ _ hf upd_same (sameNew hf)⟩
/-- xs + ys, two lists -/
def rCatG : R2 := fun x y H Q => ∃ l b xs zs, x = .ref l ∧ y = .ref b ∧ H l = some (.lst xs) ∧ H b = some (.lst zs) ∧ xs.length + zs.length ≤ sizeLine ∧
  ∀ (p : Addr) (H' : Hp), H p = none → H' p = some (.lst (xs ++ zs)) → Same H H' → Q (.ref p) H'
theorem op_catG : OpR X (binaryOp .Add) rCatG := fun pins s σ H x y v u Q I rx ry h => op_cat pins s σ H x y v u Q I rx ry (by
  obtain ⟨l, b, xs, zs, e1, e2, h1, h2, hz, q⟩ := h
  exact ⟨l, b, xs, zs, e1, e2, h1, h2, hz, fun p hp => q p _ hp upd_same (sameNew hp)⟩)
/-- a new error as a value -/
def tErrG (C : Addr) (f : Str) (t : TA) : TE := fun σ H Q => t σ H fun vs H1 => ∃ v, vs = [v] ∧
  ∀ (a d : Addr) (H' : Hp), H1 a = none → H' a = some (ExD C (some d) a) → H' d = some (.xd [(f, v)]) → Same H1 H' → Q (.ref a) H'
variable {C fI : Addr} {cn f : Str}
theorem pe_errG {a : Expr} {ta : TA} {p pos : Pos} {k : Nat} (T : ErrTxt X.K X.mg cn f C fI) (hr : Room k X.A) (ha : PA X [a] ta) (hg : Gl X cn)
    (hdb : (cn == ("__debug__" : Str)) = false := by decide)
    (he : starEach (a :: []) X.env = (false, eval a X.env) :: starEach [] X.env := by rfl) (hpl : (backTo pos (starEach [] X.env)).any (·.1) = false := by rfl) :
    PE X (.Call (.Name cn p) [a] [] pos) (tErrG C f ta) := by
  refine ⟨fun pins s σ H Q I h => ?_⟩
  refine wpAny_Call_Name_kw (ld_glob I hg T.gC ?_ hdb)
  refine PySem.W.callWith_K (h₀ := X.base) I.ok.mod.kin T.kC (thn (ha.run pos pins s σ H _ I h) fun us s1 hh => ?_) he hpl
  obtain ⟨vs, H1, I1, r1, v, ev, q1⟩ := hh
  subst ev
  refine ⟨I1.kIn, ?_⟩
  cases r1 with
  | cons rv rn =>
    cases rn
    exact err_run T hr (.inl ⟨rfl, rfl⟩) I1 rv fun a d h1 h2 h3 => q1 a d _ h1 upd_same (by rw [upd_ne h3.symm]; exact upd_same) (fun b o e => by
      rw [upd_ne (ne_of_none e h1), upd_ne (ne_of_none e h2)]; exact e)
theorem pe_errGK {kws : List Keyword} {tk : TA} {p pos : Pos} {k : Nat} (T : ErrTxt X.K X.mg cn f C fI) (hr : Room k X.A) (ha : PK X kws tk) (hg : Gl X cn)
    (hall : (backToKw pos (keywordEach kws X.env)).all (·.1.isSome) = true := by rfl)
    (hks : (backToKw pos (keywordEach kws X.env)).filterMap (·.1) = [f] := by rfl)
    (hdb : (cn == ("__debug__" : Str)) = false := by decide)
    (hpl : ((backTo pos (starEach [] X.env)).any (·.1) || (backToKw pos (keywordEach kws X.env)).any (·.1.isNone)) = false := by rfl) :
    PE X (.Call (.Name cn p) [] kws pos) (tErrG C f tk) := by
  refine ⟨fun pins s σ H Q I h => ?_⟩
  refine wpAny_Call_Name_kw (ld_glob I hg T.gC ?_ hdb)
  refine PySem.W.callWith_KW0 (h₀ := X.base) I.ok.mod.kin T.kC hall (thn (ha.run pos pins s σ H _ I h) fun us s1 hh => ?_) hpl
  obtain ⟨vs, H1, I1, r1, v, ev, q1⟩ := hh
  subst ev
  refine ⟨I1.kIn, ?_⟩
  rw [hks]
  cases r1 with
  | cons rv rn =>
    cases rn
    exact err_run T hr (.inr ⟨rfl, rfl⟩) I1 rv fun a d h1 h2 h3 => q1 a d _ h1 upd_same (by rw [upd_ne h3.symm]; exact upd_same) (fun b o e => by
      rw [upd_ne (ne_of_none e h1), upd_ne (ne_of_none e h2)]; exact e)
end
end My

/-! what a program's object lays step by step, the objects apart from one another -/
namespace SuX
open PySem PySem.Spec PySem.Calls PyProof.Rows L2
theorem neN {H : Hp} {b x : Addr} {u : HO} (e : H b = some u) (hx : H x = none) : b ≠ x := fun z => by rw [z, hx] at e; cases e
/-- a class is made: its instance, its dict -/
abbrev mkH (H : Hp) (C c dc : Addr) : Hp := upd (upd H dc (.own c)) c (.ins C dc [])
theorem mkH_old {H : Hp} {C c dc b : Addr} {u : HO} (hc : H c = none) (hd : H dc = none) (e : H b = some u) : mkH H C c dc b = some u := by
  unfold mkH
  rw [upd_ne (neN e hc), upd_ne (neN e hd)]
  exact e
theorem mkH_none {H : Hp} {C c dc b : Addr} (h : mkH H C c dc b = none) : b ≠ c ∧ b ≠ dc ∧ H b = none := by
  unfold mkH at h
  have h1 : b ≠ c := fun z => by rw [z, upd_same] at h; cases h
  rw [upd_ne h1] at h
  have h2 : b ≠ dc := fun z => by rw [z, upd_same] at h; cases h
  rw [upd_ne h2] at h
  exact ⟨h1, h2, h⟩
/-- since H0 all but x stands; L: what has been laid -/
structure TK (H0 : Hp) (x : Addr) (L : List (Addr × HO)) (H : Hp) : Prop where
  at_ : ∀ p ∈ L, H p.1 = some p.2
  nd : (L.map (·.1)).Nodup
  nx : ∀ p ∈ L, p.1 ≠ x
  new : ∀ p ∈ L, H0 p.1 = none
  same : ∀ c u, c ≠ x → H0 c = some u → H c = some u
theorem TK.nil (H0 : Hp) (x : Addr) : TK H0 x [] H0 := ⟨fun _ h => absurd h List.not_mem_nil, List.nodup_nil, fun _ h => absurd h List.not_mem_nil, fun _ h => absurd h List.not_mem_nil, fun _ _ _ e => e⟩
theorem TK.setx {H0 H : Hp} {x : Addr} {L : List (Addr × HO)} {o : HO} (t : TK H0 x L H) : TK H0 x L (upd H x o) :=
  ⟨fun p hp => by rw [upd_ne (t.nx p hp)]; exact t.at_ p hp, t.nd, t.nx, t.new, fun c u n e => by rw [upd_ne n]; exact t.same c u n e⟩
theorem nd_app {A B : List (Addr × HO)} (a : (A.map (·.1)).Nodup) (b : (B.map (·.1)).Nodup) (h : ∀ p ∈ A, ∀ q ∈ B, p.1 ≠ q.1) : ((A ++ B).map (·.1)).Nodup := by
  rw [List.map_append, List.nodup_append]
  refine ⟨a, b, fun u hu v hv => ?_⟩
  obtain ⟨p, hp, rfl⟩ := List.mem_map.mp hu
  obtain ⟨q, hq, rfl⟩ := List.mem_map.mp hv
  exact h p hp q hq
/-- one more object, with what it lays (N) -/
theorem TK.lay {H0 H H' : Hp} {x C c dc : Addr} {ox : HO} {L N : List (Addr × HO)} (t : TK H0 x L H) (hx : H x = some ox) (hc : H c = none) (hd : H dc = none)
    (hN : ∀ p ∈ N, H' p.1 = some p.2 ∧ (p.1 = c ∨ mkH H C c dc p.1 = none)) (nd : (N.map (·.1)).Nodup) (s : ∀ b u, b ≠ c → mkH H C c dc b = some u → H' b = some u) : TK H0 x (L ++ N) H' ∧ H' x = some ox := by
  have nN : ∀ p ∈ N, H p.1 = none := fun p hp => by
    rcases (hN p hp).2 with e | e
    · rw [e]; exact hc
    · exact (mkH_none e).2.2
  have old : ∀ b u, H b = some u → H' b = some u := fun b u e => s b u (neN e hc) (mkH_old hc hd e)
  refine ⟨⟨fun p hp => ?_, nd_app t.nd nd fun p hp q hq => neN (t.at_ p hp) (nN q hq), fun p hp => ?_, fun p hp => ?_, fun b u n e => old b u (t.same b u n e)⟩, old x ox hx⟩
  · rcases List.mem_append.mp hp with hp | hp
    · exact old _ _ (t.at_ p hp)
    · exact (hN p hp).1
  · rcases List.mem_append.mp hp with hp | hp
    · exact t.nx p hp
    · exact (neN hx (nN p hp)).symm
  · rcases List.mem_append.mp hp with hp | hp
    · exact t.new p hp
    · cases e : H0 p.1 with
      | none => rfl
      | some u =>
        have z := t.same p.1 u (neN hx (nN p hp)).symm e
        rw [nN p hp] at z
        cases z
/-- .. which also changes what stands at a -/
theorem TK.layY {H0 H H' : Hp} {x C c dc a : Addr} {ox o o' : HO} {L N : List (Addr × HO)} (t : TK H0 x (L ++ [(a, o)]) H) (hx : H x = some ox) (hc : H c = none) (hd : H dc = none) (ha : H' a = some o')
    (hN : ∀ p ∈ N, H' p.1 = some p.2 ∧ (p.1 = c ∨ mkH H C c dc p.1 = none)) (nd : (N.map (·.1)).Nodup) (s : ∀ b u, b ≠ c → b ≠ a → mkH H C c dc b = some u → H' b = some u) : TK H0 x (L ++ N ++ [(a, o')]) H' ∧ H' x = some ox := by
  have nN : ∀ p ∈ N, H p.1 = none := fun p hp => by
    rcases (hN p hp).2 with e | e
    · rw [e]; exact hc
    · exact (mkH_none e).2.2
  have hA : H a = some o := t.at_ (a, o) (List.mem_append_right _ (List.mem_singleton.mpr rfl))
  have xa : a ≠ x := t.nx (a, o) (List.mem_append_right _ (List.mem_singleton.mpr rfl))
  have a0 : H0 a = none := t.new (a, o) (List.mem_append_right _ (List.mem_singleton.mpr rfl))
  have ndL : ((L ++ [(a, o)]).map (·.1)).Nodup := t.nd
  rw [List.map_append, List.nodup_append] at ndL
  have La : ∀ p ∈ L, p.1 ≠ a := fun p hp => ndL.2.2 p.1 (List.mem_map_of_mem hp) a (List.mem_singleton.mpr rfl)
  have old : ∀ b u, b ≠ a → H b = some u → H' b = some u := fun b u n e => s b u (neN e hc) n (mkH_old hc hd e)
  have sp : ∀ {p : Addr × HO} {R : Prop}, p ∈ L ++ N ++ [(a, o')] → (p ∈ L → R) → (p ∈ N → R) → (p = (a, o') → R) → R := fun hp h1 h2 h3 => by
    rcases List.mem_append.mp hp with hp | hp
    · rcases List.mem_append.mp hp with hp | hp
      · exact h1 hp
      · exact h2 hp
    · exact h3 (List.mem_singleton.mp hp)
  refine ⟨⟨fun p hp => sp hp (fun q => ?_) (fun q => (hN p q).1) (fun q => by rw [q]; exact ha), ?_, fun p hp => sp hp (fun q => t.nx p (List.mem_append_left _ q)) (fun q => (neN hx (nN p q)).symm) (fun q => by rw [q]; exact xa),
    fun p hp => sp hp (fun q => t.new p (List.mem_append_left _ q)) (fun q => ?_) (fun q => by rw [q]; exact a0), fun b u n e => ?_⟩, old x ox xa.symm hx⟩
  · exact old _ _ (La p q) (t.at_ p (List.mem_append_left _ q))
  · refine nd_app (nd_app ndL.1 nd fun p hp q hq => neN (t.at_ p (List.mem_append_left _ hp)) (nN q hq)) (List.nodup_cons.mpr ⟨by simp, List.nodup_nil⟩) fun p hp q hq => ?_
    rw [List.mem_singleton.mp hq]
    rcases List.mem_append.mp hp with hp | hp
    · exact La p hp
    · exact (neN hA (nN p hp)).symm
  · cases e : H0 p.1 with
    | none => rfl
    | some u =>
      have z := t.same p.1 u (neN hx (nN p q)).symm e
      rw [nN p q] at z
      cases z
  · exact old b u (fun z => by rw [z, a0] at e; cases e) (t.same b u n e)
end SuX

/-! texts by names: the maps that stores hold -/
namespace SuX
open PySem PySem.Spec PySem.Calls PyProof.Rows L2
structure Wn where
  (wr pa : Addr)
  l : List Nat
abbrev SMap := List (List Nat × Wn)
def kvS (m : SMap) : List (Key × V) := m.map fun e => (Sum.inr (SX.S e.1), V.ref e.2.wr)
def getM : SMap → List Nat → Option Wn
  | [], _ => none
  | e :: r, k => if e.1 = k then some e.2 else getM r k
def putM : SMap → List Nat → Wn → SMap
  | [], k, x => [(k, x)]
  | e :: r, k, x => if e.1 = k then (e.1, x) :: r else e :: putM r k x
def dropM (m : SMap) (k : List Nat) : SMap := m.filter fun e => decide (e.1 ≠ k)
theorem key_iff (e k : List Nat) : ((Sum.inr (SX.S e) : Key) = Sum.inr (SX.S k)) ↔ e = k := ⟨fun h => SX.S_inj (Sum.inr.inj h), fun h => by rw [h]⟩
theorem valV_kvS (k : List Nat) : ∀ m : SMap, valV (kvS m) (Sum.inr (SX.S k) : Key) = (getM m k).map fun x => V.ref x.wr
  | [] => rfl
  | e :: r => by
    unfold getM
    by_cases h : e.1 = k
    · rw [if_pos h]
      exact valV_pos (p := ((Sum.inr (SX.S e.1) : Key), V.ref e.2.wr)) ((key_iff e.1 k).mpr h)
    · rw [if_neg h, ← valV_kvS k r]
      exact valV_neg (p := ((Sum.inr (SX.S e.1) : Key), V.ref e.2.wr)) (fun z => h ((key_iff e.1 k).mp z))
theorem kvS_len (m : SMap) : (kvS m).length = m.length := List.length_map ..
theorem putM_len {m : SMap} {k : List Nat} {x : Wn} : (putM m k x).length ≤ m.length + 1 := by
  induction m with
  | nil => exact Nat.le_refl _
  | cons e r ih =>
    unfold putM
    split
    · exact Nat.le_succ _
    · exact Nat.succ_le_succ ih
theorem getM_none_mem {k : List Nat} : ∀ {m : SMap}, getM m k = none → ∀ e ∈ m, e.1 ≠ k
  | [], _, e, he => absurd he List.not_mem_nil
  | a :: r, h, e, he => by
    unfold getM at h
    split at h
    · cases h
    · rename_i q
      rcases List.mem_cons.mp he with rfl | he
      · exact q
      · exact getM_none_mem h e he
theorem getM_mem {k : List Nat} {x : Wn} : ∀ {m : SMap}, getM m k = some x → (k, x) ∈ m
  | [], h => by cases h
  | a :: r, h => by
    unfold getM at h
    split at h
    · rename_i q
      cases h
      rw [← q]
      exact List.mem_cons_self
    · exact List.mem_cons_of_mem _ (getM_mem h)
theorem map_id_of {k : List Nat} {v : V} : ∀ {m : SMap}, (∀ e ∈ m, e.1 ≠ k) → (kvS m).map (fun kv => if kv.1 = (Sum.inr (SX.S k) : Key) then (kv.1, v) else kv) = kvS m
  | [], _ => rfl
  | e :: r, h => by
    show (if (Sum.inr (SX.S e.1) : Key) = Sum.inr (SX.S k) then _ else _) :: _ = _
    rw [if_neg (fun z => h e List.mem_cons_self ((key_iff e.1 k).mp z))]
    exact congrArg (List.cons ((Sum.inr (SX.S e.1) : Key), V.ref e.2.wr)) (map_id_of fun a ha => h a (List.mem_cons_of_mem _ ha))
/-- the dict behind a store's put -/
theorem putK_kvS (k : List Nat) (x : Wn) : ∀ {m : SMap}, (m.map (·.1)).Nodup → putK (kvS m) (Sum.inr (SX.S k) : Key) (V.ref x.wr) = kvS (putM m k x)
  | [], _ => rfl
  | e :: r, nd => by
    have nd' : e.1 ∉ r.map (·.1) ∧ (r.map (·.1)).Nodup := List.nodup_cons.mp nd
    have ih := putK_kvS k x nd'.2
    unfold putM
    by_cases h : e.1 = k
    · rw [if_pos h]
      unfold putK
      have q : ((kvS (e :: r)).any fun kv => decide (kv.1 = (Sum.inr (SX.S k) : Key))) = true := by
        show (decide ((Sum.inr (SX.S e.1) : Key) = Sum.inr (SX.S k)) || _) = true
        rw [decide_eq_true ((key_iff e.1 k).mpr h)]; rfl
      rw [if_pos q]
      show (if (Sum.inr (SX.S e.1) : Key) = Sum.inr (SX.S k) then _ else _) :: _ = _
      rw [if_pos ((key_iff e.1 k).mpr h)]
      have hr : ∀ a ∈ r, a.1 ≠ k := fun a ha z => nd'.1 (by rw [h, ← z]; exact List.mem_map_of_mem ha)
      exact congrArg (List.cons ((Sum.inr (SX.S e.1) : Key), V.ref x.wr)) (map_id_of hr)
    · rw [if_neg h]
      have hk : ¬ ((Sum.inr (SX.S e.1) : Key) = Sum.inr (SX.S k)) := fun z => h ((key_iff e.1 k).mp z)
      have a1 : ((kvS (e :: r)).any fun kv => decide (kv.1 = (Sum.inr (SX.S k) : Key))) = ((kvS r).any fun kv => decide (kv.1 = (Sum.inr (SX.S k) : Key))) := by
        show (decide ((Sum.inr (SX.S e.1) : Key) = Sum.inr (SX.S k)) || _) = _
        rw [decide_eq_false hk]; rfl
      unfold putK at ih ⊢
      rw [a1]
      split at ih
      · rename_i q
        rw [if_pos q]
        show (if (Sum.inr (SX.S e.1) : Key) = Sum.inr (SX.S k) then _ else _) :: _ = _
        rw [if_neg hk]
        exact congrArg (List.cons ((Sum.inr (SX.S e.1) : Key), V.ref e.2.wr)) ih
      · rename_i q
        rw [if_neg q]
        exact congrArg (List.cons ((Sum.inr (SX.S e.1) : Key), V.ref e.2.wr)) ih
theorem dropK_kvS (k : List Nat) : ∀ m : SMap, dropK (kvS m) (Sum.inr (SX.S k) : Key) = kvS (dropM m k)
  | [] => rfl
  | e :: r => by
    have ih := dropK_kvS k r
    unfold dropK dropM at ih ⊢
    by_cases h : e.1 = k
    · rw [List.filter_cons_of_neg (by simp [h])]
      show List.filter _ (_ :: _) = _
      rw [List.filter_cons_of_neg (by simp [(key_iff e.1 k).mpr h])]
      exact ih
    · have hk : ¬ ((Sum.inr (SX.S e.1) : Key) = Sum.inr (SX.S k)) := fun z => h ((key_iff e.1 k).mp z)
      rw [List.filter_cons_of_pos (by simp [h])]
      show List.filter _ (_ :: _) = _ :: _
      rw [List.filter_cons_of_pos (by simp [hk])]
      exact congrArg (List.cons ((Sum.inr (SX.S e.1) : Key), V.ref e.2.wr)) ih
theorem putM_mem {k : List Nat} {y : Wn} : ∀ {m : SMap}, (m.map (·.1)).Nodup → ∀ e ∈ putM m k y, e = (k, y) ∨ (e ∈ m ∧ e.1 ≠ k)
  | [], _, e, he => .inl (List.mem_singleton.mp he)
  | a :: r, nd, e, he => by
    have nd' : a.1 ∉ r.map (·.1) ∧ (r.map (·.1)).Nodup := List.nodup_cons.mp nd
    unfold putM at he
    by_cases h : a.1 = k
    · rw [if_pos h] at he
      rcases List.mem_cons.mp he with rfl | he
      · exact .inl (by rw [h])
      · exact .inr ⟨List.mem_cons_of_mem _ he, fun z => nd'.1 (by rw [h, ← z]; exact List.mem_map_of_mem he)⟩
    · rw [if_neg h] at he
      rcases List.mem_cons.mp he with rfl | he
      · exact .inr ⟨List.mem_cons_self, h⟩
      · rcases putM_mem nd'.2 e he with z | ⟨z, q⟩
        · exact .inl z
        · exact .inr ⟨List.mem_cons_of_mem _ z, q⟩
theorem putM_nd {α : Type} (f : List Nat × Wn → α) {k : List Nat} {y : Wn} : ∀ {m : SMap}, (m.map (·.1)).Nodup → (m.map f).Nodup → (∀ e ∈ m, e.1 ≠ k → f e ≠ f (k, y)) → ((putM m k y).map f).Nodup
  | [], _, _, _ => List.nodup_cons.mpr ⟨List.not_mem_nil, List.nodup_nil⟩
  | a :: r, nd, nf, h => by
    have nd' : a.1 ∉ r.map (·.1) ∧ (r.map (·.1)).Nodup := List.nodup_cons.mp nd
    have nf' : f a ∉ r.map f ∧ (r.map f).Nodup := List.nodup_cons.mp nf
    unfold putM
    by_cases q : a.1 = k
    · rw [if_pos q]
      refine List.nodup_cons.mpr ⟨fun z => ?_, nf'.2⟩
      obtain ⟨e, he, z⟩ := List.mem_map.mp z
      refine h e (List.mem_cons_of_mem _ he) (fun x => nd'.1 (by rw [q, ← x]; exact List.mem_map_of_mem he)) ?_
      rw [z, q]
    · rw [if_neg q]
      refine List.nodup_cons.mpr ⟨fun z => ?_, putM_nd f nd'.2 nf'.2 fun e he => h e (List.mem_cons_of_mem _ he)⟩
      obtain ⟨e, he, z⟩ := List.mem_map.mp z
      rcases putM_mem nd'.2 e he with w | ⟨w, _⟩
      · rw [w] at z
        exact h a List.mem_cons_self q z.symm
      · exact nf'.1 (by rw [← z]; exact List.mem_map_of_mem w)
theorem kvS_same {k : List Nat} {x y : Wn} (h : y.wr = x.wr) : ∀ {m : SMap}, getM m k = some x → kvS (putM m k y) = kvS m
  | [], e => by cases e
  | a :: r, e => by
    unfold getM at e
    unfold putM
    by_cases q : a.1 = k
    · rw [if_pos q] at e ⊢
      cases e
      show ((Sum.inr (SX.S a.1) : Key), V.ref y.wr) :: _ = _
      rw [h]
      rfl
    · rw [if_neg q] at e ⊢
      exact congrArg (List.cons ((Sum.inr (SX.S a.1) : Key), V.ref a.2.wr)) (kvS_same h e)
end SuX

/-! in, not in, remove over lists of instances of plain classes -/
namespace OQ
open PySem PySem.Spec PyProof.Rows L2
/-- what isinstance asks of an instance of C -/
def tyB (K : PySem.W.Frag) (C : Addr) : Bool :=
  (match PySem.W.findIn K (.ref C) "__class__" with
    | some (some (.builtin s)) => decide (s = "object.__class__")
    | _ => false) && ((match PySem.W.specialIn K (.builtin "object.__class__") "__get__" with
    | some (some (.builtin s)) => decide (s = "getset_descriptor.__get__")
    | _ => false) && ((match PySem.W.takesIn K (.builtin "object.__class__") with
    | some true => true
    | _ => false) && (match PySem.W.mroIn K C (.type "object") with
    | some true => true
    | _ => false)))
structure TyI (K : PySem.W.Frag) (C : Addr) : Prop where
  b : tyB K C = true
theorem TyI.ty {K : PySem.W.Frag} {C : Addr} {H : Hp} {x dx : Addr} {fs : List (Str × V)} (c : TyI K C) (hc : Cls K C) (hx : H x = some (.ins C dx fs)) : TyX K H (.ref x) (.ref C) := by
  have q := c.b
  unfold tyB at q
  obtain ⟨h1, q⟩ := He.ba q
  obtain ⟨h2, q⟩ := He.ba q
  obtain ⟨h3, h4⟩ := He.ba q
  split at h1
  · rename_i s e1
    have := of_decide_eq_true h1
    subst this
    split at h2
    · rename_i s2 e2
      have := of_decide_eq_true h2
      subst this
      split at h3
      · rename_i e3
        split at h4
        · rename_i e4
          exact .base (.ins hx hc e1 e2 e3 e4)
        · cases h4
      · cases h3
    · cases h2
  · cases h1
section
variable {X : Cx}
def refB (a : Addr) (v : Value) : Bool := match v with
  | .ref b => decide (b = a)
  | _ => false
theorem any_ref {a : Addr} : ∀ bs : List Addr, (bs.map Value.ref).any (refB a) = decide (a ∈ bs)
  | [] => rfl
  | b :: r => by
    rw [List.map_cons, List.any_cons, any_ref r]
    show (decide (b = a) || decide (a ∈ r)) = decide (a ∈ b :: r)
    rw [Bool.eq_iff_iff]
    simp only [Bool.or_eq_true, decide_eq_true_eq, List.mem_cons]
    exact ⟨fun h => h.imp Eq.symm id, fun h => h.imp Eq.symm id⟩
def rInO (K : PySem.W.Frag) (neg : Bool) : R2 := fun x y H Q => ∃ (p a : Addr) (bs : List Addr), x = .ref a ∧ y = .ref p ∧ SqL K H p (bs.map V.ref) ∧ ObjA K H a ∧ (∀ b ∈ bs, ObjA K H b) ∧ Q (.bl (if neg then !decide (a ∈ bs) else decide (a ∈ bs))) H
theorem eq_all {pins : List (Addr × Obj)} {σ : L2.St} {H : Hp} {s : Shared} {a : Addr} {bs : List Addr} (I : Inv X pins σ H s) (hu : X.A.units + 64 < cLine) (h1 : ObjA X.K H a) (h2 : ∀ b ∈ bs, ObjA X.K H b) : ∀ y, y ∈ (bs.map Value.ref).toArray → SeqAt.EqAt X.A.in1 s y (.ref a) (refB a y) := fun y hy => by
  rw [List.mem_toArray] at hy
  obtain ⟨b, hb, rfl⟩ := List.mem_map.mp hy
  exact eq_obj I (h2 b hb) h1 (show X.A.units + 1 < cLine by omega)
theorem op_inO (hu : X.A.units + 64 < cLine) : OpR X (compareOp .In) (rInO X.K false) := by
  intro pins s σ H x y v u Q I rx ry h
  obtain ⟨p, a, bs, rfl, rfl, hq, h1, h2, q⟩ := h
  cases rx
  cases ry
  obtain ⟨its, r, pl, hz⟩ := I.list hq
  obtain rfl := vals_refs r
  refine SeqAt.in_listAt (refB a) pl.isList (eq_all I hu h1 h2) ⟨.bl _, H, I, rfl, ?_⟩
  rw [show (bs.map Value.ref).toArray.any (refB a) = (bs.map Value.ref).any (refB a) by simp, any_ref]
  exact q
theorem op_notInO (hu : X.A.units + 64 < cLine) : OpR X (compareOp .NotIn) (rInO X.K true) := by
  intro pins s σ H x y v u Q I rx ry h
  obtain ⟨p, a, bs, rfl, rfl, hq, h1, h2, q⟩ := h
  cases rx
  cases ry
  obtain ⟨its, r, pl, hz⟩ := I.list hq
  obtain rfl := vals_refs r
  refine SeqAt.notIn_listAt (refB a) pl.isList (eq_all I hu h1 h2) ⟨.bl _, H, I, rfl, ?_⟩
  rw [show (bs.map Value.ref).toArray.any (refB a) = (bs.map Value.ref).any (refB a) by simp, any_ref]
  exact q
theorem er_map : ∀ (l : List Addr) (j : Nat), (l.map V.ref).eraseIdx j = (l.eraseIdx j).map V.ref
  | [], j => by simp
  | a :: r, 0 => by simp
  | a :: r, j + 1 => by
    have ih := er_map r j
    simp [ih]
def rRemO (K : PySem.W.Frag) : V → List V → Hp → VK → Prop := fun x xs H Q => ∃ (l a : Addr) (bs : List Addr), x = .ref l ∧ xs = [.ref a] ∧ H l = some (.lst (bs.map V.ref)) ∧ a ∈ bs ∧ bs.length ≤ 1000 ∧ ObjA K H a ∧ (∀ b ∈ bs, ObjA K H b) ∧ Q .non (upd H l (.lst ((bs.erase a).map V.ref)))
theorem mt_removeO (hu : X.A.units + 64 < cLine) : MtM X "list.remove" (rRemO X.K) := by
  intro pins s σ H x xs v us Q I rx rxs h
  obtain ⟨l, a, bs, rfl, rfl, hH, ha, hb1000, h1, h2, q⟩ := h
  cases rx
  obtain ⟨u, rfl, ru⟩ := rxs.one
  cases ru
  obtain ⟨z, its, n, r, hl, e⟩ := I.lstM hH
  obtain rfl := vals_refs r
  have hj : bs.idxOf a < bs.length := List.idxOf_lt_length_iff.mpr ha
  have hjl : bs.idxOf a < (bs.map Value.ref).toArray.size := by rw [List.size_toArray, List.length_map]; exact hj
  refine call_meets PySem.F.slot_list_remove ⟨_, e, rfl⟩ PySem.F.entry_list_remove (PySem.F.args_list_remove_2 _ _)
    (SeqAt.list_removeAt l (bs.map Value.ref).toArray n _ _ (.ref a) (refB a) (bs.idxOf a) hjl ?_ ?_ (by rw [List.size_toArray, List.length_map]; exact Nat.le_trans hb1000 (by decide))) ⟨e, eq_all I hu h1 h2, ?_⟩
  · have e1 : (bs.map Value.ref).toArray[bs.idxOf a] = .ref a := by simp
    rw [e1]
    exact decide_eq_true rfl
  · intro m hm hmj
    have hmb : m < bs.length := by omega
    have e1 : (bs.map Value.ref).toArray[m] = .ref bs[m] := by simp
    rw [e1]
    refine decide_eq_false fun e2 => ?_
    have q1 := List.not_of_lt_findIdx (p := (· == a)) (xs := bs) (i := m) hmj
    rw [e2, beq_self_eq_true] at q1
    cases q1
  · rw [List.erase_eq_eraseIdx_of_idxOf rfl] at q
    have rr := r.eraseIdx (bs.idxOf a)
    have em : (bs.map V.ref).eraseIdx (bs.idxOf a) = (bs.eraseIdx (bs.idxOf a)).map V.ref := er_map bs _
    rw [em] at rr
    refine ⟨.non, _, I.lset (its' := (bs.map Value.ref).eraseIdx (bs.idxOf a)) (t' := s.toks) hH e ?_ rr ?_, rfl, q⟩
    · show (bs.map Value.ref).toArray.eraseIdxIfInBounds _ = ((bs.map Value.ref).eraseIdx _).toArray
      rw [List.eraseIdxIfInBounds_toArray]
    · have z2 := List.length_eraseIdx_le bs (bs.idxOf a)
      rw [List.length_map]
      exact Nat.le_trans z2 (Nat.le_trans hb1000 (by decide))
/-- a statement that is never reached -/
theorem ps_dead {st : Stmt} : PS X st (fun _ _ _ => False) := ⟨fun _ _ _ _ _ _ h => h.elim⟩
theorem pss_dead {sts : List Stmt} : PSs X sts (fun _ _ _ => False) := ⟨fun _ _ _ _ _ _ h => h.elim⟩
end
end OQ

namespace SL
open PySem PySem.Spec PyProof.Rows L2 SX
variable {X : Cx}
theorem sw_eq (a b : List Nat) : Txt.startswith (S a) (S b) = decide (a.take b.length = b) := by
  unfold Txt.startswith
  rw [StrLaws.subAt_eq]
  show (decide (0 + b.length ≤ a.length) && ((a.drop 0).take b.length == b)) = _
  rw [List.drop_zero, Bool.eq_iff_iff]
  simp only [Bool.and_eq_true, decide_eq_true_eq, beq_iff_eq]
  constructor
  · exact fun h => h.2
  · intro h
    refine ⟨?_, h⟩
    have := congrArg List.length h
    rw [List.length_take] at this
    omega
theorem mt_swL : MtR X "str.startswith" (fun x xs H Q => ∃ a b, x = .str (S a) ∧ xs = [.str (S b)] ∧ Q (.bl (decide (a.take b.length = b))) H) := by
  intro pins s σ H x xs v us Q I rx rxs h
  obtain ⟨a, b, rfl, rfl, q⟩ := h
  exact mt_startswith pins s σ H _ _ v us Q I rx rxs ⟨S a, S b, rfl, rfl, by rw [sw_eq]; exact q⟩
end SL

namespace My
open PySem PySem.Spec PyProof.Rows L2 SuX
def top (i : Nat) : Stmt := PySem.Challenge.pw_recordyard_k17_filters_by_names.main.body.getD i (.Pass ⟨0, 0, 0, 0⟩)
def keptNames : List (List Nat) := [[97, 114, 103, 115], [97, 115, 99, 116, 105, 109, 101], [99, 114, 101, 97, 116, 101, 100], [108, 101, 118, 101, 108, 110, 97, 109, 101], [108, 101, 118, 101, 108, 110, 111], [109, 101, 115, 115, 97, 103, 101], [109, 115, 101, 99, 115], [109, 115, 103], [110, 97, 109, 101]]
abbrev s__wall : Stmt := top 0
abbrev s_BadLevel___init__ : Stmt := inClass (top 3) 0
abbrev s_BadName___init__ : Stmt := inClass (top 4) 0
abbrev s_BadExtra___init__ : Stmt := inClass (top 5) 0
abbrev s_BadMessage___init__ : Stmt := inClass (top 6) 0
abbrev s_is_integer : Stmt := top 10
abbrev s_is_word_sign : Stmt := top 11
abbrev s_is_part : Stmt := top 12
abbrev s_is_dotted : Stmt := top 13
abbrev s_is_logger_name : Stmt := top 14
abbrev s_own_copy : Stmt := top 15
abbrev s_LogRecord___init__ : Stmt := inClass (top 18) 0
abbrev s_LogRecord_field : Stmt := inClass (top 18) 1
abbrev s_LogRecord_message : Stmt := inClass (top 18) 2
abbrev s_filled : Stmt := top 19
abbrev s_made_record : Stmt := top 20
abbrev s_Filter___init__ : Stmt := inClass (top 22) 0
abbrev s_Filter_passes : Stmt := inClass (top 22) 1
abbrev s_through_one : Stmt := top 23
abbrev s_through_all : Stmt := top 24
abbrev s_LevelTable___init__ : Stmt := inClass (top 30) 0
abbrev s_LevelTable_add_level_name : Stmt := inClass (top 30) 1
abbrev s_LevelTable_level_name : Stmt := inClass (top 30) 2
abbrev s_LevelTable_level_names : Stmt := inClass (top 30) 3
abbrev s_LevelTable_knows : Stmt := inClass (top 30) 4
abbrev s_LevelTable_number : Stmt := inClass (top 30) 5
abbrev s_LevelTable_stand_as : Stmt := inClass (top 30) 6
abbrev s_Handler___init__ : Stmt := inClass (top 32) 0
abbrev s_Handler_setLevel : Stmt := inClass (top 32) 1
abbrev s_Handler_setFormatter : Stmt := inClass (top 32) 2
abbrev s_Handler_setTerminator : Stmt := inClass (top 32) 3
abbrev s_Handler_setName : Stmt := inClass (top 32) 4
abbrev s_Handler_addFilter : Stmt := inClass (top 32) 5
abbrev s_Handler_removeFilter : Stmt := inClass (top 32) 6
abbrev s_Handler_filtered : Stmt := inClass (top 32) 7
abbrev s_Handler_handle : Stmt := inClass (top 32) 8
abbrev s_Handler_emit : Stmt := inClass (top 32) 9
abbrev s_Handler_formatted : Stmt := inClass (top 32) 10
abbrev s_Handler_line : Stmt := inClass (top 32) 11
abbrev s_Handler_flush : Stmt := inClass (top 32) 12
abbrev s_Handler_close : Stmt := inClass (top 32) 13
abbrev s_StreamHandler___init__ : Stmt := inClass (top 34) 0
abbrev s_StreamHandler_setStream : Stmt := inClass (top 34) 1
abbrev s_StreamHandler_emit : Stmt := inClass (top 34) 2
abbrev s_StreamHandler_setLevel : Stmt := inClass (top 34) 3
abbrev s_StreamHandler_setFormatter : Stmt := inClass (top 34) 4
abbrev s_StreamHandler_setTerminator : Stmt := inClass (top 34) 5
abbrev s_StreamHandler_setName : Stmt := inClass (top 34) 6
abbrev s_StreamHandler_addFilter : Stmt := inClass (top 34) 7
abbrev s_StreamHandler_removeFilter : Stmt := inClass (top 34) 8
abbrev s_StreamHandler_filtered : Stmt := inClass (top 34) 9
abbrev s_StreamHandler_handle : Stmt := inClass (top 34) 10
abbrev s_StreamHandler_formatted : Stmt := inClass (top 34) 11
abbrev s_StreamHandler_flush : Stmt := inClass (top 34) 12
abbrev s_StreamHandler_close : Stmt := inClass (top 34) 13
abbrev s_NullHandler___init__ : Stmt := inClass (top 35) 0
abbrev s_NullHandler_emit : Stmt := inClass (top 35) 1
abbrev s_NullHandler_setLevel : Stmt := inClass (top 35) 2
abbrev s_NullHandler_setFormatter : Stmt := inClass (top 35) 3
abbrev s_NullHandler_setTerminator : Stmt := inClass (top 35) 4
abbrev s_NullHandler_setName : Stmt := inClass (top 35) 5
abbrev s_NullHandler_addFilter : Stmt := inClass (top 35) 6
abbrev s_NullHandler_removeFilter : Stmt := inClass (top 35) 7
abbrev s_NullHandler_filtered : Stmt := inClass (top 35) 8
abbrev s_NullHandler_handle : Stmt := inClass (top 35) 9
abbrev s_NullHandler_formatted : Stmt := inClass (top 35) 10
abbrev s_NullHandler_flush : Stmt := inClass (top 35) 11
abbrev s_NullHandler_close : Stmt := inClass (top 35) 12
abbrev s_Roster___init__ : Stmt := inClass (top 37) 0
abbrev s_Roster_enter : Stmt := inClass (top 37) 1
abbrev s_Roster_lead : Stmt := inClass (top 37) 2
abbrev s_Roster_free : Stmt := inClass (top 37) 3
abbrev s_Roster_free_all : Stmt := inClass (top 37) 4
abbrev s_Roster_led_to : Stmt := inClass (top 37) 5
abbrev s_Roster_leading_names : Stmt := inClass (top 37) 6
abbrev s_Roster_fail : Stmt := inClass (top 37) 7
abbrev s_Roster_failures : Stmt := inClass (top 37) 8
abbrev s_Roster_keep_failures : Stmt := inClass (top 37) 9
abbrev s_Roster_close_all : Stmt := inClass (top 37) 10
abbrev s_Written___init__ : Stmt := inClass (top 39) 0
abbrev s_Written_grow : Stmt := inClass (top 39) 1
abbrev s_Written_whole : Stmt := inClass (top 39) 2
abbrev s_Store___init__ : Stmt := inClass (top 40) 0
abbrev s_Store_has : Stmt := inClass (top 40) 1
abbrev s_Store_put : Stmt := inClass (top 40) 2
abbrev s_Store_write : Stmt := inClass (top 40) 3
abbrev s_Store_take_away : Stmt := inClass (top 40) 4
abbrev s_Store_rename : Stmt := inClass (top 40) 5
abbrev s_Store_text : Stmt := inClass (top 40) 6
abbrev s_Store_length : Stmt := inClass (top 40) 7
abbrev s_Store_time_of : Stmt := inClass (top 40) 8
abbrev s_Store_stand_as : Stmt := inClass (top 40) 9
abbrev s_Store_all_names : Stmt := inClass (top 40) 10
abbrev s_Store_contents : Stmt := inClass (top 40) 11
abbrev s_Clock___init__ : Stmt := inClass (top 42) 0
abbrev s_Clock_now : Stmt := inClass (top 42) 1
abbrev s_Clock_advance : Stmt := inClass (top 42) 2
abbrev s_Logger___init__ : Stmt := inClass (top 44) 0
abbrev s_Logger_setLevel : Stmt := inClass (top 44) 1
abbrev s_Logger_setPropagate : Stmt := inClass (top 44) 2
abbrev s_Logger_setDisabled : Stmt := inClass (top 44) 3
abbrev s_Logger_getChild : Stmt := inClass (top 44) 4
abbrev s_Logger_getChildren : Stmt := inClass (top 44) 5
abbrev s_Logger_getEffectiveLevel : Stmt := inClass (top 44) 6
abbrev s_Logger_isEnabledFor : Stmt := inClass (top 44) 7
abbrev s_Logger_addHandler : Stmt := inClass (top 44) 8
abbrev s_Logger_removeHandler : Stmt := inClass (top 44) 9
abbrev s_Logger_hasHandlers : Stmt := inClass (top 44) 10
abbrev s_Logger_handlers_reached : Stmt := inClass (top 44) 11
abbrev s_Logger_addFilter : Stmt := inClass (top 44) 12
abbrev s_Logger_removeFilter : Stmt := inClass (top 44) 13
abbrev s_Logger_filtered : Stmt := inClass (top 44) 14
abbrev s_Logger_log : Stmt := inClass (top 44) 15
abbrev s_Logger_debug : Stmt := inClass (top 44) 16
abbrev s_Logger_info : Stmt := inClass (top 44) 17
abbrev s_Logger_warning : Stmt := inClass (top 44) 18
abbrev s_Logger_error : Stmt := inClass (top 44) 19
abbrev s_Logger_critical : Stmt := inClass (top 44) 20
abbrev s_Logger_handle : Stmt := inClass (top 44) 21
abbrev s_LoggerTree___init__ : Stmt := inClass (top 47) 0
abbrev s_LoggerTree_getLogger : Stmt := inClass (top 47) 1
abbrev s_LoggerTree_grow : Stmt := inClass (top 47) 2
abbrev s_LoggerTree_nearest : Stmt := inClass (top 47) 3
abbrev s_LoggerTree_made : Stmt := inClass (top 47) 4
abbrev s_LoggerTree_loggers : Stmt := inClass (top 47) 5
abbrev s_LoggerTree_roll : Stmt := inClass (top 47) 6
abbrev s_LoggerTree_disable : Stmt := inClass (top 47) 7
abbrev s_LoggerTree_bar : Stmt := inClass (top 47) 8
abbrev s_Yard___init__ : Stmt := inClass (top 49) 0
abbrev s_Yard_now : Stmt := inClass (top 49) 1
abbrev s_Yard_advance : Stmt := inClass (top 49) 2
abbrev s_Yard_text : Stmt := inClass (top 49) 3
abbrev s_Yard_streams : Stmt := inClass (top 49) 4
abbrev s_Yard_files : Stmt := inClass (top 49) 5
abbrev s_Yard_put_file : Stmt := inClass (top 49) 6
abbrev s_Yard_remove_file : Stmt := inClass (top 49) 7
abbrev s_Yard_add_level_name : Stmt := inClass (top 49) 8
abbrev s_Yard_level_name : Stmt := inClass (top 49) 9
abbrev s_Yard_level_names : Stmt := inClass (top 49) 10
abbrev s_Yard_make_record : Stmt := inClass (top 49) 11
abbrev s_Yard_getLogger : Stmt := inClass (top 49) 12
abbrev s_Yard_loggers : Stmt := inClass (top 49) 13
abbrev s_Yard_disable : Stmt := inClass (top 49) 14
abbrev s_Yard_bar : Stmt := inClass (top 49) 15
abbrev s_Yard_getHandlerByName : Stmt := inClass (top 49) 16
abbrev s_Yard_getHandlerNames : Stmt := inClass (top 49) 17
abbrev s_Yard_failures : Stmt := inClass (top 49) 18
abbrev s_Yard_shutdown : Stmt := inClass (top 49) 19
abbrev s__law_draw : Stmt := top 51
abbrev s__law_pick : Stmt := top 52
abbrev s__law_same : Stmt := top 53
abbrev s__law_name : Stmt := top 54
abbrev s__law_odd_name : Stmt := top 55
abbrev s_law : Stmt := top 56
theorem sc_is_integer : FnScope ["thing"] ["thing"] (defScope s_is_integer) := ⟨rfl, rfl, rfl, by decide +kernel, rfl, by decide +kernel, by decide +kernel⟩
theorem sc_is_word_sign : FnScope ["sign"] ["sign"] (defScope s_is_word_sign) := ⟨rfl, rfl, rfl, by decide +kernel, rfl, by decide +kernel, by decide +kernel⟩
theorem sc_is_part : FnScope ["text", "sign"] ["text"] (defScope s_is_part) := ⟨rfl, rfl, rfl, by decide +kernel, rfl, by decide +kernel, by decide +kernel⟩
theorem sc_is_dotted : FnScope ["thing", "part"] ["thing"] (defScope s_is_dotted) := ⟨rfl, rfl, rfl, by decide +kernel, rfl, by decide +kernel, by decide +kernel⟩
theorem sc_is_logger_name : FnScope ["thing"] ["thing"] (defScope s_is_logger_name) := ⟨rfl, rfl, rfl, by decide +kernel, rfl, by decide +kernel, by decide +kernel⟩
theorem sc_own_copy : FnScope ["thing", "table", "key", "row", "item"] ["thing"] (defScope s_own_copy) := ⟨rfl, rfl, rfl, by decide +kernel, rfl, by decide +kernel, by decide +kernel⟩
theorem sc_LogRecord___init__ : FnScope ["self", "name", "levelno", "levelname", "msg", "given", "created", "extra"] ["self", "name", "levelno", "levelname", "msg", "given", "created", "extra"] (defScope s_LogRecord___init__) := ⟨rfl, rfl, rfl, by decide +kernel, rfl, by decide +kernel, by decide +kernel⟩
theorem sc_made_record : FnScope ["levels", "created", "name", "level", "msg", "args", "extra", "levelno", "told", "kept"] ["levels", "created", "name", "level", "msg", "args", "extra"] (defScope s_made_record) := ⟨rfl, rfl, rfl, by decide +kernel, rfl, by decide +kernel, by decide +kernel⟩
theorem sc_Filter___init__ : FnScope ["self", "name"] ["self", "name"] (defScope s_Filter___init__) := ⟨rfl, rfl, rfl, by decide +kernel, rfl, by decide +kernel, by decide +kernel⟩
theorem sc_Filter_passes : FnScope ["self", "record"] ["self", "record"] (defScope s_Filter_passes) := ⟨rfl, rfl, rfl, by decide +kernel, rfl, by decide +kernel, by decide +kernel⟩
theorem sc_through_one : FnScope ["one", "record", "told"] ["one", "record"] (defScope s_through_one) := ⟨rfl, rfl, rfl, by decide +kernel, rfl, by decide +kernel, by decide +kernel⟩
theorem sc_through_all : FnScope ["filters", "record", "one"] ["filters", "record"] (defScope s_through_all) := ⟨rfl, rfl, rfl, by decide +kernel, rfl, by decide +kernel, by decide +kernel⟩
theorem sc_LevelTable___init__ : FnScope ["self"] ["self"] (defScope s_LevelTable___init__) := ⟨rfl, rfl, rfl, by decide +kernel, rfl, by decide +kernel, by decide +kernel⟩
theorem sc_LevelTable_level_name : FnScope ["self", "level"] ["self", "level"] (defScope s_LevelTable_level_name) := ⟨rfl, rfl, rfl, by decide +kernel, rfl, by decide +kernel, by decide +kernel⟩
theorem sc_LevelTable_knows : FnScope ["self", "level"] ["self", "level"] (defScope s_LevelTable_knows) := ⟨rfl, rfl, rfl, by decide +kernel, rfl, by decide +kernel, by decide +kernel⟩
theorem sc_LevelTable_number : FnScope ["self", "level"] ["self", "level"] (defScope s_LevelTable_number) := ⟨rfl, rfl, rfl, by decide +kernel, rfl, by decide +kernel, by decide +kernel⟩
theorem sc_Handler___init__ : FnScope ["self", "yard"] ["self", "yard"] (defScope s_Handler___init__) := ⟨rfl, rfl, rfl, by decide +kernel, rfl, by decide +kernel, by decide +kernel⟩
theorem sc_Handler_addFilter : FnScope ["self", "one"] ["self", "one"] (defScope s_Handler_addFilter) := ⟨rfl, rfl, rfl, by decide +kernel, rfl, by decide +kernel, by decide +kernel⟩
theorem sc_Handler_removeFilter : FnScope ["self", "one"] ["self", "one"] (defScope s_Handler_removeFilter) := ⟨rfl, rfl, rfl, by decide +kernel, rfl, by decide +kernel, by decide +kernel⟩
theorem sc_Handler_filtered : FnScope ["self", "record"] ["self", "record"] (defScope s_Handler_filtered) := ⟨rfl, rfl, rfl, by decide +kernel, rfl, by decide +kernel, by decide +kernel⟩
theorem sc_StreamHandler___init__ : NdefX.NScope ["self", "yard", "stream", "__class__"] ["self", "yard", "stream"] ["__class__"] (defScope s_StreamHandler___init__) := NdefX.nscope_by (by decide +kernel)
theorem sc_NullHandler___init__ : NdefX.NScope ["self", "yard", "__class__"] ["self", "yard"] ["__class__"] (defScope s_NullHandler___init__) := NdefX.nscope_by (by decide +kernel)
theorem sc_NullHandler_addFilter : NdefX.NScope ["self", "one", "__class__"] ["self", "one"] ["__class__"] (defScope s_NullHandler_addFilter) := NdefX.nscope_by (by decide +kernel)
theorem sc_NullHandler_removeFilter : NdefX.NScope ["self", "one", "__class__"] ["self", "one"] ["__class__"] (defScope s_NullHandler_removeFilter) := NdefX.nscope_by (by decide +kernel)
theorem sc_NullHandler_filtered : NdefX.NScope ["self", "record", "__class__"] ["self", "record"] ["__class__"] (defScope s_NullHandler_filtered) := NdefX.nscope_by (by decide +kernel)
theorem sc_Roster___init__ : FnScope ["self"] ["self"] (defScope s_Roster___init__) := ⟨rfl, rfl, rfl, by decide +kernel, rfl, by decide +kernel, by decide +kernel⟩
theorem sc_Roster_enter : FnScope ["self", "handler"] ["self", "handler"] (defScope s_Roster_enter) := ⟨rfl, rfl, rfl, by decide +kernel, rfl, by decide +kernel, by decide +kernel⟩
theorem sc_Written___init__ : FnScope ["self", "text", "time"] ["self", "text", "time"] (defScope s_Written___init__) := ⟨rfl, rfl, rfl, by decide +kernel, rfl, by decide +kernel, by decide +kernel⟩
theorem sc_Store___init__ : FnScope ["self", "clock"] ["self", "clock"] (defScope s_Store___init__) := ⟨rfl, rfl, rfl, by decide +kernel, rfl, by decide +kernel, by decide +kernel⟩
theorem sc_Clock___init__ : FnScope ["self", "shown"] ["self", "shown"] (defScope s_Clock___init__) := ⟨rfl, rfl, rfl, by decide +kernel, rfl, by decide +kernel, by decide +kernel⟩
theorem sc_Clock_now : FnScope ["self"] ["self"] (defScope s_Clock_now) := ⟨rfl, rfl, rfl, by decide +kernel, rfl, by decide +kernel, by decide +kernel⟩
theorem sc_Logger___init__ : FnScope ["self", "tree", "name", "level", "parent"] ["self", "tree", "name", "level", "parent"] (defScope s_Logger___init__) := ⟨rfl, rfl, rfl, by decide +kernel, rfl, by decide +kernel, by decide +kernel⟩
theorem sc_Logger_addFilter : FnScope ["self", "one"] ["self", "one"] (defScope s_Logger_addFilter) := ⟨rfl, rfl, rfl, by decide +kernel, rfl, by decide +kernel, by decide +kernel⟩
theorem sc_Logger_removeFilter : FnScope ["self", "one"] ["self", "one"] (defScope s_Logger_removeFilter) := ⟨rfl, rfl, rfl, by decide +kernel, rfl, by decide +kernel, by decide +kernel⟩
theorem sc_Logger_filtered : FnScope ["self", "record"] ["self", "record"] (defScope s_Logger_filtered) := ⟨rfl, rfl, rfl, by decide +kernel, rfl, by decide +kernel, by decide +kernel⟩
theorem sc_LoggerTree___init__ : FnScope ["self", "yard", "levels", "clock", "last_resort"] ["self", "yard", "levels", "clock", "last_resort"] (defScope s_LoggerTree___init__) := ⟨rfl, rfl, rfl, by decide +kernel, rfl, by decide +kernel, by decide +kernel⟩
theorem sc_LoggerTree_getLogger : FnScope ["self", "name"] ["self", "name"] (defScope s_LoggerTree_getLogger) := ⟨rfl, rfl, rfl, by decide +kernel, rfl, by decide +kernel, by decide +kernel⟩
theorem sc_LoggerTree_grow : FnScope ["self", "name", "logger", "other"] ["self", "name"] (defScope s_LoggerTree_grow) := ⟨rfl, rfl, rfl, by decide +kernel, rfl, by decide +kernel, by decide +kernel⟩
theorem sc_LoggerTree_nearest : FnScope ["self", "name", "above"] ["self", "name"] (defScope s_LoggerTree_nearest) := ⟨rfl, rfl, rfl, by decide +kernel, rfl, by decide +kernel, by decide +kernel⟩
theorem sc_LoggerTree_made : FnScope ["self", "name"] ["self"] (defScope s_LoggerTree_made) := ⟨rfl, rfl, rfl, by decide +kernel, rfl, by decide +kernel, by decide +kernel⟩
theorem sc_LoggerTree_loggers : FnScope ["self"] ["self"] (defScope s_LoggerTree_loggers) := ⟨rfl, rfl, rfl, by decide +kernel, rfl, by decide +kernel, by decide +kernel⟩
theorem sc_Yard___init__ : FnScope ["self", "now"] ["self", "now"] (defScope s_Yard___init__) := ⟨rfl, rfl, rfl, by decide +kernel, rfl, by decide +kernel, by decide +kernel⟩
theorem sc_Yard_make_record : FnScope ["self", "name", "level", "msg", "args", "extra"] ["self", "name", "level", "msg", "args", "extra"] (defScope s_Yard_make_record) := ⟨rfl, rfl, rfl, by decide +kernel, rfl, by decide +kernel, by decide +kernel⟩
theorem sc_Yard_getLogger : FnScope ["self", "name"] ["self", "name"] (defScope s_Yard_getLogger) := ⟨rfl, rfl, rfl, by decide +kernel, rfl, by decide +kernel, by decide +kernel⟩
theorem sc__law_draw : FnScope ["_law_s", "_law_many", "_law_digit", "_law_mixed", "_law_last"] ["_law_s", "_law_many"] (defScope s__law_draw) := ⟨rfl, rfl, rfl, by decide +kernel, rfl, by decide +kernel, by decide +kernel⟩
theorem sc__law_pick : FnScope ["_law_s", "_law_some"] ["_law_s", "_law_some"] (defScope s__law_pick) := ⟨rfl, rfl, rfl, by decide +kernel, rfl, by decide +kernel, by decide +kernel⟩
theorem sc__law_same : FnScope ["_law_found", "_law_due", "_law_one", "_law_two"] ["_law_found", "_law_due"] (defScope s__law_same) := ⟨rfl, rfl, rfl, by decide +kernel, rfl, by decide +kernel, by decide +kernel⟩
theorem sc__law_name : FnScope ["_law_s", "_law_most", "_law_k"] ["_law_s", "_law_most"] (defScope s__law_name) := ⟨rfl, rfl, rfl, by decide +kernel, rfl, by decide +kernel, by decide +kernel⟩
theorem sc__law_odd_name : FnScope ["_law_s", "_law_name_here", "_law_odd"] ["_law_s"] (defScope s__law_odd_name) := ⟨rfl, rfl, rfl, by decide +kernel, rfl, by decide +kernel, by decide +kernel⟩
theorem sc_law : FnScope ["_law_script", "_law_s", "_law_yard", "_law_logger", "_law_handler", "_law_turn", "_law_name_here", "_law_other", "_law_one", "_law_record", "_law_due", "_law_thing", "_law_found"] ["_law_script"] (defScope s_law) := ⟨rfl, rfl, rfl, by decide +kernel, rfl, by decide +kernel, by decide +kernel⟩
structure Dfn (K : PySem.W.Frag) (mg : Str → Option Value) (x qual : Str) (st : Stmt) (ps : List Str) (f : Addr) (fd : FuncData) : Prop where
  F : Fun K x qual st f fd
  g : mg x = some (.ref f)
  b : Binds K fd ps []
structure DfnD (K : PySem.W.Frag) (mg : Str → Option Value) (x qual : Str) (st : Stmt) (ps : List Str) (dvs : List V) (f : Addr) (fd : FuncData) : Prop where
  F : FunD K x qual (defArgs st) (defBody st) (defScope st) dvs [] f fd
  g : mg x = some (.ref f)
  b : Binds K fd ps []
structure Blt (mg : Str → Option Value) : Prop where
  n_all : mg "all" = none
  n_bool : mg "bool" = none
  n_dict : mg "dict" = none
  n_int : mg "int" = none
  n_isinstance : mg "isinstance" = none
  n_len : mg "len" = none
  n_list : mg "list" = none
  n_range : mg "range" = none
  n_sorted : mg "sorted" = none
  n_str : mg "str" = none
  n_super : mg "super" = none
  n_tuple : mg "tuple" = none
  n_zip : mg "zip" = none
structure Txt (K : PySem.W.Frag) (mg : Str → Option Value) where
  B : Blt mg
  f__wall : Addr
  fd__wall : FuncData
  D__wall : Dfn K mg "_wall" "_wall" s__wall ["k"] f__wall fd__wall
  f_is_integer : Addr
  fd_is_integer : FuncData
  D_is_integer : Dfn K mg "is_integer" "is_integer" s_is_integer ["thing"] f_is_integer fd_is_integer
  f_is_word_sign : Addr
  fd_is_word_sign : FuncData
  D_is_word_sign : Dfn K mg "is_word_sign" "is_word_sign" s_is_word_sign ["sign"] f_is_word_sign fd_is_word_sign
  f_is_part : Addr
  fd_is_part : FuncData
  D_is_part : Dfn K mg "is_part" "is_part" s_is_part ["text"] f_is_part fd_is_part
  f_is_dotted : Addr
  fd_is_dotted : FuncData
  D_is_dotted : Dfn K mg "is_dotted" "is_dotted" s_is_dotted ["thing"] f_is_dotted fd_is_dotted
  f_is_logger_name : Addr
  fd_is_logger_name : FuncData
  D_is_logger_name : Dfn K mg "is_logger_name" "is_logger_name" s_is_logger_name ["thing"] f_is_logger_name fd_is_logger_name
  f_own_copy : Addr
  fd_own_copy : FuncData
  D_own_copy : Dfn K mg "own_copy" "own_copy" s_own_copy ["thing"] f_own_copy fd_own_copy
  f_filled : Addr
  fd_filled : FuncData
  D_filled : Dfn K mg "filled" "filled" s_filled ["msg", "given"] f_filled fd_filled
  aGT_made_record : Addr
  f_made_record : Addr
  fd_made_record : FuncData
  D_made_record : DfnD K mg "made_record" "made_record" s_made_record ["levels", "created", "name", "level", "msg", "args", "extra"] [.ref aGT_made_record, .non] f_made_record fd_made_record
  f_through_one : Addr
  fd_through_one : FuncData
  D_through_one : Dfn K mg "through_one" "through_one" s_through_one ["one", "record"] f_through_one fd_through_one
  f_through_all : Addr
  fd_through_all : FuncData
  D_through_all : Dfn K mg "through_all" "through_all" s_through_all ["filters", "record"] f_through_all fd_through_all
  f__law_draw : Addr
  fd__law_draw : FuncData
  D__law_draw : Dfn K mg "_law_draw" "_law_draw" s__law_draw ["_law_s", "_law_many"] f__law_draw fd__law_draw
  f__law_pick : Addr
  fd__law_pick : FuncData
  D__law_pick : Dfn K mg "_law_pick" "_law_pick" s__law_pick ["_law_s", "_law_some"] f__law_pick fd__law_pick
  f__law_same : Addr
  fd__law_same : FuncData
  D__law_same : Dfn K mg "_law_same" "_law_same" s__law_same ["_law_found", "_law_due"] f__law_same fd__law_same
  f__law_name : Addr
  fd__law_name : FuncData
  D__law_name : Dfn K mg "_law_name" "_law_name" s__law_name ["_law_s", "_law_most"] f__law_name fd__law_name
  f__law_odd_name : Addr
  fd__law_odd_name : FuncData
  D__law_odd_name : Dfn K mg "_law_odd_name" "_law_odd_name" s__law_odd_name ["_law_s"] f__law_odd_name fd__law_odd_name
  f_law : Addr
  fd_law : FuncData
  D_law : Dfn K mg "law" "law" s_law ["_law_script"] f_law fd_law
  file : Str
  C_Clock : Addr
  g_Clock : mg "Clock" = some (.ref C_Clock)
  o_Clock : OC K C_Clock ["shown"]
  a_Clock_init : Addr
  fd_Clock_init : FuncData
  F_Clock_init : Fun K "__init__" "Clock.__init__" s_Clock___init__ a_Clock_init fd_Clock_init
  M_Clock : Mk K C_Clock a_Clock_init
  b_Clock_init : Binds K fd_Clock_init ["self", "shown"] []
  a_Clock_now : Addr
  fd_Clock_now : FuncData
  F_Clock_now : Fun K "now" "Clock.now" s_Clock_now a_Clock_now fd_Clock_now
  Me_Clock_now : Meth K C_Clock "now" a_Clock_now
  b_Clock_now : Binds K fd_Clock_now ["self"] []
  C_LevelTable : Addr
  g_LevelTable : mg "LevelTable" = some (.ref C_LevelTable)
  o_LevelTable : OC K C_LevelTable ["names", "numbers"]
  a_LevelTable_init : Addr
  fd_LevelTable_init : FuncData
  F_LevelTable_init : Fun K "__init__" "LevelTable.__init__" s_LevelTable___init__ a_LevelTable_init fd_LevelTable_init
  M_LevelTable : Mk K C_LevelTable a_LevelTable_init
  b_LevelTable_init : Binds K fd_LevelTable_init ["self"] []
  a_LevelTable_knows : Addr
  fd_LevelTable_knows : FuncData
  F_LevelTable_knows : Fun K "knows" "LevelTable.knows" s_LevelTable_knows a_LevelTable_knows fd_LevelTable_knows
  Me_LevelTable_knows : Meth K C_LevelTable "knows" a_LevelTable_knows
  b_LevelTable_knows : Binds K fd_LevelTable_knows ["self", "level"] []
  a_LevelTable_number : Addr
  fd_LevelTable_number : FuncData
  F_LevelTable_number : Fun K "number" "LevelTable.number" s_LevelTable_number a_LevelTable_number fd_LevelTable_number
  Me_LevelTable_number : Meth K C_LevelTable "number" a_LevelTable_number
  b_LevelTable_number : Binds K fd_LevelTable_number ["self", "level"] []
  a_LevelTable_level_name : Addr
  fd_LevelTable_level_name : FuncData
  F_LevelTable_level_name : Fun K "level_name" "LevelTable.level_name" s_LevelTable_level_name a_LevelTable_level_name fd_LevelTable_level_name
  Me_LevelTable_level_name : Meth K C_LevelTable "level_name" a_LevelTable_level_name
  b_LevelTable_level_name : Binds K fd_LevelTable_level_name ["self", "level"] []
  C_LogRecord : Addr
  g_LogRecord : mg "LogRecord" = some (.ref C_LogRecord)
  o_LogRecord : OC K C_LogRecord ["name", "levelno", "levelname", "msg", "given", "created", "extra"]
  a_LogRecord_init : Addr
  fd_LogRecord_init : FuncData
  F_LogRecord_init : Fun K "__init__" "LogRecord.__init__" s_LogRecord___init__ a_LogRecord_init fd_LogRecord_init
  M_LogRecord : Mk K C_LogRecord a_LogRecord_init
  b_LogRecord_init : Binds K fd_LogRecord_init ["self", "name", "levelno", "levelname", "msg", "given", "created", "extra"] []
  C_Filter : Addr
  g_Filter : mg "Filter" = some (.ref C_Filter)
  o_Filter : OC K C_Filter ["name"]
  a_Filter_init : Addr
  fd_Filter_init : FuncData
  F_Filter_init : FunD K "__init__" "Filter.__init__" (defArgs s_Filter___init__) (defBody s_Filter___init__) (defScope s_Filter___init__) [.str (SX.S [])] [] a_Filter_init fd_Filter_init
  M_Filter : Mk K C_Filter a_Filter_init
  a_Filter_passes : Addr
  fd_Filter_passes : FuncData
  F_Filter_passes : Fun K "passes" "Filter.passes" s_Filter_passes a_Filter_passes fd_Filter_passes
  Me_Filter_passes : Meth K C_Filter "passes" a_Filter_passes
  b_Filter_passes : Binds K fd_Filter_passes ["self", "record"] []
  C_Store : Addr
  g_Store : mg "Store" = some (.ref C_Store)
  o_Store : OC K C_Store ["clock", "kept"]
  a_Store_init : Addr
  fd_Store_init : FuncData
  F_Store_init : Fun K "__init__" "Store.__init__" s_Store___init__ a_Store_init fd_Store_init
  M_Store : Mk K C_Store a_Store_init
  b_Store_init : Binds K fd_Store_init ["self", "clock"] []
  C_Written : Addr
  g_Written : mg "Written" = some (.ref C_Written)
  o_Written : OC K C_Written ["parts", "size", "time"]
  a_Written_init : Addr
  fd_Written_init : FuncData
  F_Written_init : Fun K "__init__" "Written.__init__" s_Written___init__ a_Written_init fd_Written_init
  M_Written : Mk K C_Written a_Written_init
  b_Written_init : Binds K fd_Written_init ["self", "text", "time"] []
  C_Roster : Addr
  g_Roster : mg "Roster" = some (.ref C_Roster)
  o_Roster : OC K C_Roster ["handlers", "leading", "failed"]
  a_Roster_init : Addr
  fd_Roster_init : FuncData
  F_Roster_init : Fun K "__init__" "Roster.__init__" s_Roster___init__ a_Roster_init fd_Roster_init
  M_Roster : Mk K C_Roster a_Roster_init
  b_Roster_init : Binds K fd_Roster_init ["self"] []
  a_Roster_enter : Addr
  fd_Roster_enter : FuncData
  F_Roster_enter : Fun K "enter" "Roster.enter" s_Roster_enter a_Roster_enter fd_Roster_enter
  Me_Roster_enter : Meth K C_Roster "enter" a_Roster_enter
  b_Roster_enter : Binds K fd_Roster_enter ["self", "handler"] []
  C_Handler : Addr
  g_Handler : mg "Handler" = some (.ref C_Handler)
  o_Handler : OC K C_Handler []
  a_Handler_init : Addr
  fd_Handler_init : FuncData
  F_Handler_init : Fun K "__init__" "Handler.__init__" s_Handler___init__ a_Handler_init fd_Handler_init
  M_Handler : Mk K C_Handler a_Handler_init
  b_Handler_init : Binds K fd_Handler_init ["self", "yard"] []
  a_Handler_addFilter : Addr
  fd_Handler_addFilter : FuncData
  F_Handler_addFilter : Fun K "addFilter" "Handler.addFilter" s_Handler_addFilter a_Handler_addFilter fd_Handler_addFilter
  Me_Handler_addFilter : Meth K C_Handler "addFilter" a_Handler_addFilter
  b_Handler_addFilter : Binds K fd_Handler_addFilter ["self", "one"] []
  a_Handler_removeFilter : Addr
  fd_Handler_removeFilter : FuncData
  F_Handler_removeFilter : Fun K "removeFilter" "Handler.removeFilter" s_Handler_removeFilter a_Handler_removeFilter fd_Handler_removeFilter
  Me_Handler_removeFilter : Meth K C_Handler "removeFilter" a_Handler_removeFilter
  b_Handler_removeFilter : Binds K fd_Handler_removeFilter ["self", "one"] []
  a_Handler_filtered : Addr
  fd_Handler_filtered : FuncData
  F_Handler_filtered : Fun K "filtered" "Handler.filtered" s_Handler_filtered a_Handler_filtered fd_Handler_filtered
  Me_Handler_filtered : Meth K C_Handler "filtered" a_Handler_filtered
  b_Handler_filtered : Binds K fd_Handler_filtered ["self", "record"] []
  C_NullHandler : Addr
  g_NullHandler : mg "NullHandler" = some (.ref C_NullHandler)
  o_NullHandler : OC K C_NullHandler ["yard", "level", "formatter", "filters", "name", "terminator", "closed"]
  a_NullHandler_init : Addr
  fd_NullHandler_init : FuncData
  F_NullHandler_init : SupF K file "__init__" "NullHandler.__init__" s_NullHandler___init__ a_NullHandler_init fd_NullHandler_init C_NullHandler
  M_NullHandler : Mk K C_NullHandler a_NullHandler_init
  b_NullHandler_init : Binds K fd_NullHandler_init ["self", "yard"] []
  a_NullHandler_addFilter : Addr
  fd_NullHandler_addFilter : FuncData
  F_NullHandler_addFilter : SupF K file "addFilter" "NullHandler.addFilter" s_NullHandler_addFilter a_NullHandler_addFilter fd_NullHandler_addFilter C_NullHandler
  Me_NullHandler_addFilter : Meth K C_NullHandler "addFilter" a_NullHandler_addFilter
  b_NullHandler_addFilter : Binds K fd_NullHandler_addFilter ["self", "one"] []
  a_NullHandler_removeFilter : Addr
  fd_NullHandler_removeFilter : FuncData
  F_NullHandler_removeFilter : SupF K file "removeFilter" "NullHandler.removeFilter" s_NullHandler_removeFilter a_NullHandler_removeFilter fd_NullHandler_removeFilter C_NullHandler
  Me_NullHandler_removeFilter : Meth K C_NullHandler "removeFilter" a_NullHandler_removeFilter
  b_NullHandler_removeFilter : Binds K fd_NullHandler_removeFilter ["self", "one"] []
  a_NullHandler_filtered : Addr
  fd_NullHandler_filtered : FuncData
  F_NullHandler_filtered : SupF K file "filtered" "NullHandler.filtered" s_NullHandler_filtered a_NullHandler_filtered fd_NullHandler_filtered C_NullHandler
  Me_NullHandler_filtered : Meth K C_NullHandler "filtered" a_NullHandler_filtered
  b_NullHandler_filtered : Binds K fd_NullHandler_filtered ["self", "record"] []
  C_Logger : Addr
  g_Logger : mg "Logger" = some (.ref C_Logger)
  o_Logger : OC K C_Logger ["tree", "yard", "name", "level", "propagate", "disabled", "handlers", "filters", "parent"]
  a_Logger_init : Addr
  fd_Logger_init : FuncData
  F_Logger_init : Fun K "__init__" "Logger.__init__" s_Logger___init__ a_Logger_init fd_Logger_init
  M_Logger : Mk K C_Logger a_Logger_init
  b_Logger_init : Binds K fd_Logger_init ["self", "tree", "name", "level", "parent"] []
  a_Logger_addFilter : Addr
  fd_Logger_addFilter : FuncData
  F_Logger_addFilter : Fun K "addFilter" "Logger.addFilter" s_Logger_addFilter a_Logger_addFilter fd_Logger_addFilter
  Me_Logger_addFilter : Meth K C_Logger "addFilter" a_Logger_addFilter
  b_Logger_addFilter : Binds K fd_Logger_addFilter ["self", "one"] []
  a_Logger_removeFilter : Addr
  fd_Logger_removeFilter : FuncData
  F_Logger_removeFilter : Fun K "removeFilter" "Logger.removeFilter" s_Logger_removeFilter a_Logger_removeFilter fd_Logger_removeFilter
  Me_Logger_removeFilter : Meth K C_Logger "removeFilter" a_Logger_removeFilter
  b_Logger_removeFilter : Binds K fd_Logger_removeFilter ["self", "one"] []
  a_Logger_filtered : Addr
  fd_Logger_filtered : FuncData
  F_Logger_filtered : Fun K "filtered" "Logger.filtered" s_Logger_filtered a_Logger_filtered fd_Logger_filtered
  Me_Logger_filtered : Meth K C_Logger "filtered" a_Logger_filtered
  b_Logger_filtered : Binds K fd_Logger_filtered ["self", "record"] []
  C_LoggerTree : Addr
  g_LoggerTree : mg "LoggerTree" = some (.ref C_LoggerTree)
  o_LoggerTree : OC K C_LoggerTree ["yard", "levels", "clock", "last_resort", "barred", "named", "root"]
  a_LoggerTree_init : Addr
  fd_LoggerTree_init : FuncData
  F_LoggerTree_init : Fun K "__init__" "LoggerTree.__init__" s_LoggerTree___init__ a_LoggerTree_init fd_LoggerTree_init
  M_LoggerTree : Mk K C_LoggerTree a_LoggerTree_init
  b_LoggerTree_init : Binds K fd_LoggerTree_init ["self", "yard", "levels", "clock", "last_resort"] []
  a_LoggerTree_getLogger : Addr
  fd_LoggerTree_getLogger : FuncData
  aGT_LoggerTree_getLogger : Addr
  F_LoggerTree_getLogger : FunD K "getLogger" "LoggerTree.getLogger" (defArgs s_LoggerTree_getLogger) (defBody s_LoggerTree_getLogger) (defScope s_LoggerTree_getLogger) [.str (SX.S [])] [] a_LoggerTree_getLogger fd_LoggerTree_getLogger
  Me_LoggerTree_getLogger : Meth K C_LoggerTree "getLogger" a_LoggerTree_getLogger
  b_LoggerTree_getLogger : Binds K fd_LoggerTree_getLogger ["self", "name"] []
  a_LoggerTree_grow : Addr
  fd_LoggerTree_grow : FuncData
  F_LoggerTree_grow : Fun K "grow" "LoggerTree.grow" s_LoggerTree_grow a_LoggerTree_grow fd_LoggerTree_grow
  Me_LoggerTree_grow : Meth K C_LoggerTree "grow" a_LoggerTree_grow
  b_LoggerTree_grow : Binds K fd_LoggerTree_grow ["self", "name"] []
  a_LoggerTree_nearest : Addr
  fd_LoggerTree_nearest : FuncData
  F_LoggerTree_nearest : Fun K "nearest" "LoggerTree.nearest" s_LoggerTree_nearest a_LoggerTree_nearest fd_LoggerTree_nearest
  Me_LoggerTree_nearest : Meth K C_LoggerTree "nearest" a_LoggerTree_nearest
  b_LoggerTree_nearest : Binds K fd_LoggerTree_nearest ["self", "name"] []
  a_LoggerTree_made : Addr
  fd_LoggerTree_made : FuncData
  F_LoggerTree_made : Fun K "made" "LoggerTree.made" s_LoggerTree_made a_LoggerTree_made fd_LoggerTree_made
  Me_LoggerTree_made : Meth K C_LoggerTree "made" a_LoggerTree_made
  b_LoggerTree_made : Binds K fd_LoggerTree_made ["self"] []
  a_LoggerTree_loggers : Addr
  fd_LoggerTree_loggers : FuncData
  F_LoggerTree_loggers : Fun K "loggers" "LoggerTree.loggers" s_LoggerTree_loggers a_LoggerTree_loggers fd_LoggerTree_loggers
  Me_LoggerTree_loggers : Meth K C_LoggerTree "loggers" a_LoggerTree_loggers
  b_LoggerTree_loggers : Binds K fd_LoggerTree_loggers ["self"] []
  C_StreamHandler : Addr
  g_StreamHandler : mg "StreamHandler" = some (.ref C_StreamHandler)
  o_StreamHandler : OC K C_StreamHandler ["yard", "level", "formatter", "filters", "name", "terminator", "closed", "stream"]
  a_StreamHandler_init : Addr
  fd_StreamHandler_init : FuncData
  F_StreamHandler_init : SupF K file "__init__" "StreamHandler.__init__" s_StreamHandler___init__ a_StreamHandler_init fd_StreamHandler_init C_StreamHandler
  M_StreamHandler : Mk K C_StreamHandler a_StreamHandler_init
  C_Yard : Addr
  g_Yard : mg "Yard" = some (.ref C_Yard)
  o_Yard : OC K C_Yard ["clock", "levels", "stream_store", "file_store", "roster", "tree", "root"]
  a_Yard_init : Addr
  fd_Yard_init : FuncData
  F_Yard_init : FunD K "__init__" "Yard.__init__" (defArgs s_Yard___init__) (defBody s_Yard___init__) (defScope s_Yard___init__) [.int 0] [] a_Yard_init fd_Yard_init
  M_Yard : Mk K C_Yard a_Yard_init
  a_Yard_getLogger : Addr
  fd_Yard_getLogger : FuncData
  aGT_Yard_getLogger : Addr
  F_Yard_getLogger : FunD K "getLogger" "Yard.getLogger" (defArgs s_Yard_getLogger) (defBody s_Yard_getLogger) (defScope s_Yard_getLogger) [.str (SX.S [])] [] a_Yard_getLogger fd_Yard_getLogger
  Me_Yard_getLogger : Meth K C_Yard "getLogger" a_Yard_getLogger
  b_Yard_getLogger : Binds K fd_Yard_getLogger ["self", "name"] []
  a_Yard_make_record : Addr
  fd_Yard_make_record : FuncData
  aGT_Yard_make_record : Addr
  F_Yard_make_record : FunD K "make_record" "Yard.make_record" (defArgs s_Yard_make_record) (defBody s_Yard_make_record) (defScope s_Yard_make_record) [.ref aGT_Yard_make_record, .non] [] a_Yard_make_record fd_Yard_make_record
  Me_Yard_make_record : Meth K C_Yard "make_record" a_Yard_make_record
  b_Yard_make_record : Binds K fd_Yard_make_record ["self", "name", "level", "msg", "args", "extra"] []
  dd_Yard_make_record : ∃ ds, Vals [V.ref aGT_Yard_make_record, V.non] ds ∧ Binds K fd_Yard_make_record ["self", "name", "level", "msg", "args", "extra"] ds
  gt_Yard_make_record : ∀ H, SqT K H aGT_Yard_make_record [] ∧ TyX K H (.ref aGT_Yard_make_record) (.type "tuple")
  b_Filter_init : Binds K fd_Filter_init ["self", "name"] []
  dd_Filter_init : ∃ ds, Vals [V.str (SX.S [])] ds ∧ Binds K fd_Filter_init ["self", "name"] ds
  SM_NullHandler_init : SupM K C_NullHandler C_NullHandler "__init__" a_Handler_init
  SM_NullHandler_addFilter : SupM K C_NullHandler C_NullHandler "addFilter" a_Handler_addFilter
  SM_NullHandler_removeFilter : SupM K C_NullHandler C_NullHandler "removeFilter" a_Handler_removeFilter
  SM_NullHandler_filtered : SupM K C_NullHandler C_NullHandler "filtered" a_Handler_filtered
  cmp_Filter : OQ.CmpC K C_Filter
  tyi_Filter : OQ.TyI K C_Filter
  cmp_LogRecord : OQ.CmpC K C_LogRecord
  c_BadExtra : Addr
  i_BadExtra : Addr
  E_BadExtra : ErrTxt K mg "BadExtra" "name" c_BadExtra i_BadExtra
  aKN : Addr
  k_KEPT_NAMES : ∃ u, mg "KEPT_NAMES" = some u ∧ RelV (.ref aKN) u
  t_KEPT_NAMES : ∀ H, SqT K H aKN (keptNames.map fun l => V.str (SX.S l))
  cP : Addr
  PP : Addr
  W_P : GA.DefC K "is_part" "is_part" s_is_part cP f_is_part fd_is_part
  cD : Addr
  PD : Addr
  W_D : GA.DefC K "is_dotted" "is_dotted" s_is_dotted cD f_is_dotted fd_is_dotted
  dd_Yard_init : ∃ ds, Vals [V.int 0] ds ∧ Binds K fd_Yard_init ["self", "now"] ds
  c_BadLevel : Addr
  i_BadLevel : Addr
  E_BadLevel : ErrTxt K mg "BadLevel" "level" c_BadLevel i_BadLevel
  c_BadName : Addr
  i_BadName : Addr
  E_BadName : ErrTxt K mg "BadName" "name" c_BadName i_BadName
  aFN : Addr
  aFM : Addr
  k_FIRST_NAMES : ∃ u, mg "FIRST_NAMES" = some u ∧ RelV (.ref aFN) u
  k_FIRST_NUMBERS : ∃ u, mg "FIRST_NUMBERS" = some u ∧ RelV (.ref aFM) u
  k_NOTSET : ∃ u, mg "NOTSET" = some u ∧ RelV (.int 0) u
  k_WARNING : ∃ u, mg "WARNING" = some u ∧ RelV (.int 30) u
  k_LETTERS : ∃ u, mg "LETTERS" = some u ∧ RelV (.str (SX.S [97, 98, 99, 100, 101, 102, 103, 104, 105, 106, 107, 108, 109, 110, 111, 112, 113, 114, 115, 116, 117, 118, 119, 120, 121, 122, 65, 66, 67, 68, 69, 70, 71, 72, 73, 74, 75, 76, 77, 78, 79, 80, 81, 82, 83, 84, 85, 86, 87, 88, 89, 90])) u
  k_DIGITS : ∃ u, mg "DIGITS" = some u ∧ RelV (.str (SX.S [48, 49, 50, 51, 52, 53, 54, 55, 56, 57])) u
  aRN : Addr
  k_ROOT_NAMES : ∃ u, mg "ROOT_NAMES" = some u ∧ RelV (.ref aRN) u
  t_ROOT_NAMES : ∀ H, SqT K H aRN [V.str (SX.S []), V.str (SX.S [114, 111, 111, 116])]
  cmp_Logger : OQ.CmpC K C_Logger
  dd_StreamHandler_init : ∃ ds, Vals [V.str (SX.S [115, 116, 100, 101, 114, 114])] ds ∧ Binds K fd_StreamHandler_init ["self", "yard", "stream"] ds
  SM_StreamHandler_init : SupM K C_StreamHandler C_StreamHandler "__init__" a_Handler_init
def firstNames : List (Key × V) := [(.inl 50, .str (SX.S [67, 82, 73, 84, 73, 67, 65, 76])), (.inl 40, .str (SX.S [69, 82, 82, 79, 82])), (.inl 30, .str (SX.S [87, 65, 82, 78, 73, 78, 71])), (.inl 20, .str (SX.S [73, 78, 70, 79])), (.inl 10, .str (SX.S [68, 69, 66, 85, 71])), (.inl 0, .str (SX.S [78, 79, 84, 83, 69, 84]))]
def firstNumbers : List (Key × V) := [(.inr (SX.S [67, 82, 73, 84, 73, 67, 65, 76]), .int 50), (.inr (SX.S [70, 65, 84, 65, 76]), .int 50), (.inr (SX.S [69, 82, 82, 79, 82]), .int 40), (.inr (SX.S [87, 65, 82, 78, 73, 78, 71]), .int 30), (.inr (SX.S [87, 65, 82, 78]), .int 30), (.inr (SX.S [73, 78, 70, 79]), .int 20), (.inr (SX.S [68, 69, 66, 85, 71]), .int 10), (.inr (SX.S [78, 79, 84, 83, 69, 84]), .int 0)]
/-- what is asked of the program and its module's dicts -/
structure Dct (P : Program) (w : World) (K : PySem.W.Frag) (mg : Str → Option Value) (T : Txt K mg) : Prop where
  top : TopS P mg T.file
  n1 : DKc K P w T.aFN firstNames
  n2 : DKc K P w T.aFM firstNumbers
local macro_rules | `(tactic| walk_at "hp") => `(tactic| first | assumption | exact upd_same | (refine Eq.trans (upd_ne (by first | assumption | (apply Ne.symm; assumption))) ?_; walk_at "hp"))
local macro_rules | `(tactic| walk_at "ixl") => `(tactic| (refine' ⟨_, ?xs, _, ?vv, rfl, rfl, SqL.of ?hh, ?aa, ?qq⟩; (case hh => walk_at "hp"); (case aa => rfl)))
local macro_rules | `(tactic| walk_at "setl") => `(tactic| (refine' ⟨_, ?xs, _, ?jj, rfl, rfl, ?hh, ?aa, ?qq⟩; (case hh => walk_at "hp"); (case aa => rfl)))
local macro_rules | `(tactic| walk_at "cond") => `(tactic| first | exact ⟨_, rfl⟩ | exact Nat.le_of_lt (small1000 (Nat.le_of_ble_eq_true rfl)) | decide | omega | (dsimp only; omega) | exact ⟨by decide, by decide⟩ | exact Or.inr ⟨by decide, by decide⟩ | exact Or.inl ⟨by decide, by decide⟩ | exact ⟨by decide, by decide, by decide⟩ | exact ⟨by omega, by omega⟩ | exact ⟨by omega, by omega, by omega⟩ | (simp only [List.length_cons, List.length_nil, List.length_append, List.length_take, List.length_drop]; omega) | (refine ⟨?_, ?_, ?_⟩ <;> first | decide | omega | (simp only [List.length_cons, List.length_nil, List.length_append, List.length_take, List.length_drop, Option.getD_some, Option.getD_none]; omega)))
local macro_rules | `(tactic| walk_at "st") => `(tactic| repeat (first | refine ⟨_, rfl, ?_⟩ | refine ⟨_, _, rfl, rfl, ?_⟩ | walk_at "ixl" | walk_at "setl" | refine ⟨rfl, ?_⟩ | refine Or.inl ⟨_, rfl, ?_⟩ | refine And.intro (by walk_at "cond") ?_))
/-- what the stepper does not open -/
inductive Hd (p : Prop) : Prop where
  | a (h : p)
  | b (h : p)
theorem Hd.out {p : Prop} (h : Hd p) : p := by
  cases h <;> assumption
theorem if_true_of {c : Bool} {A B : Prop} (hc : c = true) (h : A) : if c = true then A else B := by
  rw [if_pos hc]
  exact h
theorem if_false_of {c : Bool} {A B : Prop} (hc : c = false) (h : B) : if c = true then A else B := by
  rw [hc, if_neg Bool.false_ne_true]
  exact h
/-- all but x stands -/
def SameX (x : Addr) (H H' : Hp) : Prop := ∀ c u, c ≠ x → H c = some u → H' c = some u
theorem SameX.refl (x : Addr) (H : Hp) : SameX x H H := fun _ _ _ e => e
theorem SameX.trans {x : Addr} {H H1 H2 : Hp} (a : SameX x H H1) (b : SameX x H1 H2) : SameX x H H2 := fun c u n e => b c u n (a c u n e)
theorem SameX.put {x : Addr} {H H' : Hp} {o : HO} (s : SameX x H H') : SameX x H (upd H' x o) := fun c u n e => by rw [upd_ne n]; exact s c u n e
theorem SameX.new {x a : Addr} {H H' : Hp} {o : HO} (s : SameX x H H') (ha : H a = none) : SameX x H (upd H' a o) := fun c u n e => by
  rw [upd_ne (fun z => by rw [z, ha] at e; cases e)]; exact s c u n e
section
variable {P : Program} {w : World} {K : PySem.W.Frag} {mg : Str → Option Value} {base : Heap}
/-! ### the clock -/
def spClock (C : Addr) : Sp := fun vs H Q _ => Hd (∃ (x dx : Addr) (v : V), vs = [.ref x, v] ∧ H x = some (.ins C dx []) ∧ ∀ H', H' x = some (.ins C dx [("shown", v)]) → SameX x H H' → Q .non H')
theorem ok_clock (T : Txt K mg) : FnOk P w K mg base CX0 1 T.a_Clock_init T.fd_Clock_init ["self", "shown"] (spClock T.C_Clock) := by
  refine T.F_Clock_init.ok sc_Clock___init__ (fun vs H Q E h => ?_) (fun cdv A outer s H vs Q E hr h => ?_)
  · obtain ⟨x, dx, v, rfl, _⟩ := h.out
    rfl
  · obtain ⟨x, dx, v, rfl, hx, k⟩ := h.out
    refine ⟨_, (pss_one (ps_fld (pv 0) (pv 1) rfl)), ?_⟩
    walk_at "st"
    refine ⟨x, T.C_Clock, dx, _, rfl, hx, T.o_Clock.cl, T.o_Clock.na _ (by decide), Nat.le_of_ble_eq_true rfl, ?_⟩
    exact k _ upd_same (SameX.refl _ _).put
def spNow (C : Addr) : Sp := fun vs H Q _ => Hd (∃ (x dx : Addr) (v : V), vs = [.ref x] ∧ H x = some (.ins C dx [("shown", v)]) ∧ Q v H)
theorem ok_now (T : Txt K mg) : FnOk P w K mg base CX0 1 T.a_Clock_now T.fd_Clock_now ["self"] (spNow T.C_Clock) := by
  refine T.F_Clock_now.ok sc_Clock_now (fun vs H Q E h => ?_) (fun cdv A outer s H vs Q E hr h => ?_)
  · obtain ⟨x, dx, v, rfl, _⟩ := h.out
    rfl
  · obtain ⟨x, dx, v, rfl, hx, k⟩ := h.out
    refine ⟨_, (pss_one (ps_ret (pe_fld (pv 0) rfl))), ?_⟩
    walk_at "st"
    exact ⟨x, T.C_Clock, dx, _, v, rfl, hx, T.o_Clock.cl, T.o_Clock.na _ (by decide), rfl, k⟩
end
end My

namespace My
open PySem PySem.Spec PyProof.Rows L2 SuX
local macro_rules | `(tactic| walk_at "hp") => `(tactic| first | assumption | exact upd_same | (refine Eq.trans (upd_ne (by first | assumption | (apply Ne.symm; assumption))) ?_; walk_at "hp"))
local macro_rules | `(tactic| walk_at "ixl") => `(tactic| (refine' ⟨_, ?xs, _, ?vv, rfl, rfl, SqL.of ?hh, ?aa, ?qq⟩; (case hh => walk_at "hp"); (case aa => rfl)))
local macro_rules | `(tactic| walk_at "setl") => `(tactic| (refine' ⟨_, ?xs, _, ?jj, rfl, rfl, ?hh, ?aa, ?qq⟩; (case hh => walk_at "hp"); (case aa => rfl)))
local macro_rules | `(tactic| walk_at "cond") => `(tactic| first | exact ⟨_, rfl⟩ | exact Nat.le_of_lt (small1000 (Nat.le_of_ble_eq_true rfl)) | decide | omega | (dsimp only; omega) | exact ⟨by decide, by decide⟩ | exact Or.inr ⟨by decide, by decide⟩ | exact Or.inl ⟨by decide, by decide⟩ | exact ⟨by decide, by decide, by decide⟩ | exact ⟨by omega, by omega⟩ | exact ⟨by omega, by omega, by omega⟩ | (simp only [List.length_cons, List.length_nil, List.length_append, List.length_take, List.length_drop]; omega) | (refine ⟨?_, ?_, ?_⟩ <;> first | decide | omega | (simp only [List.length_cons, List.length_nil, List.length_append, List.length_take, List.length_drop, Option.getD_some, Option.getD_none]; omega)))
local macro_rules | `(tactic| walk_at "st") => `(tactic| repeat (first | refine ⟨_, rfl, ?_⟩ | refine ⟨_, _, rfl, rfl, ?_⟩ | walk_at "ixl" | walk_at "setl" | refine ⟨rfl, ?_⟩ | refine Or.inl ⟨_, rfl, ?_⟩ | refine And.intro (by walk_at "cond") ?_))
section
variable {P : Program} {w : World} {K : PySem.W.Frag} {mg : Str → Option Value} {base : Heap}
/-! ### rosters -/
def fRo (a b c : Addr) : List (Str × V) := [("handlers", .ref a), ("leading", .ref b), ("failed", .ref c)]
def spRoster (C : Addr) : Sp := fun vs H Q _ => Hd (∃ (x dx : Addr), vs = [.ref x] ∧ H x = some (.ins C dx []) ∧
  ∀ H' a b c, H' x = some (.ins C dx (fRo a b c)) → H' a = some (.lst []) → H' b = some (.dK []) → H' c = some (.lst []) → H a = none → H b = none → H c = none → a ≠ b → a ≠ c → b ≠ c → SameX x H H' → Q .non H')
theorem ok_roster (T : Txt K mg) : FnOk P w K mg base CX0 1 T.a_Roster_init T.fd_Roster_init ["self"] (spRoster T.C_Roster) := by
  refine T.F_Roster_init.ok sc_Roster___init__ (fun vs H Q E h => ?_) (fun cdv A outer s H vs Q E hr h => ?_)
  · obtain ⟨x, dx, rfl, _⟩ := h.out
    rfl
  · obtain ⟨x, dx, rfl, hx, k⟩ := h.out
    refine ⟨_, (pss_cons (ps_fld (pv 0) (pe_lst pa_nil) rfl)
  (pss_cons (ps_fld (pv 0) pe_dnewK rfl)
  (pss_one (ps_fld (pv 0) (pe_lst pa_nil) rfl)))), ?_⟩
    walk_at "st"
    intro a ha
    have xa : x ≠ a := ne_of_none hx ha
    walk_at "st"
    refine ⟨x, T.C_Roster, dx, _, rfl, by rw [upd_ne xa]; exact hx, T.o_Roster.cl, T.o_Roster.na _ (by decide), Nat.le_of_ble_eq_true rfl, ?_⟩
    walk_at "st"
    intro b hb
    have xb : x ≠ b := ne_of_none upd_same hb
    have ab : a ≠ b := ne_of_none (by rw [upd_ne xa.symm]; exact upd_same) hb
    have hb0 : H b = none := by rw [upd_ne xb.symm, upd_ne ab.symm] at hb; exact hb
    walk_at "st"
    refine ⟨x, T.C_Roster, dx, _, rfl, by rw [upd_ne xb]; exact upd_same, T.o_Roster.cl, T.o_Roster.na _ (by decide), Nat.le_of_ble_eq_true rfl, ?_⟩
    walk_at "st"
    intro c hc
    have xc : x ≠ c := ne_of_none upd_same hc
    have bc : b ≠ c := ne_of_none (by rw [upd_ne xb.symm]; exact upd_same) hc
    have ac : a ≠ c := ne_of_none (by rw [upd_ne xa.symm, upd_ne ab, upd_ne xa.symm]; exact upd_same) hc
    have hc0 : H c = none := by rw [upd_ne xc.symm, upd_ne bc.symm, upd_ne xc.symm, upd_ne ac.symm] at hc; exact hc
    walk_at "st"
    refine ⟨x, T.C_Roster, dx, _, rfl, by rw [upd_ne xc]; exact upd_same, T.o_Roster.cl, T.o_Roster.na _ (by decide), Nat.le_of_ble_eq_true rfl, ?_⟩
    refine k _ a b c upd_same (by rw [upd_ne xa.symm, upd_ne ac, upd_ne xa.symm, upd_ne ab, upd_ne xa.symm]; exact upd_same) (by rw [upd_ne xb.symm, upd_ne bc, upd_ne xb.symm]; exact upd_same) (by rw [upd_ne xc.symm]; exact upd_same) ha hb0 hc0 ab ac bc ?_
    exact ((((((SameX.refl _ _).new ha).put).new hb0).put).new hc0).put
def spEnter (C : Addr) : Sp := fun vs H Q _ => Hd (∃ (x dx a b c : Addr) (v : V) (hs : List V), vs = [.ref x, v] ∧ H x = some (.ins C dx (fRo a b c)) ∧ H a = some (.lst hs) ∧ hs.length < sizeLine ∧ Q .non (upd H a (.lst (hs ++ [v]))))
theorem ok_enter (T : Txt K mg) : FnOk P w K mg base CX0 1 T.a_Roster_enter T.fd_Roster_enter ["self", "handler"] (spEnter T.C_Roster) := by
  refine T.F_Roster_enter.ok sc_Roster_enter (fun vs H Q E h => ?_) (fun cdv A outer s H vs Q E hr h => ?_)
  · obtain ⟨x, dx, a, b, c, v, hs, rfl, _⟩ := h.out
    rfl
  · obtain ⟨x, dx, a, b, c, v, hs, rfl, hx, ha, hz, k⟩ := h.out
    refine ⟨_, (pss_one (ps_expr (pe_bm PySem.F.plainAttrs_list PySem.F.slot_list_append PySem.F.type_list_append mt_append (pe_fld (pv 0) rfl) (pa_cons (pv 1) pa_nil)))), ?_⟩
    walk_at "st"
    refine ⟨x, T.C_Roster, dx, _, .ref a, rfl, hx, T.o_Roster.cl, T.o_Roster.na _ (by decide), rfl, ?_⟩
    walk_at "st"
    refine ⟨.inl ⟨rfl, _, SqL.of ha⟩, ?_⟩
    walk_at "st"
    exact ⟨_, _, _, rfl, rfl, ha, hz, k⟩
/-! ### stores -/
def fSt (a b : Addr) : List (Str × V) := [("clock", .ref a), ("kept", .ref b)]
def spStore (C : Addr) : Sp := fun vs H Q _ => Hd (∃ (x dx a : Addr), vs = [.ref x, .ref a] ∧ H x = some (.ins C dx []) ∧
  ∀ H' b, H' x = some (.ins C dx (fSt a b)) → H' b = some (.dK []) → H b = none → SameX x H H' → Q .non H')
theorem ok_store (T : Txt K mg) : FnOk P w K mg base CX0 1 T.a_Store_init T.fd_Store_init ["self", "clock"] (spStore T.C_Store) := by
  refine T.F_Store_init.ok sc_Store___init__ (fun vs H Q E h => ?_) (fun cdv A outer s H vs Q E hr h => ?_)
  · obtain ⟨x, dx, a, rfl, _⟩ := h.out
    rfl
  · obtain ⟨x, dx, a, rfl, hx, k⟩ := h.out
    refine ⟨_, (pss_cons (ps_fld (pv 0) (pv 1) rfl)
  (pss_one (ps_fld (pv 0) pe_dnewK rfl))), ?_⟩
    walk_at "st"
    refine ⟨x, T.C_Store, dx, _, rfl, hx, T.o_Store.cl, T.o_Store.na _ (by decide), Nat.le_of_ble_eq_true rfl, ?_⟩
    walk_at "st"
    intro b hb
    have xb : x ≠ b := ne_of_none upd_same hb
    have hb0 : H b = none := by rw [upd_ne xb.symm] at hb; exact hb
    walk_at "st"
    refine ⟨x, T.C_Store, dx, _, rfl, by rw [upd_ne xb]; exact upd_same, T.o_Store.cl, T.o_Store.na _ (by decide), Nat.le_of_ble_eq_true rfl, ?_⟩
    exact k _ b upd_same (by rw [upd_ne xb.symm]; exact upd_same) hb0 ((((SameX.refl _ _).put).new hb0).put)
/-! ### written texts -/
def fWr (a : Addr) (n : Int) (t : V) : List (Str × V) := [("parts", .ref a), ("size", .int n), ("time", t)]
def spWritten (C : Addr) : Sp := fun vs H Q _ => Hd (∃ (x dx : Addr) (l : List Nat) (t : V), vs = [.ref x, .str (SX.S l), t] ∧ H x = some (.ins C dx []) ∧ l.length ≤ 100000 ∧
  ∀ H' a, H' x = some (.ins C dx (fWr a l.length t)) → H' a = some (.lst [.str (SX.S l)]) → H a = none → SameX x H H' → Q .non H')
theorem ok_written (T : Txt K mg) : FnOk P w K mg base CX0 1 T.a_Written_init T.fd_Written_init ["self", "text", "time"] (spWritten T.C_Written) := by
  refine T.F_Written_init.ok sc_Written___init__ (fun vs H Q E h => ?_) (fun cdv A outer s H vs Q E hr h => ?_)
  · obtain ⟨x, dx, l, t, rfl, _⟩ := h.out
    rfl
  · obtain ⟨x, dx, l, t, rfl, hx, hz, k⟩ := h.out
    refine ⟨_, (pss_cons (ps_fld (pv 0) (pe_lst (pa_cons (pv 1) pa_nil)) rfl)
  (pss_cons (ps_fld (pv 0) (pe_callB SL.call_lenL (by rfl) T.B.n_len (by decide +kernel) (pa_cons (pv 1) pa_nil)) rfl)
  (pss_one (ps_fld (pv 0) (pv 2) rfl)))), ?_⟩
    walk_at "st"
    intro a ha
    have xa : x ≠ a := ne_of_none hx ha
    walk_at "st"
    refine ⟨x, T.C_Written, dx, _, rfl, by rw [upd_ne xa]; exact hx, T.o_Written.cl, T.o_Written.na _ (by decide), Nat.le_of_ble_eq_true rfl, ?_⟩
    walk_at "st"
    refine ⟨x, T.C_Written, dx, _, rfl, upd_same, T.o_Written.cl, T.o_Written.na _ (by decide), Nat.le_of_ble_eq_true rfl, ?_⟩
    walk_at "st"
    refine ⟨x, T.C_Written, dx, _, rfl, upd_same, T.o_Written.cl, T.o_Written.na _ (by decide), Nat.le_of_ble_eq_true rfl, ?_⟩
    refine k _ a upd_same (by rw [upd_ne xa.symm, upd_ne xa.symm, upd_ne xa.symm]; exact upd_same) ha ?_
    exact (((((SameX.refl _ _).new ha).put).put).put)
end
end My

namespace My
open PySem PySem.Spec PyProof.Rows L2 SuX
local macro_rules | `(tactic| walk_at "hp") => `(tactic| first | assumption | exact upd_same | (refine Eq.trans (upd_ne (by first | assumption | (apply Ne.symm; assumption))) ?_; walk_at "hp"))
local macro_rules | `(tactic| walk_at "ixl") => `(tactic| (refine' ⟨_, ?xs, _, ?vv, rfl, rfl, SqL.of ?hh, ?aa, ?qq⟩; (case hh => walk_at "hp"); (case aa => rfl)))
local macro_rules | `(tactic| walk_at "setl") => `(tactic| (refine' ⟨_, ?xs, _, ?jj, rfl, rfl, ?hh, ?aa, ?qq⟩; (case hh => walk_at "hp"); (case aa => rfl)))
local macro_rules | `(tactic| walk_at "cond") => `(tactic| first | exact ⟨_, rfl⟩ | exact Nat.le_of_lt (small1000 (Nat.le_of_ble_eq_true rfl)) | decide | omega | (dsimp only; omega) | exact ⟨by decide, by decide⟩ | exact Or.inr ⟨by decide, by decide⟩ | exact Or.inl ⟨by decide, by decide⟩ | exact ⟨by decide, by decide, by decide⟩ | exact ⟨by omega, by omega⟩ | exact ⟨by omega, by omega, by omega⟩ | (simp only [List.length_cons, List.length_nil, List.length_append, List.length_take, List.length_drop]; omega) | (refine ⟨?_, ?_, ?_⟩ <;> first | decide | omega | (simp only [List.length_cons, List.length_nil, List.length_append, List.length_take, List.length_drop, Option.getD_some, Option.getD_none]; omega)))
local macro_rules | `(tactic| walk_at "st") => `(tactic| repeat (first | refine ⟨_, rfl, ?_⟩ | refine ⟨_, _, rfl, rfl, ?_⟩ | walk_at "ixl" | walk_at "setl" | refine ⟨rfl, ?_⟩ | refine Or.inl ⟨_, rfl, ?_⟩ | refine And.intro (by walk_at "cond") ?_))
section
variable {P : Program} {w : World} {K : PySem.W.Frag} {mg : Str → Option Value} {base : Heap}
/-! ### tables of levels -/
def fLv (a b : Addr) : List (Str × V) := [("names", .ref a), ("numbers", .ref b)]
def spLevels (C : Addr) : Sp := fun vs H Q _ => Hd (∃ (x dx : Addr), vs = [.ref x] ∧ H x = some (.ins C dx []) ∧
  ∀ H' a b, H' x = some (.ins C dx (fLv a b)) → H' a = some (.dK firstNames) → H' b = some (.dK firstNumbers) → H a = none → H b = none → a ≠ b → SameX x H H' → Q .non H')
theorem ok_levels (T : Txt K mg) (Z : Dct P w K mg T) : FnOk P w K mg base CX0 1 T.a_LevelTable_init T.fd_LevelTable_init ["self"] (spLevels T.C_LevelTable) := by
  refine T.F_LevelTable_init.ok sc_LevelTable___init__ (fun vs H Q E h => ?_) (fun cdv A outer s H vs Q E hr h => ?_)
  · obtain ⟨x, dx, rfl, _⟩ := h.out
    rfl
  · obtain ⟨x, dx, rfl, hx, k⟩ := h.out
    refine ⟨_, (pss_cons (ps_fld (pv 0) (pe_callTy call_dictK (by rfl) T.B.n_dict (by decide +kernel) (pa_cons (C8.pe_gc rfl T.k_FIRST_NAMES) pa_nil)) rfl)
  (pss_one (ps_fld (pv 0) (pe_callTy call_dictK (by rfl) T.B.n_dict (by decide +kernel) (pa_cons (C8.pe_gc rfl T.k_FIRST_NUMBERS) pa_nil)) rfl))), ?_⟩
    walk_at "st"
    refine ⟨_, _, rfl, Z.n1, fun a ha => ?_⟩
    have xa : x ≠ a := ne_of_none hx ha
    walk_at "st"
    refine ⟨x, T.C_LevelTable, dx, _, rfl, by rw [upd_ne xa]; exact hx, T.o_LevelTable.cl, T.o_LevelTable.na _ (by decide), Nat.le_of_ble_eq_true rfl, ?_⟩
    walk_at "st"
    refine ⟨_, _, rfl, Z.n2, fun b hb => ?_⟩
    have xb : x ≠ b := ne_of_none upd_same hb
    have ab : a ≠ b := ne_of_none (by rw [upd_ne xa.symm]; exact upd_same) hb
    have hb0 : H b = none := by rw [upd_ne xb.symm, upd_ne ab.symm] at hb; exact hb
    walk_at "st"
    refine ⟨x, T.C_LevelTable, dx, _, rfl, by rw [upd_ne xb]; exact upd_same, T.o_LevelTable.cl, T.o_LevelTable.na _ (by decide), Nat.le_of_ble_eq_true rfl, ?_⟩
    exact k _ a b upd_same (by rw [upd_ne xa.symm, upd_ne ab, upd_ne xa.symm]; exact upd_same) (by rw [upd_ne xb.symm]; exact upd_same) ha hb0 ab (((((SameX.refl _ _).new ha).put).new hb0).put)
/-! ### handlers -/
theorem hgen {R A B C : Hp → Prop} {h : Hp} (a : A h) (b : B h) (c : C h) (k : ∀ H', A H' → B H' → C H' → R H') : R h := k h a b c
/-- all but x and a stands -/
def SameY (x a : Addr) (H H' : Hp) : Prop := ∀ c u, c ≠ x → c ≠ a → H c = some u → H' c = some u
theorem SameX.y {x a : Addr} {H H' : Hp} (s : SameX x H H') : SameY x a H H' := fun c u n _ e => s c u n e
theorem SameY.put {x a : Addr} {H H' : Hp} {o : HO} (s : SameY x a H H') : SameY x a H (upd H' x o) := fun c u n m e => by rw [upd_ne n]; exact s c u n m e
theorem SameY.put2 {x a : Addr} {H H' : Hp} {o : HO} (s : SameY x a H H') : SameY x a H (upd H' a o) := fun c u n m e => by rw [upd_ne m]; exact s c u n m e
abbrev hF : List Str := ["yard", "level", "formatter", "filters", "name", "terminator", "closed"]
def fHd (y fl : Addr) : List (Str × V) := [("yard", .ref y), ("level", .int 0), ("formatter", .non), ("filters", .ref fl), ("name", .non), ("terminator", .str (SX.S [10])), ("closed", .bl false)]
def spHandler (CR : Addr) (K : PySem.W.Frag) : Sp := fun vs H Q _ => Hd (∃ (x dx C y CY dy r dr a b c : Addr) (fy : List (Str × V)) (hs : List V), vs = [.ref x, .ref y] ∧ H x = some (.ins C dx []) ∧ OC K C hF ∧ H y = some (.ins CY dy fy) ∧ Cls K CY ∧ NoAttr K CY "roster" ∧ fy.lookup ("roster" : Str) = some (V.ref r) ∧ x ≠ y ∧
  H r = some (.ins CR dr (fRo a b c)) ∧ x ≠ r ∧ H a = some (.lst hs) ∧ hs.length < sizeLine ∧
  ∀ H' fl, H' x = some (.ins C dx (fHd y fl)) → H' fl = some (.lst []) → H fl = none → H' a = some (.lst (hs ++ [.ref x])) → SameY x a H H' → Q .non H')
theorem ok_handler (T : Txt K mg) : FnOk P w K mg base CX0 2 T.a_Handler_init T.fd_Handler_init ["self", "yard"] (spHandler T.C_Roster K) := by
  have G_Roster_enter : FnOk P w K mg base CX0 1 _ _ _ (spEnter T.C_Roster) := ok_enter T
  refine T.F_Handler_init.ok sc_Handler___init__ (fun vs H Q E h => ?_) (fun cdv A outer s H vs Q E hr h => ?_)
  · obtain ⟨x, dx, C, y, CY, dy, r, dr, a, b, c, fy, hs, rfl, _⟩ := h.out
    rfl
  · obtain ⟨x, dx, C, y, CY, dy, r, dr, a, b, c, fy, hs, rfl, hx, oC, hy, cY, nY, ly, xy, hr1, xr, ha, hz, k⟩ := h.out
    have xa : x ≠ a := fun z => by rw [z, ha] at hx; cases hx
    refine ⟨_, (pss_cons (ps_fld (pv 0) (pv 1) rfl)
  (pss_cons (ps_fld (pv 0) (C8.pe_gc rfl T.k_NOTSET) rfl)
  (pss_cons (ps_fld (pv 0) pe_non rfl)
  (pss_cons (ps_fld (pv 0) (pe_lst pa_nil) rfl)
  (pss_cons (ps_fld (pv 0) pe_non rfl)
  (pss_cons (ps_fld (pv 0) (SL.pe_strL [10] (by decide +kernel)) rfl)
  (pss_cons (ps_fld (pv 0) pe_bl rfl)
  (pss_one (ps_expr (pe_meth (pe_fld (pv 1) rfl) T.o_Roster.cl T.Me_Roster_enter G_Roster_enter (hr.mono (by first | decide | omega)) T.b_Roster_enter .nil pass0 (pa_cons (pv 0) pa_nil))))))))))), ?_⟩
    walk_at "st"
    refine ⟨x, C, dx, _, rfl, hx, oC.cl, oC.na _ (by decide), Nat.le_of_ble_eq_true rfl, ?_⟩
    walk_at "st"
    refine ⟨x, C, dx, _, rfl, upd_same, oC.cl, oC.na _ (by decide), Nat.le_of_ble_eq_true rfl, ?_⟩
    walk_at "st"
    refine ⟨x, C, dx, _, rfl, upd_same, oC.cl, oC.na _ (by decide), Nat.le_of_ble_eq_true rfl, ?_⟩
    walk_at "st"
    intro fl hf
    have xf : x ≠ fl := ne_of_none upd_same hf
    have hf0 : H fl = none := by rw [upd_ne xf.symm, upd_ne xf.symm, upd_ne xf.symm] at hf; exact hf
    walk_at "st"
    refine ⟨x, C, dx, _, rfl, by rw [upd_ne xf]; exact upd_same, oC.cl, oC.na _ (by decide), Nat.le_of_ble_eq_true rfl, ?_⟩
    walk_at "st"
    refine ⟨x, C, dx, _, rfl, upd_same, oC.cl, oC.na _ (by decide), Nat.le_of_ble_eq_true rfl, ?_⟩
    walk_at "st"
    refine ⟨x, C, dx, _, rfl, upd_same, oC.cl, oC.na _ (by decide), Nat.le_of_ble_eq_true rfl, ?_⟩
    walk_at "st"
    refine ⟨x, C, dx, _, rfl, upd_same, oC.cl, oC.na _ (by decide), Nat.le_of_ble_eq_true rfl, ?_⟩
    walk_at "st"
    have yx : y ≠ x := xy.symm
    have yf : y ≠ fl := fun z => by rw [← z, hy] at hf0; cases hf0
    have rx : r ≠ x := xr.symm
    have rf : r ≠ fl := fun z => by rw [← z, hr1] at hf0; cases hf0
    have ax : a ≠ x := xa.symm
    have af : a ≠ fl := fun z => by rw [← z, ha] at hf0; cases hf0
    refine ⟨y, CY, dy, fy, .ref r, rfl, by walk_at "hp", cY, nY, ly, ?_⟩
    refine ⟨r, dr, _, rfl, by walk_at "hp", rfl, ?_⟩
    walk_at "st"
    refine .a ⟨r, dr, a, b, c, .ref x, hs, rfl, by walk_at "hp", by walk_at "hp", hz, ?_⟩
    exact k _ fl (by rw [upd_ne xa]; exact upd_same) (by walk_at "hp") hf0 upd_same (((((((((SameX.refl _ _).put).put).put).new hf0).put).put).put).put).y.put2
/-- the one of streams: super() -/
def fSh (y fl : Addr) (l : List Nat) : List (Str × V) := [("yard", .ref y), ("level", .int 0), ("formatter", .non), ("filters", .ref fl), ("name", .non), ("terminator", .str (SX.S [10])), ("closed", .bl false), ("stream", .str (SX.S l))]
def spStream (C CR : Addr) (K : PySem.W.Frag) : Sp := fun vs H Q _ => Hd (∃ (x dx y CY dy r dr a b c : Addr) (l : List Nat) (fy : List (Str × V)) (hs : List V), vs = [.ref x, .ref y, .str (SX.S l)] ∧ H x = some (.ins C dx []) ∧ H y = some (.ins CY dy fy) ∧ Cls K CY ∧ NoAttr K CY "roster" ∧ fy.lookup ("roster" : Str) = some (V.ref r) ∧ x ≠ y ∧
  H r = some (.ins CR dr (fRo a b c)) ∧ x ≠ r ∧ H a = some (.lst hs) ∧ hs.length < sizeLine ∧
  ∀ H' fl, H' x = some (.ins C dx (fSh y fl l)) → H' fl = some (.lst []) → H fl = none → H' a = some (.lst (hs ++ [.ref x])) → SameY x a H H' → Q .non H')
theorem ok_stream (T : Txt K mg) (Z : Dct P w K mg T) : FnOk P w K mg base CX0 3 T.a_StreamHandler_init T.fd_StreamHandler_init ["self", "yard", "stream"] (spStream T.C_StreamHandler T.C_Roster K) := by
  have G_super : FnOk P w K mg base CX0 2 _ _ _ (spHandler T.C_Roster K) := ok_handler T
  refine T.F_StreamHandler_init.ok0 (sf := "self") Z.top sc_StreamHandler___init__ rfl rfl rfl rfl rfl (fun vs H Q E h => ?_) (fun cc cda A outer s H vs Q E hr h => ?_)
  · obtain ⟨x, dx, y, CY, dy, r, dr, a, b, c, l, fy, hs, rfl, _⟩ := h.out
    rfl
  · obtain ⟨x, dx, y, CY, dy, r, dr, a, b, c, l, fy, hs, rfl, hx, hy, cY, nY, ly, xy, hr1, xr, ha, hz, k⟩ := h.out
    have oC : OC K T.C_StreamHandler hF := ⟨T.o_StreamHandler.cl, fun f hf => T.o_StreamHandler.na f (List.mem_append_left (as := hF) ["stream"] hf)⟩
    refine ⟨_, fun SD => (SuX.pssA_cons (SuX.psA_expr (SuX.peA_sup (i := 0) SD T.SM_StreamHandler_init G_super (hr.mono (by first | decide | omega)) T.b_Handler_init .nil pass0 rfl (pa_cons (pv 1) pa_nil)))
  (SuX.PSsA.of (pss_one (ps_fld (pv 0) (pv 2) rfl)))), ?_⟩
    walk_at "st"
    refine ⟨x, dx, _, rfl, hx, ?_⟩
    walk_at "st"
    refine .a ⟨x, dx, T.C_StreamHandler, y, CY, dy, r, dr, a, b, c, fy, hs, rfl, hx, oC, hy, cY, nY, ly, xy, hr1, xr, ha, hz, fun H1 fl x1 f1 f0 a1 s1 => ?_⟩
    have xf : x ≠ fl := ne_of_none hx f0
    have xa : x ≠ a := fun z => by rw [z, ha] at hx; cases hx
    walk_at "st"
    refine ⟨x, T.C_StreamHandler, dx, _, rfl, x1, T.o_StreamHandler.cl, T.o_StreamHandler.na _ (by decide), Nat.le_of_ble_eq_true rfl, ?_⟩
    exact k _ fl upd_same (by rw [upd_ne xf.symm]; exact f1) f0 (by rw [upd_ne xa.symm]; exact a1) s1.put
end
end My

namespace My
open PySem PySem.Spec PyProof.Rows L2 SuX
local macro_rules | `(tactic| walk_at "hp") => `(tactic| first | assumption | exact upd_same | (refine Eq.trans (upd_ne (by first | assumption | (apply Ne.symm; assumption))) ?_; walk_at "hp"))
local macro_rules | `(tactic| walk_at "ixl") => `(tactic| (refine' ⟨_, ?xs, _, ?vv, rfl, rfl, SqL.of ?hh, ?aa, ?qq⟩; (case hh => walk_at "hp"); (case aa => rfl)))
local macro_rules | `(tactic| walk_at "setl") => `(tactic| (refine' ⟨_, ?xs, _, ?jj, rfl, rfl, ?hh, ?aa, ?qq⟩; (case hh => walk_at "hp"); (case aa => rfl)))
local macro_rules | `(tactic| walk_at "cond") => `(tactic| first | exact ⟨_, rfl⟩ | exact Nat.le_of_lt (small1000 (Nat.le_of_ble_eq_true rfl)) | decide | omega | (dsimp only; omega) | exact ⟨by decide, by decide⟩ | exact Or.inr ⟨by decide, by decide⟩ | exact Or.inl ⟨by decide, by decide⟩ | exact ⟨by decide, by decide, by decide⟩ | exact ⟨by omega, by omega⟩ | exact ⟨by omega, by omega, by omega⟩ | (simp only [List.length_cons, List.length_nil, List.length_append, List.length_take, List.length_drop]; omega) | (refine ⟨?_, ?_, ?_⟩ <;> first | decide | omega | (simp only [List.length_cons, List.length_nil, List.length_append, List.length_take, List.length_drop, Option.getD_some, Option.getD_none]; omega)))
local macro_rules | `(tactic| walk_at "st") => `(tactic| repeat (first | refine ⟨_, rfl, ?_⟩ | refine ⟨_, _, rfl, rfl, ?_⟩ | walk_at "ixl" | walk_at "setl" | refine ⟨rfl, ?_⟩ | refine Or.inl ⟨_, rfl, ?_⟩ | refine And.intro (by walk_at "cond") ?_))
section
variable {P : Program} {w : World} {K : PySem.W.Frag} {mg : Str → Option Value} {base : Heap}
/-! ### loggers -/
def fLg (t : Addr) (y : V) (n l : V) (hl fl : Addr) (p : V) : List (Str × V) := [("tree", .ref t), ("yard", y), ("name", n), ("level", l), ("propagate", .bl true), ("disabled", .bl false), ("handlers", .ref hl), ("filters", .ref fl), ("parent", p)]
def spLogger (C : Addr) (K : PySem.W.Frag) : Sp := fun vs H Q _ => Hd (∃ (x dx t CT dt : Addr) (ft : List (Str × V)) (y n l p : V), vs = [.ref x, .ref t, n, l, p] ∧ H x = some (.ins C dx []) ∧ H t = some (.ins CT dt ft) ∧ Cls K CT ∧ NoAttr K CT "yard" ∧ ft.lookup ("yard" : Str) = some y ∧ x ≠ t ∧
  ∀ H' hl fl, H' x = some (.ins C dx (fLg t y n l hl fl p)) → H' hl = some (.lst []) → H' fl = some (.lst []) → H hl = none → H fl = none → hl ≠ fl → SameX x H H' → Q .non H')
theorem ok_logger (T : Txt K mg) : FnOk P w K mg base CX0 1 T.a_Logger_init T.fd_Logger_init ["self", "tree", "name", "level", "parent"] (spLogger T.C_Logger K) := by
  refine T.F_Logger_init.ok sc_Logger___init__ (fun vs H Q E h => ?_) (fun cdv A outer s H vs Q E hr h => ?_)
  · obtain ⟨x, dx, t, CT, dt, ft, y, n, l, p, rfl, _⟩ := h.out
    rfl
  · obtain ⟨x, dx, t, CT, dt, ft, y, n, l, p, rfl, hx, ht, cT, nT, lt, xt, k⟩ := h.out
    have tx : t ≠ x := xt.symm
    refine ⟨_, (pss_cons (ps_fld (pv 0) (pv 1) rfl)
  (pss_cons (ps_fld (pv 0) (pe_fld (pv 1) rfl) rfl)
  (pss_cons (ps_fld (pv 0) (pv 2) rfl)
  (pss_cons (ps_fld (pv 0) (pv 3) rfl)
  (pss_cons (ps_fld (pv 0) pe_bl rfl)
  (pss_cons (ps_fld (pv 0) pe_bl rfl)
  (pss_cons (ps_fld (pv 0) (pe_lst pa_nil) rfl)
  (pss_cons (ps_fld (pv 0) (pe_lst pa_nil) rfl)
  (pss_one (ps_fld (pv 0) (pv 4) rfl)))))))))), ?_⟩
    walk_at "st"
    refine ⟨x, T.C_Logger, dx, _, rfl, hx, T.o_Logger.cl, T.o_Logger.na _ (by decide), Nat.le_of_ble_eq_true rfl, ?_⟩
    walk_at "st"
    refine ⟨t, CT, dt, ft, y, rfl, by walk_at "hp", cT, nT, lt, ?_⟩
    walk_at "st"
    refine ⟨x, T.C_Logger, dx, _, rfl, upd_same, T.o_Logger.cl, T.o_Logger.na _ (by decide), Nat.le_of_ble_eq_true rfl, ?_⟩
    walk_at "st"
    refine ⟨x, T.C_Logger, dx, _, rfl, upd_same, T.o_Logger.cl, T.o_Logger.na _ (by decide), Nat.le_of_ble_eq_true rfl, ?_⟩
    walk_at "st"
    refine ⟨x, T.C_Logger, dx, _, rfl, upd_same, T.o_Logger.cl, T.o_Logger.na _ (by decide), Nat.le_of_ble_eq_true rfl, ?_⟩
    walk_at "st"
    refine ⟨x, T.C_Logger, dx, _, rfl, upd_same, T.o_Logger.cl, T.o_Logger.na _ (by decide), Nat.le_of_ble_eq_true rfl, ?_⟩
    walk_at "st"
    refine ⟨x, T.C_Logger, dx, _, rfl, upd_same, T.o_Logger.cl, T.o_Logger.na _ (by decide), Nat.le_of_ble_eq_true rfl, ?_⟩
    walk_at "st"
    intro hl hh
    have xh : x ≠ hl := ne_of_none upd_same hh
    have hh0 : H hl = none := by rw [upd_ne xh.symm, upd_ne xh.symm, upd_ne xh.symm, upd_ne xh.symm, upd_ne xh.symm, upd_ne xh.symm] at hh; exact hh
    walk_at "st"
    refine ⟨x, T.C_Logger, dx, _, rfl, by rw [upd_ne xh]; exact upd_same, T.o_Logger.cl, T.o_Logger.na _ (by decide), Nat.le_of_ble_eq_true rfl, ?_⟩
    walk_at "st"
    intro fl hf
    have xf : x ≠ fl := ne_of_none upd_same hf
    have hfl : hl ≠ fl := ne_of_none (by rw [upd_ne xh.symm]; exact upd_same) hf
    have hf0 : H fl = none := by rw [upd_ne xf.symm, upd_ne hfl.symm, upd_ne xf.symm, upd_ne xf.symm, upd_ne xf.symm, upd_ne xf.symm, upd_ne xf.symm, upd_ne xf.symm] at hf; exact hf
    walk_at "st"
    refine ⟨x, T.C_Logger, dx, _, rfl, by rw [upd_ne xf]; exact upd_same, T.o_Logger.cl, T.o_Logger.na _ (by decide), Nat.le_of_ble_eq_true rfl, ?_⟩
    walk_at "st"
    refine ⟨x, T.C_Logger, dx, _, rfl, upd_same, T.o_Logger.cl, T.o_Logger.na _ (by decide), Nat.le_of_ble_eq_true rfl, ?_⟩
    exact k _ hl fl upd_same (by walk_at "hp") (by walk_at "hp") hh0 hf0 hfl ((((((((((((SameX.refl _ _).put).put).put).put).put).put).new hh0).put).new hf0).put).put)
/-! ### the tree -/
def fTr (y lv ck lr nm rt : Addr) : List (Str × V) := [("yard", .ref y), ("levels", .ref lv), ("clock", .ref ck), ("last_resort", .ref lr), ("barred", .int 0), ("named", .ref nm), ("root", .ref rt)]
def spTree (C CL : Addr) : Sp := fun vs H Q _ => Hd (∃ (x dx y lv ck lr : Addr), vs = [.ref x, .ref y, .ref lv, .ref ck, .ref lr] ∧ H x = some (.ins C dx []) ∧
  ∀ H' nm rt drt hl fl, H' x = some (.ins C dx (fTr y lv ck lr nm rt)) → H' nm = some (.dK []) → H' rt = some (.ins CL drt (fLg x (.ref y) (.str (SX.S [114, 111, 111, 116])) (.int 30) hl fl .non)) → H' hl = some (.lst []) → H' fl = some (.lst []) →
    H nm = none → H rt = none → H hl = none → H fl = none → hl ≠ fl → SameX x H H' → Q .non H')
theorem ok_tree (T : Txt K mg) : FnOk P w K mg base CX0 3 T.a_LoggerTree_init T.fd_LoggerTree_init ["self", "yard", "levels", "clock", "last_resort"] (spTree T.C_LoggerTree T.C_Logger) := by
  have G_Logger : FnOk P w K mg base CX0 1 _ _ _ (spLogger T.C_Logger K) := ok_logger T
  refine T.F_LoggerTree_init.ok sc_LoggerTree___init__ (fun vs H Q E h => ?_) (fun cdv A outer s H vs Q E hr h => ?_)
  · obtain ⟨x, dx, y, lv, ck, lr, rfl, _⟩ := h.out
    rfl
  · obtain ⟨x, dx, y, lv, ck, lr, rfl, hx, k⟩ := h.out
    refine ⟨_, (pss_cons (ps_fld (pv 0) (pv 1) rfl)
  (pss_cons (ps_fld (pv 0) (pv 2) rfl)
  (pss_cons (ps_fld (pv 0) (pv 3) rfl)
  (pss_cons (ps_fld (pv 0) (pv 4) rfl)
  (pss_cons (ps_fld (pv 0) (C8.pe_gc rfl T.k_NOTSET) rfl)
  (pss_cons (ps_fld (pv 0) pe_dnewK rfl)
  (pss_one (ps_fld (pv 0) (pe_make T.M_Logger G_Logger (hr.mono (by first | decide | omega)) rfl T.g_Logger T.b_Logger_init .nil pass0 (pa_cons (pv 0) (pa_cons (SL.pe_strL [114, 111, 111, 116] (by decide +kernel)) (pa_cons (C8.pe_gc rfl T.k_WARNING) (pa_cons pe_non pa_nil))))) rfl)))))))), ?_⟩
    walk_at "st"
    refine ⟨x, T.C_LoggerTree, dx, _, rfl, hx, T.o_LoggerTree.cl, T.o_LoggerTree.na _ (by decide), Nat.le_of_ble_eq_true rfl, ?_⟩
    walk_at "st"
    refine ⟨x, T.C_LoggerTree, dx, _, rfl, upd_same, T.o_LoggerTree.cl, T.o_LoggerTree.na _ (by decide), Nat.le_of_ble_eq_true rfl, ?_⟩
    walk_at "st"
    refine ⟨x, T.C_LoggerTree, dx, _, rfl, upd_same, T.o_LoggerTree.cl, T.o_LoggerTree.na _ (by decide), Nat.le_of_ble_eq_true rfl, ?_⟩
    walk_at "st"
    refine ⟨x, T.C_LoggerTree, dx, _, rfl, upd_same, T.o_LoggerTree.cl, T.o_LoggerTree.na _ (by decide), Nat.le_of_ble_eq_true rfl, ?_⟩
    walk_at "st"
    refine ⟨x, T.C_LoggerTree, dx, _, rfl, upd_same, T.o_LoggerTree.cl, T.o_LoggerTree.na _ (by decide), Nat.le_of_ble_eq_true rfl, ?_⟩
    walk_at "st"
    intro nm hn
    have xn : x ≠ nm := ne_of_none upd_same hn
    have hn0 : H nm = none := by rw [upd_ne xn.symm, upd_ne xn.symm, upd_ne xn.symm, upd_ne xn.symm, upd_ne xn.symm] at hn; exact hn
    walk_at "st"
    refine ⟨x, T.C_LoggerTree, dx, _, rfl, by rw [upd_ne xn]; exact upd_same, T.o_LoggerTree.cl, T.o_LoggerTree.na _ (by decide), Nat.le_of_ble_eq_true rfl, ?_⟩
    walk_at "st"
    intro rt drt hr0 hd0 dr
    have xr : x ≠ rt := ne_of_none upd_same hr0
    have xd : x ≠ drt := ne_of_none upd_same hd0
    have nr : nm ≠ rt := ne_of_none (by rw [upd_ne xn.symm]; exact upd_same) hr0
    have nd : nm ≠ drt := ne_of_none (by rw [upd_ne xn.symm]; exact upd_same) hd0
    have hr1 : H rt = none := by rw [upd_ne xr.symm, upd_ne nr.symm, upd_ne xr.symm, upd_ne xr.symm, upd_ne xr.symm, upd_ne xr.symm, upd_ne xr.symm] at hr0; exact hr0
    have hd1 : H drt = none := by rw [upd_ne xd.symm, upd_ne nd.symm, upd_ne xd.symm, upd_ne xd.symm, upd_ne xd.symm, upd_ne xd.symm, upd_ne xd.symm] at hd0; exact hd0
    refine .a ⟨rt, drt, x, T.C_LoggerTree, dx, _, .ref y, _, _, _, rfl, upd_same, by rw [upd_ne xr, upd_ne xd]; exact upd_same, T.o_LoggerTree.cl, T.o_LoggerTree.na _ (by decide), rfl, xr.symm, fun H1 hl fl h1 h2 h3 h4 h5 h6 h7 => ?_⟩
    have x1 := h7 x _ xr (by rw [upd_ne xr, upd_ne xd]; exact upd_same)
    have n1 := h7 nm _ nr (by rw [upd_ne nr, upd_ne nd, upd_ne xn.symm]; exact upd_same)
    have xh : x ≠ hl := fun z => by rw [← z, upd_ne xr, upd_ne xd, upd_same] at h4; cases h4
    have xf : x ≠ fl := fun z => by rw [← z, upd_ne xr, upd_ne xd, upd_same] at h5; cases h5
    have hl0 : H hl = none := by
      have hrl : hl ≠ rt := fun z => by rw [z, upd_same] at h4; cases h4
      have hdl : hl ≠ drt := fun z => by rw [upd_ne hrl, z, upd_same] at h4; cases h4
      have hnl : hl ≠ nm := fun z => by rw [upd_ne hrl, upd_ne hdl, upd_ne xh.symm, z, upd_same] at h4; cases h4
      rw [upd_ne hrl, upd_ne hdl, upd_ne xh.symm, upd_ne hnl, upd_ne xh.symm, upd_ne xh.symm, upd_ne xh.symm, upd_ne xh.symm, upd_ne xh.symm] at h4; exact h4
    have fl0 : H fl = none := by
      have hrl : fl ≠ rt := fun z => by rw [z, upd_same] at h5; cases h5
      have hdl : fl ≠ drt := fun z => by rw [upd_ne hrl, z, upd_same] at h5; cases h5
      have hnl : fl ≠ nm := fun z => by rw [upd_ne hrl, upd_ne hdl, upd_ne xf.symm, z, upd_same] at h5; cases h5
      rw [upd_ne hrl, upd_ne hdl, upd_ne xf.symm, upd_ne hnl, upd_ne xf.symm, upd_ne xf.symm, upd_ne xf.symm, upd_ne xf.symm, upd_ne xf.symm] at h5; exact h5
    have s7 : SameX x H H1 := fun c u cx e => h7 c u (fun z => by rw [z, hr1] at e; cases e) (by rw [upd_ne (fun z => by rw [z, hr1] at e; cases e), upd_ne (fun z => by rw [z, hd1] at e; cases e), upd_ne cx, upd_ne (fun z => by rw [z, hn0] at e; cases e), upd_ne cx, upd_ne cx, upd_ne cx, upd_ne cx, upd_ne cx]; exact e)
    walk_at "st"
    refine ⟨x, T.C_LoggerTree, dx, _, rfl, x1, T.o_LoggerTree.cl, T.o_LoggerTree.na _ (by decide), Nat.le_of_ble_eq_true rfl, ?_⟩
    exact k _ nm rt drt hl fl upd_same (by rw [upd_ne xn.symm]; exact n1) (by rw [upd_ne xr.symm]; exact h1) (by rw [upd_ne xh.symm]; exact h2) (by rw [upd_ne xf.symm]; exact h3) hn0 hr1 hl0 fl0 h6 s7.put
end
end My

namespace My
open PySem PySem.Spec PyProof.Rows L2 SuX
local macro_rules | `(tactic| walk_at "hp") => `(tactic| first | assumption | exact upd_same | (refine Eq.trans (upd_ne (by first | assumption | (apply Ne.symm; assumption))) ?_; walk_at "hp"))
local macro_rules | `(tactic| walk_at "ixl") => `(tactic| (refine' ⟨_, ?xs, _, ?vv, rfl, rfl, SqL.of ?hh, ?aa, ?qq⟩; (case hh => walk_at "hp"); (case aa => rfl)))
local macro_rules | `(tactic| walk_at "setl") => `(tactic| (refine' ⟨_, ?xs, _, ?jj, rfl, rfl, ?hh, ?aa, ?qq⟩; (case hh => walk_at "hp"); (case aa => rfl)))
local macro_rules | `(tactic| walk_at "cond") => `(tactic| first | exact ⟨_, rfl⟩ | exact Nat.le_of_lt (small1000 (Nat.le_of_ble_eq_true rfl)) | decide | omega | (dsimp only; omega) | exact ⟨by decide, by decide⟩ | exact Or.inr ⟨by decide, by decide⟩ | exact Or.inl ⟨by decide, by decide⟩ | exact ⟨by decide, by decide, by decide⟩ | exact ⟨by omega, by omega⟩ | exact ⟨by omega, by omega, by omega⟩ | (simp only [List.length_cons, List.length_nil, List.length_append, List.length_take, List.length_drop]; omega) | (refine ⟨?_, ?_, ?_⟩ <;> first | decide | omega | (simp only [List.length_cons, List.length_nil, List.length_append, List.length_take, List.length_drop, Option.getD_some, Option.getD_none]; omega)))
local macro_rules | `(tactic| walk_at "st") => `(tactic| repeat (first | refine ⟨_, rfl, ?_⟩ | refine ⟨_, _, rfl, rfl, ?_⟩ | walk_at "ixl" | walk_at "setl" | refine ⟨rfl, ?_⟩ | refine Or.inl ⟨_, rfl, ?_⟩ | refine And.intro (by walk_at "cond") ?_))
theorem fc {α : Type} {p : α → Prop} {a : α} {l : List α} (h : p a) (t : ∀ x ∈ l, p x) : ∀ x ∈ a :: l, p x := List.forall_mem_cons.mpr ⟨h, t⟩
theorem fz {α : Type} {p : α → Prop} : ∀ x ∈ ([] : List α), p x := fun _ h => absurd h List.not_mem_nil
structure YA where
  (ck dck lv dlv n1 n2 ss dss sk fs dfs fk ro dro hl ld fl lr dlr lf tr dtr nm rt drt rh rf : Addr)
section
variable {P : Program} {w : World} {K : PySem.W.Frag} {mg : Str → Option Value} {base : Heap}
def sErr : List Nat := [115, 116, 100, 101, 114, 114]
def sRoot : List Nat := [114, 111, 111, 116]
/-- what Yard() lays besides the yard -/
def YL (T : Txt K mg) (y : Addr) (v : V) (Y : YA) : List (Addr × HO) :=
  [(Y.ck, .ins T.C_Clock Y.dck [("shown", v)]), (Y.lv, .ins T.C_LevelTable Y.dlv (fLv Y.n1 Y.n2)), (Y.n1, .dK firstNames), (Y.n2, .dK firstNumbers), (Y.ss, .ins T.C_Store Y.dss (fSt Y.ck Y.sk)), (Y.sk, .dK []), (Y.fs, .ins T.C_Store Y.dfs (fSt Y.ck Y.fk)), (Y.fk, .dK []),
   (Y.ro, .ins T.C_Roster Y.dro (fRo Y.hl Y.ld Y.fl)), (Y.ld, .dK []), (Y.fl, .lst []), (Y.lr, .ins T.C_StreamHandler Y.dlr (fSh y Y.lf sErr)), (Y.lf, .lst []), (Y.hl, .lst [.ref Y.lr]),
   (Y.tr, .ins T.C_LoggerTree Y.dtr (fTr y Y.lv Y.ck Y.lr Y.nm Y.rt)), (Y.nm, .dK []), (Y.rt, .ins T.C_Logger Y.drt (fLg Y.tr (.ref y) (.str (SX.S sRoot)) (.int 30) Y.rh Y.rf .non)), (Y.rh, .lst []), (Y.rf, .lst [])]
def fYd (Y : YA) : List (Str × V) := [("clock", .ref Y.ck), ("levels", .ref Y.lv), ("stream_store", .ref Y.ss), ("file_store", .ref Y.fs), ("roster", .ref Y.ro), ("tree", .ref Y.tr), ("root", .ref Y.rt)]
def spYard (T : Txt K mg) : Sp := fun vs H Q _ => Hd (∃ (x dx : Addr) (v : V), vs = [.ref x, v] ∧ H x = some (.ins T.C_Yard dx []) ∧ ∀ H' (Y : YA), TK H x (YL T x v Y) H' → H' x = some (.ins T.C_Yard dx (fYd Y)) → Q .non H')
theorem ok_yard (T : Txt K mg) (Z : Dct P w K mg T) : FnOk P w K mg base CX0 5 T.a_Yard_init T.fd_Yard_init ["self", "now"] (spYard T) := by
  have G_Clock : FnOk P w K mg base CX0 1 _ _ _ (spClock T.C_Clock) := ok_clock T
  have G_LevelTable : FnOk P w K mg base CX0 1 _ _ _ (spLevels T.C_LevelTable) := ok_levels T Z
  have G_Store : FnOk P w K mg base CX0 1 _ _ _ (spStore T.C_Store) := ok_store T
  have G_Roster : FnOk P w K mg base CX0 1 _ _ _ (spRoster T.C_Roster) := ok_roster T
  have G_StreamHandler : FnOk P w K mg base CX0 3 _ _ _ (spStream T.C_StreamHandler T.C_Roster K) := ok_stream T Z
  have G_LoggerTree : FnOk P w K mg base CX0 3 _ _ _ (spTree T.C_LoggerTree T.C_Logger) := ok_tree T
  obtain ⟨dsS, hdS, hbS⟩ := T.dd_StreamHandler_init
  refine T.F_Yard_init.ok sc_Yard___init__ (fun vs H Q E h => ?_) (fun cdv A outer s H vs Q E hr h => ?_)
  · obtain ⟨x, dx, v, rfl, _⟩ := h.out
    rfl
  · obtain ⟨x, dx, v, rfl, hx, k⟩ := h.out
    refine ⟨_, (pss_cons (ps_fld (pv 0) (pe_make T.M_Clock G_Clock (hr.mono (by first | decide | omega)) rfl T.g_Clock T.b_Clock_init .nil pass0 (pa_cons (pv 1) pa_nil)) rfl)
  (pss_cons (ps_fld (pv 0) (pe_make0 T.M_LevelTable G_LevelTable (hr.mono (by first | decide | omega)) rfl T.g_LevelTable T.b_LevelTable_init .nil pass0) rfl)
  (pss_cons (ps_fld (pv 0) (pe_make T.M_Store G_Store (hr.mono (by first | decide | omega)) rfl T.g_Store T.b_Store_init .nil pass0 (pa_cons (pe_fld (pv 0) rfl) pa_nil)) rfl)
  (pss_cons (ps_fld (pv 0) (pe_make T.M_Store G_Store (hr.mono (by first | decide | omega)) rfl T.g_Store T.b_Store_init .nil pass0 (pa_cons (pe_fld (pv 0) rfl) pa_nil)) rfl)
  (pss_cons (ps_fld (pv 0) (pe_make0 T.M_Roster G_Roster (hr.mono (by first | decide | omega)) rfl T.g_Roster T.b_Roster_init .nil pass0) rfl)
  (pss_cons (ps_fld (pv 0) (pe_make T.M_LoggerTree G_LoggerTree (hr.mono (by first | decide | omega)) rfl T.g_LoggerTree T.b_LoggerTree_init .nil pass0 (pa_cons (pv 0) (pa_cons (pe_fld (pv 0) rfl) (pa_cons (pe_fld (pv 0) rfl) (pa_cons (pe_make T.M_StreamHandler G_StreamHandler (hr.mono (by first | decide | omega)) rfl T.g_StreamHandler hbS hdS pass0 (pa_cons (pv 0) pa_nil)) pa_nil))))) rfl)
  (pss_one (ps_fld (pv 0) (pe_fld (pe_fld (pv 0) rfl) rfl) rfl)))))))), ?_⟩
    walk_at "st"
    intro ck dck c1 c2 c3
    refine .a ⟨ck, dck, v, rfl, upd_same, fun H1 h1 s1 => ?_⟩
    obtain ⟨t1, x1⟩ := (TK.nil H x).lay hx c1 c2 (N := [(ck, _)]) (fc ⟨h1, .inl rfl⟩ fz) (by simp) s1
    walk_at "st"
    refine ⟨x, T.C_Yard, dx, _, rfl, x1, T.o_Yard.cl, T.o_Yard.na _ (by decide), Nat.le_of_ble_eq_true rfl, ?_⟩
    have t1 := t1.setx (o := .ins T.C_Yard dx (putF "clock" (.ref ck) []))
    have x1 : upd H1 x (.ins T.C_Yard dx (putF "clock" (.ref ck) [])) x = _ := upd_same
    generalize upd H1 x (.ins T.C_Yard dx (putF "clock" (.ref ck) [])) = G1 at t1 x1 ⊢
    walk_at "st"
    intro lv dlv c1 c2 c3
    refine .a ⟨lv, dlv, rfl, upd_same, fun H2 n1 n2 h1 h2 h3 h4 h5 h6 s2 => ?_⟩
    have e1 := (mkH_none h4).1
    have e2 := (mkH_none h5).1
    obtain ⟨t2, x2⟩ := t1.lay x1 c1 c2 (N := [(lv, _), (n1, _), (n2, _)]) (fc ⟨h1, .inl rfl⟩ (fc ⟨h2, .inr h4⟩ (fc ⟨h3, .inr h5⟩ fz))) (by simp [e1.symm, e2.symm, h6]) s2
    walk_at "st"
    refine ⟨x, T.C_Yard, dx, _, rfl, x2, T.o_Yard.cl, T.o_Yard.na _ (by decide), Nat.le_of_ble_eq_true rfl, ?_⟩
    have t2 := t2.setx (o := .ins T.C_Yard dx (putF "levels" (.ref lv) (putF "clock" (.ref ck) [])))
    have x2 : upd H2 x (.ins T.C_Yard dx (putF "levels" (.ref lv) (putF "clock" (.ref ck) []))) x = _ := upd_same
    generalize upd H2 x (.ins T.C_Yard dx (putF "levels" (.ref lv) (putF "clock" (.ref ck) []))) = G2 at t2 x2 ⊢
    walk_at "st"
    refine ⟨x, T.C_Yard, dx, _, .ref ck, rfl, x2, T.o_Yard.cl, T.o_Yard.na _ (by decide), rfl, ?_⟩
    walk_at "st"
    intro ss dss c1 c2 c3
    refine .a ⟨ss, dss, ck, rfl, upd_same, fun H3 sk h1 h2 h3 s3 => ?_⟩
    have e1 := (mkH_none h3).1
    obtain ⟨t3, x3⟩ := t2.lay x2 c1 c2 (N := [(ss, _), (sk, _)]) (fc ⟨h1, .inl rfl⟩ (fc ⟨h2, .inr h3⟩ fz)) (by simp [e1.symm]) s3
    walk_at "st"
    refine ⟨x, T.C_Yard, dx, _, rfl, x3, T.o_Yard.cl, T.o_Yard.na _ (by decide), Nat.le_of_ble_eq_true rfl, ?_⟩
    have t3 := t3.setx (o := .ins T.C_Yard dx (putF "stream_store" (.ref ss) (putF "levels" (.ref lv) (putF "clock" (.ref ck) []))))
    have x3 : upd H3 x (.ins T.C_Yard dx (putF "stream_store" (.ref ss) (putF "levels" (.ref lv) (putF "clock" (.ref ck) [])))) x = _ := upd_same
    generalize upd H3 x (.ins T.C_Yard dx (putF "stream_store" (.ref ss) (putF "levels" (.ref lv) (putF "clock" (.ref ck) [])))) = G3 at t3 x3 ⊢
    walk_at "st"
    refine ⟨x, T.C_Yard, dx, _, .ref ck, rfl, x3, T.o_Yard.cl, T.o_Yard.na _ (by decide), rfl, ?_⟩
    walk_at "st"
    intro fs dfs c1 c2 c3
    refine .a ⟨fs, dfs, ck, rfl, upd_same, fun H4 fk h1 h2 h3 s4 => ?_⟩
    have e1 := (mkH_none h3).1
    obtain ⟨t4, x4⟩ := t3.lay x3 c1 c2 (N := [(fs, _), (fk, _)]) (fc ⟨h1, .inl rfl⟩ (fc ⟨h2, .inr h3⟩ fz)) (by simp [e1.symm]) s4
    walk_at "st"
    refine ⟨x, T.C_Yard, dx, _, rfl, x4, T.o_Yard.cl, T.o_Yard.na _ (by decide), Nat.le_of_ble_eq_true rfl, ?_⟩
    have t4 := t4.setx (o := .ins T.C_Yard dx (putF "file_store" (.ref fs) (putF "stream_store" (.ref ss) (putF "levels" (.ref lv) (putF "clock" (.ref ck) [])))))
    have x4 : upd H4 x (.ins T.C_Yard dx (putF "file_store" (.ref fs) (putF "stream_store" (.ref ss) (putF "levels" (.ref lv) (putF "clock" (.ref ck) []))))) x = _ := upd_same
    generalize upd H4 x (.ins T.C_Yard dx (putF "file_store" (.ref fs) (putF "stream_store" (.ref ss) (putF "levels" (.ref lv) (putF "clock" (.ref ck) []))))) = G4 at t4 x4 ⊢
    walk_at "st"
    intro ro dro c1 c2 c3
    refine .a ⟨ro, dro, rfl, upd_same, fun H5 hl ld fl h1 h2 h3 h4 h5 h6 h7 g1 g2 g3 s5 => ?_⟩
    have e1 := (mkH_none h5).1
    have e2 := (mkH_none h6).1
    have e3 := (mkH_none h7).1
    obtain ⟨t5, x5⟩ := t4.lay x4 c1 c2 (N := [(ro, _), (ld, _), (fl, _), (hl, _)]) (fc ⟨h1, .inl rfl⟩ (fc ⟨h3, .inr h6⟩ (fc ⟨h4, .inr h7⟩ (fc ⟨h2, .inr h5⟩ fz)))) (by simp [e1.symm, e2.symm, e3.symm, g1.symm, g2.symm, g3]) s5
    walk_at "st"
    refine ⟨x, T.C_Yard, dx, _, rfl, x5, T.o_Yard.cl, T.o_Yard.na _ (by decide), Nat.le_of_ble_eq_true rfl, ?_⟩
    have t5 := t5.setx (o := .ins T.C_Yard dx (putF "roster" (.ref ro) (putF "file_store" (.ref fs) (putF "stream_store" (.ref ss) (putF "levels" (.ref lv) (putF "clock" (.ref ck) []))))))
    have x5 : upd H5 x (.ins T.C_Yard dx (putF "roster" (.ref ro) (putF "file_store" (.ref fs) (putF "stream_store" (.ref ss) (putF "levels" (.ref lv) (putF "clock" (.ref ck) [])))))) x = _ := upd_same
    generalize upd H5 x (.ins T.C_Yard dx (putF "roster" (.ref ro) (putF "file_store" (.ref fs) (putF "stream_store" (.ref ss) (putF "levels" (.ref lv) (putF "clock" (.ref ck) [])))))) = G5 at t5 x5 ⊢
    walk_at "st"
    refine ⟨x, T.C_Yard, dx, _, .ref lv, rfl, x5, T.o_Yard.cl, T.o_Yard.na _ (by decide), rfl, ?_⟩
    walk_at "st"
    refine ⟨x, T.C_Yard, dx, _, .ref ck, rfl, x5, T.o_Yard.cl, T.o_Yard.na _ (by decide), rfl, ?_⟩
    walk_at "st"
    intro lr dlr c1 c2 c3
    have y5 : mkH G5 T.C_StreamHandler lr dlr x = _ := mkH_old c1 c2 x5
    have r5 := t5.at_ (ro, .ins T.C_Roster dro (fRo hl ld fl)) (by simp)
    have a5 := t5.at_ (hl, .lst []) (by simp)
    have xr5 : x ≠ ro := (t5.nx (ro, .ins T.C_Roster dro (fRo hl ld fl)) (by simp)).symm
    have lx : lr ≠ x := (neN x5 c1).symm
    have lro : lr ≠ ro := (neN r5 c1).symm
    refine .a ⟨lr, dlr, x, T.C_Yard, dx, ro, dro, hl, ld, fl, sErr, _, [], rfl, upd_same, y5, T.o_Yard.cl, T.o_Yard.na _ (by decide), rfl, lx, mkH_old c1 c2 r5, lro, mkH_old c1 c2 a5, by decide, fun H6 lf h1 h2 h3 h4 s6 => ?_⟩
    have e1 := (mkH_none h3).1
    have t5' : TK H x ([(ck, .ins T.C_Clock dck [("shown", v)]), (lv, .ins T.C_LevelTable dlv (fLv n1 n2)), (n1, .dK firstNames), (n2, .dK firstNumbers), (ss, .ins T.C_Store dss (fSt ck sk)), (sk, .dK []), (fs, .ins T.C_Store dfs (fSt ck fk)), (fk, .dK []),
      (ro, .ins T.C_Roster dro (fRo hl ld fl)), (ld, .dK []), (fl, .lst [])] ++ [(hl, .lst [])]) G5 := t5
    obtain ⟨t6, x6⟩ := t5'.layY x5 c1 c2 h4 (N := [(lr, _), (lf, _)]) (fc ⟨h1, .inl rfl⟩ (fc ⟨h2, .inr h3⟩ fz)) (by simp [e1.symm]) s6
    walk_at "st"
    intro tr dtr c1 c2 c3
    refine .a ⟨tr, dtr, x, lv, ck, lr, rfl, upd_same, fun H7 nm rt drt rh rf h1 h2 h3 h4 h5 h6 h7 h8 h9 g1 s7 => ?_⟩
    have e1 := (mkH_none h6).1
    have e2 := (mkH_none h7).1
    have e3 := (mkH_none h8).1
    have e4 := (mkH_none h9).1
    have f1 : nm ≠ rt := fun z => by rw [z, h3] at h2; cases h2
    have f2 : nm ≠ rh := fun z => by rw [z, h4] at h2; cases h2
    have f3 : nm ≠ rf := fun z => by rw [z, h5] at h2; cases h2
    have f4 : rt ≠ rh := fun z => by rw [z, h4] at h3; cases h3
    have f5 : rt ≠ rf := fun z => by rw [z, h5] at h3; cases h3
    obtain ⟨t7, x7⟩ := t6.lay x6 c1 c2 (N := [(tr, _), (nm, _), (rt, _), (rh, _), (rf, _)]) (fc ⟨h1, .inl rfl⟩ (fc ⟨h2, .inr h6⟩ (fc ⟨h3, .inr h7⟩ (fc ⟨h4, .inr h8⟩ (fc ⟨h5, .inr h9⟩ fz))))) (by simp [e1.symm, e2.symm, e3.symm, e4.symm, f1, f2, f3, f4, f5, g1]) s7
    walk_at "st"
    refine ⟨x, T.C_Yard, dx, _, rfl, x7, T.o_Yard.cl, T.o_Yard.na _ (by decide), Nat.le_of_ble_eq_true rfl, ?_⟩
    have t7 := t7.setx (o := .ins T.C_Yard dx (putF "tree" (.ref tr) (putF "roster" (.ref ro) (putF "file_store" (.ref fs) (putF "stream_store" (.ref ss) (putF "levels" (.ref lv) (putF "clock" (.ref ck) [])))))))
    have x7 : upd H7 x (.ins T.C_Yard dx (putF "tree" (.ref tr) (putF "roster" (.ref ro) (putF "file_store" (.ref fs) (putF "stream_store" (.ref ss) (putF "levels" (.ref lv) (putF "clock" (.ref ck) []))))))) x = _ := upd_same
    generalize upd H7 x (.ins T.C_Yard dx (putF "tree" (.ref tr) (putF "roster" (.ref ro) (putF "file_store" (.ref fs) (putF "stream_store" (.ref ss) (putF "levels" (.ref lv) (putF "clock" (.ref ck) []))))))) = G7 at t7 x7 ⊢
    walk_at "st"
    refine ⟨x, T.C_Yard, dx, _, .ref tr, rfl, x7, T.o_Yard.cl, T.o_Yard.na _ (by decide), rfl, ?_⟩
    have r7 := t7.at_ (tr, .ins T.C_LoggerTree dtr (fTr x lv ck lr nm rt)) (by simp)
    refine ⟨tr, T.C_LoggerTree, dtr, _, .ref rt, rfl, r7, T.o_LoggerTree.cl, T.o_LoggerTree.na _ (by decide), rfl, ?_⟩
    walk_at "st"
    refine ⟨x, T.C_Yard, dx, _, rfl, x7, T.o_Yard.cl, T.o_Yard.na _ (by decide), Nat.le_of_ble_eq_true rfl, ?_⟩
    exact k _ ⟨ck, dck, lv, dlv, n1, n2, ss, dss, sk, fs, dfs, fk, ro, dro, hl, ld, fl, lr, dlr, lf, tr, dtr, nm, rt, drt, rh, rf⟩ t7.setx upd_same
end
end My

namespace My
open PySem PySem.Spec PyProof.Rows L2 SuX
local macro_rules | `(tactic| walk_at "hp") => `(tactic| first | assumption | exact upd_same | (refine Eq.trans (upd_ne (by first | assumption | (apply Ne.symm; assumption))) ?_; walk_at "hp"))
local macro_rules | `(tactic| walk_at "ixl") => `(tactic| (refine' ⟨_, ?xs, _, ?vv, rfl, rfl, SqL.of ?hh, ?aa, ?qq⟩; (case hh => walk_at "hp"); (case aa => rfl)))
local macro_rules | `(tactic| walk_at "setl") => `(tactic| (refine' ⟨_, ?xs, _, ?jj, rfl, rfl, ?hh, ?aa, ?qq⟩; (case hh => walk_at "hp"); (case aa => rfl)))
local macro_rules | `(tactic| walk_at "cond") => `(tactic| first | exact ⟨_, rfl⟩ | exact Nat.le_of_lt (small1000 (Nat.le_of_ble_eq_true rfl)) | decide | omega | (dsimp only; omega) | exact ⟨by decide, by decide⟩ | exact Or.inr ⟨by decide, by decide⟩ | exact Or.inl ⟨by decide, by decide⟩ | exact ⟨by decide, by decide, by decide⟩ | exact ⟨by omega, by omega⟩ | exact ⟨by omega, by omega, by omega⟩ | (simp only [List.length_cons, List.length_nil, List.length_append, List.length_take, List.length_drop]; omega) | (refine ⟨?_, ?_, ?_⟩ <;> first | decide | omega | (simp only [List.length_cons, List.length_nil, List.length_append, List.length_take, List.length_drop, Option.getD_some, Option.getD_none]; omega)))
local macro_rules | `(tactic| walk_at "st") => `(tactic| repeat (first | refine ⟨_, rfl, ?_⟩ | refine ⟨_, _, rfl, rfl, ?_⟩ | walk_at "ixl" | walk_at "setl" | refine ⟨rfl, ?_⟩ | refine Or.inl ⟨_, rfl, ?_⟩ | refine And.intro (by walk_at "cond") ?_))
theorem szl {n : Nat} (h : n ≤ 100000) : n < sizeLine := Nat.lt_of_le_of_lt h (by decide)
theorem keep_put {H : Hp} {p : Addr} {o : HO} : ∀ b, b ≠ p → ∀ u, H b = some u → upd H p o b = some u := fun b hb u e => by rw [upd_ne hb]; exact e
/-! ### the stream of draws -/
structure StmA (H : Hp) (p q : Addr) (n : Int) (cs : List Int) (a c : Int) : Prop where
  hp : H p = some (.lst [.ref q, .int a, .int n, .int c])
  hq : H q = some (.lst (cs.map V.int))
  a0 : 0 ≤ a
  c0 : 0 ≤ c
  c1 : c < 2147483647
structure Stm (H : Hp) (p q : Addr) (n : Int) : Prop where
  ex : ∃ (cs : List Int) (a c : Int), StmA H p q n cs a c
  n0 : 0 ≤ n
  n1 : n ≤ 100000
theorem StmA.ne {H : Hp} {p q : Addr} {a n c : Int} {cs : List Int} (S : StmA H p q n cs a c) : p ≠ q := by
  intro e
  have h2 := S.hq
  rw [← e, S.hp] at h2
  cases cs with
  | nil => cases h2
  | cons x r => simp at h2
/-- all but the stream's two lists -/
def off (H : Hp) (p q : Addr) : Hp := fun b => if b = p ∨ b = q then none else H b
theorem off_p {H : Hp} {p q : Addr} {o : HO} : off (upd H p o) p q = off H p q := by
  funext b
  unfold off
  by_cases h : b = p ∨ b = q
  · rw [if_pos h, if_pos h]
  · rw [if_neg h, if_neg h, upd_ne (fun e => h (.inl e))]
theorem off_q {H : Hp} {p q : Addr} {o : HO} : off (upd H q o) p q = off H p q := by
  funext b
  unfold off
  by_cases h : b = p ∨ b = q
  · rw [if_pos h, if_pos h]
  · rw [if_neg h, if_neg h, upd_ne (fun e => h (.inr e))]
/-- something new -/
theorem off_new {H : Hp} {p q x : Addr} {o : HO} (hx : H x = none) : Same (off H p q) (off (upd H x o) p q) := by
  intro b u e
  unfold off at e ⊢
  by_cases h : b = p ∨ b = q
  · rw [if_pos h] at e; cases e
  · rw [if_neg h] at e ⊢
    rw [upd_ne (ne_of_none e hx)]
    exact e
def spDraw : Sp := fun vs H Q _ => Hd (∃ (p q : Addr) (n m : Int), vs = [.ref p, .int m] ∧ Stm H p q n ∧ n + 1 ≤ 100000 ∧ 0 < m ∧ m < 1000000 ∧
  ∀ (d n' : Int) (H' : Hp), 0 ≤ d → d < m → n' ≤ n + 1 → Stm H' p q n' → Same (off H p q) (off H' p q) → Q (.int d) H')
theorem eqvAll_nil (cs : List Int) : PyData.eqv (.list (cs.map PyData.int)) (.list []) = cs.isEmpty := by
  cases cs with
  | nil => rfl
  | cons x r => rfl
theorem canLay_ints : ∀ (cs : List Int), PyData.canLayAll0 (cs.map PyData.int) = true
  | [] => rfl
  | x :: r => by
    show (PyData.canLay0 (.int x) && PyData.canLayAll0 (r.map PyData.int)) = true
    rw [canLay_ints r]
    rfl
theorem depth_ints : ∀ (cs : List Int), PyData.depthAll (cs.map PyData.int) = 0
  | [] => rfl
  | x :: r => by
    show max (PyData.depth (.int x)) (PyData.depthAll (r.map PyData.int)) = 0
    rw [depth_ints r]
    rfl
theorem shaped_ints (cs : List Int) : SeqAt.shaped (.list (cs.map PyData.int)) = true := by
  show (PyData.canLayAll0 (cs.map PyData.int) && decide (PyData.depthAll (cs.map PyData.int) + 1 ≤ 64)) = true
  rw [canLay_ints, depth_ints]
  rfl
theorem dpAll_ints {K : PySem.W.Frag} {H : Hp} : ∀ (cs : List Int), DpAll K H (cs.map V.int) (cs.map PyData.int)
  | [] => .nil
  | x :: r => .cons (.int x) (dpAll_ints r)
theorem while_ex {c : TT} {tb : TS} {D : Ends} {σ : L2.St} {H : Hp} (Pv : Nat → L2.St → Hp → Prop) (Ex : L2.St → Hp → Prop) (h0 : ∃ m, Pv m σ H) (hfin : ∀ σ H, Ex σ H → D.nx σ H)
    (hs : ∀ (R : L2.St → Hp → Prop), (∀ σ H, Ex σ H → R σ H) → ∀ m σ H, Pv m σ H → ∀ NW : L2.St → Hp → Prop, NW = (fun σ' H' => Hd (∃ m', m' < m ∧ Pv m' σ' H')) →
      c σ H fun b H1 => if b = true then ∃ N : L2.St → Hp → Prop, (∀ σ' H', N σ' H' → ∃ m', m' < m ∧ Pv m' σ' H') ∧ tb { D with nx := N, ct := N, bk := R } σ H1 else R σ H1) : tWhile c tb D σ H :=
  ⟨Pv, h0, fun m σ H hp => hs D.nx hfin m σ H hp _ rfl⟩
theorem seqIndex0 {n : Nat} : seqIndex? 0 (n + 1) = some 0 := by
  unfold seqIndex?
  simp
def lenAt (H : Hp) (q : Addr) : Nat := match H q with
  | some (.lst xs) => xs.length
  | _ => 0
theorem lenAt_of {H : Hp} {q : Addr} {xs : List V} (h : H q = some (.lst xs)) : lenAt H q = xs.length := by
  unfold lenAt; rw [h]
/-! ### from the object's file: heaps -/
theorem off_same {H : Hp} {p q : Addr} : Same (off H p q) H := fun b o e => by
  unfold off at e
  by_cases h : b = p ∨ b = q
  · rw [if_pos h] at e; cases e
  · rw [if_neg h] at e; exact e
theorem off_mono {H H' : Hp} {p q : Addr} (h : Same H H') : Same (off H p q) (off H' p q) := fun b o e => by
  unfold off at e ⊢
  by_cases c : b = p ∨ b = q
  · rw [if_pos c] at e; cases e
  · rw [if_neg c] at e ⊢
    exact h _ _ e
theorem same_new {H : Hp} {x : Addr} {o : HO} (hx : H x = none) : Same H (upd H x o) := fun b u e => by
  rw [upd_ne (ne_of_none e hx)]
  exact e
theorem Stm.same {H H' : Hp} {p q : Addr} {n : Int} (S : Stm H p q n) (h : Same H H') : Stm H' p q n := by
  obtain ⟨⟨cs, a, c, SA⟩, n0, n1⟩ := S
  exact ⟨⟨cs, a, c, ⟨h _ _ SA.hp, h _ _ SA.hq, SA.a0, SA.c0, SA.c1⟩⟩, n0, n1⟩
/-- what is new since H0 -/
def nw (H0 H : Hp) : Hp := fun b => if (H0 b).isNone = true then H b else none
theorem nw_none {H0 H : Hp} {b : Addr} (h : H0 b = none) : nw H0 H b = H b := by
  unfold nw
  rw [h]
  rfl
theorem nw_some {H0 H : Hp} {b : Addr} {o : HO} (h : nw H0 H b = some o) : H0 b = none ∧ H b = some o := by
  unfold nw at h
  cases e : H0 b with
  | none => rw [e] at h; exact ⟨rfl, h⟩
  | some u => rw [e] at h; cases h
theorem nw_same {H0 H : Hp} : Same (nw H0 H) H := fun b o e => (nw_some e).2
/-- all but the stream stands, and what stood is there -/
structure Xt (H H' : Hp) (p q : Addr) : Prop where
  fr : Same (off H p q) (off H' p q)
  dm : ∀ b, H' b = none → H b = none
theorem Xt.refl {H : Hp} {p q : Addr} : Xt H H p q := ⟨Same.refl _, fun _ h => h⟩
theorem Xt.trans {H H1 H2 : Hp} {p q : Addr} (a : Xt H H1 p q) (b : Xt H1 H2 p q) : Xt H H2 p q := ⟨a.fr.trans b.fr, fun c h => a.dm c (b.dm c h)⟩
theorem Xt.new {H : Hp} {p q x : Addr} {o : HO} (hx : H x = none) : Xt H (upd H x o) p q := ⟨off_new hx, fun b h => by
  by_cases e : b = x
  · rw [e]; exact hx
  · rw [upd_ne e] at h; exact h⟩
theorem Xt.same {H H' : Hp} {p q : Addr} (h : Same H H') : Xt H H' p q := ⟨off_mono h, fun b e => h.free e⟩
/-- what is written at a place that is new since H -/
theorem Xt.put {H H' : Hp} {p q x : Addr} {o : HO} (a : Xt H H' p q) (hx : H x = none) : Xt H (upd H' x o) p q := ⟨fun b u e => by
  have hb : b ≠ x := fun z => by
    have := off_same _ _ e
    rw [z, hx] at this; cases this
  have q1 := a.fr _ _ e
  unfold off at q1 ⊢
  by_cases c : b = p ∨ b = q
  · rw [if_pos c] at q1; cases q1
  · rw [if_neg c] at q1 ⊢
    rw [upd_ne hb]; exact q1, fun b h => by
  by_cases e : b = x
  · rw [e]; exact hx
  · rw [upd_ne e] at h; exact a.dm b h⟩
theorem Xt.of {H H' : Hp} {p q : Addr} {n n' : Int} (S' : Stm H' p q n') (fr : Same (off H p q) (off H' p q)) : Xt H H' p q := ⟨fr, fun b h => by
  obtain ⟨⟨cs, a, c, SA⟩, _, _⟩ := S'
  cases e : H b with
  | none => rfl
  | some o =>
    by_cases z : b = p ∨ b = q
    · rcases z with rfl | rfl
      · rw [SA.hp] at h; cases h
      · rw [SA.hq] at h; cases h
    · have q1 : off H' p q b = some o := fr b o (by unfold off; rw [if_neg z]; exact e)
      rw [off_same _ _ q1] at h; cases h⟩
theorem Stm.there {H : Hp} {p q : Addr} {n : Int} (S : Stm H p q n) : H p ≠ none ∧ H q ≠ none := by
  obtain ⟨⟨cs, a, c, SA⟩, _, _⟩ := S
  exact ⟨by rw [SA.hp]; exact (fun z => nomatch z), by rw [SA.hq]; exact (fun z => nomatch z)⟩
/-- what is new stays behind draws -/
theorem nw_mono {H0 H H' : Hp} {p q : Addr} (hp : H0 p ≠ none) (hq : H0 q ≠ none) (fr : Same (off H p q) (off H' p q)) : Same (nw H0 H) (nw H0 H') := fun b o e => by
  obtain ⟨h0, h1⟩ := nw_some e
  rw [nw_none h0]
  have z : ¬ (b = p ∨ b = q) := fun z => by
    rcases z with rfl | rfl
    · exact hp h0
    · exact hq h0
  exact off_same _ _ (fr b o (by unfold off; rw [if_neg z]; exact h1))
/-- new since later, new since earlier -/
theorem nw_low {H0 H1 H : Hp} (dm : ∀ b, H1 b = none → H0 b = none) : Same (nw H1 H) (nw H0 H) := fun b o e => by
  obtain ⟨h0, h1⟩ := nw_some e
  rw [nw_none (dm b h0)]
  exact h1
theorem Xt.at {H H' : Hp} {p q b : Addr} {o : HO} (x : Xt H H' p q) (h : H b = some o) (hp : b ≠ p) (hq : b ≠ q) : H' b = some o :=
  off_same _ _ (x.fr b o (by unfold off; rw [if_neg (fun z => z.elim hp hq)]; exact h))
theorem Stm.put {H : Hp} {p q x : Addr} {n : Int} {o : HO} (S : Stm H p q n) (hp : x ≠ p) (hq : x ≠ q) : Stm (upd H x o) p q n := by
  obtain ⟨⟨cs, a, c, SA⟩, n0, n1⟩ := S
  exact ⟨⟨cs, a, c, ⟨by rw [upd_ne hp.symm]; exact SA.hp, by rw [upd_ne hq.symm]; exact SA.hq, SA.a0, SA.c0, SA.c1⟩⟩, n0, n1⟩
theorem nw_put {H0 H : Hp} {x : Addr} {o : HO} (hx : H0 x ≠ none) : nw H0 (upd H x o) = nw H0 H := by
  funext b
  unfold nw
  cases e : H0 b with
  | none =>
    have hb : b ≠ x := fun z => hx (by rw [← z]; exact e)
    simp [upd_ne hb]
  | some u => rfl
theorem off_at {H : Hp} {p q x : Addr} {n : Int} {o : HO} (S : Stm H p q n) (hx : H x = none) : off (upd H x o) p q x = some o := by
  obtain ⟨⟨cs, a, c, SA⟩, _, _⟩ := S
  unfold off
  rw [if_neg (fun h => by
    rcases h with rfl | rfl
    · rw [SA.hp] at hx; cases hx
    · rw [SA.hq] at hx; cases hx)]
  exact upd_same
theorem take_snoc {α : Type} {l : List α} {i : Nat} {x : α} (h : l[i]? = some x) : l.take (i + 1) = l.take i ++ [x] := by
  obtain ⟨h1, h2⟩ := List.getElem?_eq_some_iff.mp h
  rw [← h2, List.take_append_getElem h1]
theorem same_put {H H' : Hp} {x : Addr} {o : HO} (h : Same H H') (hx : H x = none) : Same H (upd H' x o) := fun b u e => by
  rw [upd_ne (ne_of_none e hx)]
  exact h _ _ e
theorem nw_step {H0 H H' : Hp} (h : Same H H') : Same (nw H0 H) (nw H0 H') := fun b o e => by
  obtain ⟨e1, e2⟩ := nw_some e
  rw [nw_none e1]
  exact h _ _ e2
section
variable {P : Program} {w : World} {K : PySem.W.Frag} {mg : Str → Option Value} {base : Heap}
theorem ok_draw (T : Txt K mg) : FnOk P w K mg base CX0 1 T.f__law_draw T.fd__law_draw ["_law_s", "_law_many"] spDraw := by
  refine T.D__law_draw.F.ok sc__law_draw (fun vs H Q E h => ?_) (fun cdv A outer s H vs Q E hr h => ?_)
  · obtain ⟨p, q, n, m, rfl, _⟩ := h.out
    rfl
  · obtain ⟨p, q, n, m, rfl, S, hn, hm, hm2, k⟩ := h.out
    have hu64 := hr.units
    refine ⟨_, (pss_cons (ps_while PassesOwn.never (PW.pt (pw_and (pt_cmpR op_eq (pe_ix ix_list (pv 0) pe_int (fun _ _ => rfl)) pe_int (nomark _)) (pw_and1 (pt_cmpR (op_neD hu64) (pe_ix ix_list (pv 0) pe_int (fun _ _ => rfl)) (pe_lst pa_nil) (nomark _)))))
    (pss_cons (ps_asg (pe_bm PySem.F.plainAttrs_list PySem.F.slot_list_pop PySem.F.type_list_pop mt_popAt (pe_ix ix_list (pv 0) pe_int (fun _ _ => rfl)) (pa_cons pe_int pa_nil)) (pg_sub (pv 0) pe_int set_list (fun _ => rfl)))
  (pss_one (ps_if (pt_cmpR op_lt (pe_ix ix_list (pv 0) pe_int (fun _ _ => rfl)) (pe_op op_pow pe_int pe_int) (nomark _))
    (pss_cons (ps_asg (pe_op op_mod (pe_callTy call_int1 (by rfl) T.B.n_int (by decide +kernel) (pa_cons (pe_op op_add (pe_op op_add (pe_op op_mul (pe_ix ix_list (pv 0) pe_int (fun _ _ => rfl)) pe_int) (pe_ix ix_list (pv 0) pe_int (fun _ _ => rfl))) pe_int) pa_nil)) pe_int) (pg_sub (pv 0) pe_int set_list (fun _ => rfl)))
  (pss_one (ps_asg pe_int (pg_sub (pv 0) pe_int set_list (fun _ => rfl)))))
    pss_nil))))
  (pss_cons (ps_if (pt_cmpR op_gt (pe_ix ix_list (pv 0) pe_int (fun _ _ => rfl)) pe_int (nomark _))
    (pss_cons (ps_set (i := 2) sc__law_draw.nd rfl (by first | exact Or.inl rfl | exact Or.inr rfl) (pe_op op_mod (pe_callTy call_int1 (by rfl) T.B.n_int (by decide +kernel) (pa_cons (pe_ix ix_list (pv 0) pe_int (fun _ _ => rfl)) pa_nil)) (pv 1)))
  (pss_cons (ps_asg (pe_op op_fdiv (pe_ix ix_list (pv 0) pe_int (fun _ _ => rfl)) (pv 1)) (pg_sub (pv 0) pe_int set_list (fun _ => rfl)))
  (pss_one (ps_ret (pv 2)))))
    pss_nil)
  (pss_cons (ps_asg (pe_op op_add (pe_ix ix_list (pv 0) pe_int (fun _ _ => rfl)) pe_int) (pg_sub (pv 0) pe_int set_list (fun _ => rfl)))
  (pss_cons (ps_set (i := 3) sc__law_draw.nd rfl (by first | exact Or.inl rfl | exact Or.inr rfl) (pe_op op_mod (pe_callTy call_int1 (by rfl) T.B.n_int (by decide +kernel) (pa_cons (pe_op op_pow (pe_op op_add (pe_op op_add (pe_ix ix_list (pv 0) pe_int (fun _ _ => rfl)) (pe_op op_mul pe_int (pe_ix ix_list (pv 0) pe_int (fun _ _ => rfl)))) pe_int) pe_int) pa_nil)) pe_int))
  (pss_cons (ps_set (i := 4) sc__law_draw.nd rfl (by first | exact Or.inl rfl | exact Or.inr rfl) (pe_op op_mod (pe_callTy call_int1 (by rfl) T.B.n_int (by decide +kernel) (pa_cons (pe_op op_pow (pe_op op_add (pe_op op_add (pe_op op_mul (pv 3) pe_int) (pe_op op_mul (pe_op op_mul pe_int (pe_ix ix_list (pv 0) pe_int (fun _ _ => rfl))) (pe_ix ix_list (pv 0) pe_int (fun _ _ => rfl)))) pe_int) pe_int) pa_nil)) pe_int))
  (pss_one (ps_ret (pe_op op_mod (pe_callTy call_int1 (by rfl) T.B.n_int (by decide +kernel) (pa_cons (pv 4) pa_nil)) (pv 1))))))))), ?_⟩
    obtain ⟨⟨cs, a, c, SA⟩, n0, n1⟩ := S
    refine while_ex (fun l σ H1 => ∃ cs a c, cs.length = l ∧ σ = [some (.ref p), some (.int m), none, none, none] ∧ StmA H1 p q n cs a c ∧ Same (off H p q) (off H1 p q))
      (fun σ H1 => ∃ cs a c, σ = [some (.ref p), some (.int m), none, none, none] ∧ StmA H1 p q n cs a c ∧ Same (off H p q) (off H1 p q)) ⟨cs.length, cs, a, c, rfl, rfl, SA, Same.refl _⟩ ?_ ?_
    · rintro σ H1 ⟨cs, a, c, rfl, SA, fr⟩
      have hpq := SA.ne
      obtain ⟨hp, hq, a0, c0, c1⟩ := SA
      walk_at "st"
      by_cases ha : a > 0
      · refine if_true_of (decide_eq_true ha) ?_
        walk_at "st"
        refine k (a % m) n _ (Int.emod_nonneg _ (by omega)) (Int.emod_lt_of_pos _ hm) (by omega) ⟨⟨cs, a / m, c, ⟨upd_same, ?_, Int.ediv_nonneg a0 (by omega), c0, c1⟩⟩, n0, n1⟩ ?_
        · rw [upd_ne hpq.symm]; exact hq
        · rw [off_p]; exact fr
      · refine if_false_of (decide_eq_false ha) ?_
        walk_at "st"
        have sq0 : 0 ≤ (n + 1) * (n + 1) := Int.mul_nonneg (by omega) (by omega)
        have sq1 : (n + 1) * (n + 1) ≤ 100000 * 100000 := Int.mul_le_mul hn hn (by omega) (by omega)
        have sqe : 40503 * (n + 1) * (n + 1) = 40503 * ((n + 1) * (n + 1)) := Int.mul_assoc _ _ _
        refine ⟨Or.inr ⟨by omega, by omega⟩, ?_⟩
        walk_at "st"
        refine k _ (n + 1) _ (Int.emod_nonneg _ (by omega)) (Int.emod_lt_of_pos _ hm) (by omega) ⟨⟨cs, a, c, ⟨upd_same, ?_, a0, c0, c1⟩⟩, by omega, hn⟩ ?_
        · rw [upd_ne hpq.symm]; exact hq
        · rw [off_p]; exact fr
    · rintro R fin l σ H1 ⟨cs, a, c, rfl, rfl, SA, fr⟩ NW hNW
      have hpq := SA.ne
      obtain ⟨hp, hq, a0, c0, c1⟩ := SA
      walk_at "st"
      by_cases ha : a = 0
      · refine if_true_of (decide_eq_true (congrArg V.int ha)) ?_
        walk_at "st"
        intro x hx
        have xp : p ≠ x := ne_of_none hp hx
        have xq : q ≠ x := ne_of_none hq hx
        refine ⟨.list (cs.map PyData.int), .list [], .lst (SqL.of (by rw [upd_ne xq]; exact hq)) (dpAll_ints cs), .lst (SqL.of upd_same) .nil, shaped_ints cs, rfl, _, rfl, ?_⟩
        have fr2 : Same (off H p q) (off (upd H1 x (.lst [])) p q) := fr.trans (off_new hx)
        have hp2 : (upd H1 x (.lst [])) p = some (.lst [.ref q, .int a, .int n, .int c]) := by rw [upd_ne xp]; exact hp
        have hq2 : (upd H1 x (.lst [])) q = some (.lst (cs.map V.int)) := by rw [upd_ne xq]; exact hq
        generalize upd H1 x (.lst []) = H2 at fr2 hp2 hq2 ⊢
        cases cs with
        | nil =>
          refine if_false_of rfl ?_
          exact fin _ _ ⟨[], a, c, rfl, ⟨hp2, hq2, a0, c0, c1⟩, fr2⟩
        | cons z r =>
          refine if_true_of rfl ⟨NW, by rw [hNW]; exact fun _ _ => Hd.out, ?_⟩
          walk_at "st"
          refine ⟨.inl ⟨rfl, _, SqL.of hq2⟩, q, _, 0, 0, _, rfl, rfl, hq2, by decide, by decide, seqIndex0, rfl, ?_⟩
          walk_at "st"
          by_cases hz : z < 10 ^ 18
          · refine if_true_of (decide_eq_true hz) ?_
            walk_at "st"
            rw [hNW]; refine .a ⟨r.length, Nat.lt_succ_self _, r, 0, (c * 31 + z + 7) % 2147483647, rfl, rfl, ⟨upd_same, ?_, by decide, Int.emod_nonneg _ (by decide), Int.emod_lt_of_pos _ (by decide)⟩, ?_⟩
            · rw [upd_ne hpq.symm, upd_ne hpq.symm, upd_ne hpq.symm]; exact upd_same
            · rw [off_p, off_p, off_p, off_q]; exact fr2
          · refine if_false_of (decide_eq_false hz) ?_
            walk_at "st"
            rw [hNW]; refine .a ⟨r.length, Nat.lt_succ_self _, r, z, c, rfl, rfl, ⟨upd_same, ?_, by omega, c0, c1⟩, ?_⟩
            · rw [upd_ne hpq.symm]; exact upd_same
            · rw [off_p, off_q]; exact fr2
      · refine if_false_of (decide_eq_false fun e => ha (V.int.inj e)) ?_
        exact fin _ _ ⟨cs, a, c, rfl, ⟨hp, hq, a0, c0, c1⟩, fr⟩
def spPick : Sp := fun vs H Q _ => Hd (∃ (p q l : Addr) (n : Int) (xs : List V), vs = [.ref p, .ref l] ∧ Stm H p q n ∧ n + 1 ≤ 100000 ∧ off H p q l = some (.lst xs) ∧ 0 < xs.length ∧ xs.length < 1000 ∧
  ∀ (v : V) (n' : Int) (H' : Hp), v ∈ xs → n' ≤ n + 1 → Stm H' p q n' → Same (off H p q) (off H' p q) → Q v H')
theorem ok_pick (T : Txt K mg) : FnOk P w K mg base CX0 2 T.f__law_pick T.fd__law_pick ["_law_s", "_law_some"] spPick := by
  have G__law_draw : FnOk P w K mg base CX0 1 T.f__law_draw T.fd__law_draw _ spDraw := ok_draw T
  refine T.D__law_pick.F.ok sc__law_pick (fun vs H Q E h => ?_) (fun cdv A outer s H vs Q E hr h => ?_)
  · obtain ⟨p, q, l, n, xs, rfl, _⟩ := h.out
    rfl
  · obtain ⟨p, q, l, n, xs, rfl, S, hn, hl, l0, l1, k⟩ := h.out
    refine ⟨_, (pss_one (ps_ret (pe_ix ix_list (pv 1) (pe_call G__law_draw (hr.mono (by first | decide | omega)) rfl T.D__law_draw.g T.D__law_draw.F.kp T.D__law_draw.b .nil pass0 (pa_cons (pv 0) (pa_cons (pe_callB call_len_seq (by rfl) T.B.n_len (by decide +kernel) (pa_cons (pv 1) pa_nil)) pa_nil))) (fun _ _ => rfl)))), ?_⟩
    have hl2 := off_same _ _ hl
    refine ⟨_, rfl, _, rfl, _, rfl, l, xs, rfl, .inl (SqL.of hl2), ?_⟩
    refine .a ⟨p, q, n, (xs.length : Int), rfl, S, hn, by omega, by omega, fun d n' H' d0 d1 hn' S' fr => ?_⟩
    obtain ⟨j, rfl⟩ : ∃ j : Nat, d = (j : Int) := ⟨d.toNat, by omega⟩
    have hj : j < xs.length := by omega
    refine ⟨l, xs, _, xs[j], rfl, rfl, SqL.of (off_same _ _ (fr _ _ hl)), atI_nat (by simp [hj]), ?_⟩
    exact k _ n' H' (List.getElem_mem hj) hn' S' fr
def spPickS : Sp := fun vs H Q _ => Hd (∃ (p q : Addr) (n : Int) (l : List Nat), vs = [.ref p, .str (SX.S l)] ∧ Stm H p q n ∧ n + 1 ≤ 100000 ∧ 0 < l.length ∧ l.length < 1000 ∧
  ∀ (c : Nat) (n' : Int) (H' : Hp), c ∈ l → n' ≤ n + 1 → Stm H' p q n' → Same (off H p q) (off H' p q) → Q (.str (SX.S [c])) H')
theorem ok_pickS (T : Txt K mg) : FnOk P w K mg base CX0 2 T.f__law_pick T.fd__law_pick ["_law_s", "_law_some"] spPickS := by
  have G__law_draw : FnOk P w K mg base CX0 1 T.f__law_draw T.fd__law_draw _ spDraw := ok_draw T
  refine T.D__law_pick.F.ok sc__law_pick (fun vs H Q E h => ?_) (fun cdv A outer s H vs Q E hr h => ?_)
  · obtain ⟨p, q, n, l, rfl, _⟩ := h.out
    rfl
  · obtain ⟨p, q, n, l, rfl, S, hn, l0, l1, k⟩ := h.out
    refine ⟨_, (pss_one (ps_ret (pe_ix SL.ix_strL (pv 1) (pe_call G__law_draw (hr.mono (by first | decide | omega)) rfl T.D__law_draw.g T.D__law_draw.F.kp T.D__law_draw.b .nil pass0 (pa_cons (pv 0) (pa_cons (pe_callB SL.call_lenL (by rfl) T.B.n_len (by decide +kernel) (pa_cons (pv 1) pa_nil)) pa_nil))) (fun _ _ => rfl)))), ?_⟩
    walk_at "st"
    refine .a ⟨p, q, n, (l.length : Int), rfl, S, hn, by omega, by omega, fun d n' H' d0 d1 hn' S' fr => ?_⟩
    walk_at "st"
    intro c hc
    exact k c n' H' (List.mem_of_getElem? hc) hn' S' fr
end
end My

namespace My
open PySem PySem.Spec PyProof.Rows L2 SuX
local macro_rules | `(tactic| walk_at "hp") => `(tactic| first | assumption | exact upd_same | (refine Eq.trans (upd_ne (by first | assumption | (apply Ne.symm; assumption))) ?_; walk_at "hp"))
local macro_rules | `(tactic| walk_at "ixl") => `(tactic| (refine' ⟨_, ?xs, _, ?vv, rfl, rfl, SqL.of ?hh, ?aa, ?qq⟩; (case hh => walk_at "hp"); (case aa => rfl)))
local macro_rules | `(tactic| walk_at "setl") => `(tactic| (refine' ⟨_, ?xs, _, ?jj, rfl, rfl, ?hh, ?aa, ?qq⟩; (case hh => walk_at "hp"); (case aa => rfl)))
local macro_rules | `(tactic| walk_at "cond") => `(tactic| first | exact ⟨_, rfl⟩ | exact Nat.le_of_lt (small1000 (Nat.le_of_ble_eq_true rfl)) | decide | omega | (dsimp only; omega) | exact ⟨by decide, by decide⟩ | exact Or.inr ⟨by decide, by decide⟩ | exact Or.inl ⟨by decide, by decide⟩ | exact ⟨by decide, by decide, by decide⟩ | exact ⟨by omega, by omega⟩ | exact ⟨by omega, by omega, by omega⟩ | (simp only [List.length_cons, List.length_nil, List.length_append, List.length_take, List.length_drop]; omega) | (refine ⟨?_, ?_, ?_⟩ <;> first | decide | omega | (simp only [List.length_cons, List.length_nil, List.length_append, List.length_take, List.length_drop, Option.getD_some, Option.getD_none]; omega)))
local macro_rules | `(tactic| walk_at "st") => `(tactic| repeat (first | refine ⟨_, rfl, ?_⟩ | refine ⟨_, _, rfl, rfl, ?_⟩ | walk_at "ixl" | walk_at "setl" | refine ⟨rfl, ?_⟩ | refine Or.inl ⟨_, rfl, ?_⟩ | refine And.intro (by walk_at "cond") ?_))
theorem na_of {K : PySem.W.Frag} {C : Addr} {fs : List Str} {f : Str} (o : OC K C fs) (h : f ∈ fs) : NoAttr K C f := o.na f h
theorem pe_fldK {X : Cx} {K : PySem.W.Frag} {e : Expr} {f : Str} {pos : Pos} {ta : TE} (hK : X.K = K) (he : PE X e ta) (hb : attributeBase e f X.env (eval e X.env) = eval e X.env) : PE X (.Attribute e f pos) (tFld K ta f) := by
  subst hK
  exact pe_fld he hb
theorem lc_listN {K : PySem.W.Frag} {a : Addr} {xs : List V} {g : TG} {tt : TT} {te : TE} {vs : List Nat} {σ : L2.St} {H1 : Hp} {D : Addr} {Qd : Hp → Prop} (Pv : Nat → Hp → Prop) (h0 : Pv 0 (upd H1 D (.lst []))) (hl : ∀ i H, i ≤ xs.length → Pv i H → SqL K H a xs)
    (hs : ∀ i x H, xs[i]? = some x → Pv i H → ∀ N : Hp → Prop, N = Pv (i + 1) → g x (wipe σ vs) H fun σ2 H2 => wipe σ2 vs = wipe σ vs ∧ tt σ2 H2 fun b H3 =>
      if b = true then te σ2 H3 fun y H4 => ∃ acc, H4 D = some (.lst acc) ∧ acc.length < sizeLine ∧ N (upd H4 D (.lst (acc ++ [y]))) else N H3) (hd : ∀ H, Pv xs.length H → Qd H) :
    ∃ W : Nat → Nat → Hp → Prop, (∃ m, W 0 m (upd H1 D (.lst []))) ∧ ∀ i m H, W i m H →
      ((Itl K a).stop i H ∧ Qd H) ∨ ((Itl K a).go i H ∧ ∃ Nx : Hp → Prop, (∀ H', Nx H' → ∃ m', m' < m ∧ W (i + 1) m' H') ∧ ∀ x H', (Itl K a).yld i H x H' → g x (wipe σ vs) H' fun σ2 H2 => wipe σ2 vs = wipe σ vs ∧ tt σ2 H2 fun b H3 =>
        if b = true then te σ2 H3 fun y H4 => ∃ acc, H4 D = some (.lst acc) ∧ acc.length < sizeLine ∧ Nx (upd H4 D (.lst (acc ++ [y]))) else Nx H3) := by
  refine ⟨fun i m H => m = xs.length - i ∧ i ≤ xs.length ∧ Pv i H, ⟨xs.length, by simp, Nat.zero_le _, h0⟩, ?_⟩
  rintro i m H ⟨rfl, hi, p⟩
  have q := hl i H hi p
  by_cases hlt : i < xs.length
  · refine .inr ⟨⟨xs, xs[i], q, by simp [hlt]⟩, Pv (i + 1), fun H' p' => ⟨xs.length - (i + 1), by omega, rfl, hlt, p'⟩, fun x H' y => ?_⟩
    obtain ⟨e, y⟩ := y
    subst e
    exact hs i x _ (y xs q) p _ rfl
  · have e : i = xs.length := by omega
    subst e
    exact .inl ⟨⟨xs, q, Nat.le_refl _⟩, hd H p⟩
/-- a comprehension over a list, item by item; what stood stands -/
theorem lc_map {K : PySem.W.Frag} {a : Addr} {xs : List V} {g : TG} {tt : TT} {te : TE} {vs : List Nat} {σ : L2.St} {H : Hp} {D : Addr} {Qd : Hp → Prop} (ys : List V) (hy : ys.length = xs.length) (hl : H a = some (.lst xs)) (hD : H D = none) (hz : xs.length ≤ 1000)
    (hs : ∀ (i : Nat) (x y : V), xs[i]? = some x → ys[i]? = some y → ∀ H', Same H H' → ∀ (R : V → Hp → Prop) (N : Hp → Prop), (∀ H4, Same H' H4 → R y H4) → g x (wipe σ vs) H' fun σ2 H2 => wipe σ2 vs = wipe σ vs ∧ tt σ2 H2 fun b H3 => if b = true then te σ2 H3 R else N H3)
    (hq : ∀ H', Same H H' → H' D = some (.lst ys) → Qd H') :
    ∃ W : Nat → Nat → Hp → Prop, (∃ m, W 0 m (upd H D (.lst []))) ∧ ∀ i m H, W i m H →
      ((Itl K a).stop i H ∧ Qd H) ∨ ((Itl K a).go i H ∧ ∃ Nx : Hp → Prop, (∀ H', Nx H' → ∃ m', m' < m ∧ W (i + 1) m' H') ∧ ∀ x H', (Itl K a).yld i H x H' → g x (wipe σ vs) H' fun σ2 H2 => wipe σ2 vs = wipe σ vs ∧ tt σ2 H2 fun b H3 =>
        if b = true then te σ2 H3 fun y H4 => ∃ acc, H4 D = some (.lst acc) ∧ acc.length < sizeLine ∧ Nx (upd H4 D (.lst (acc ++ [y]))) else Nx H3) := by
  refine lc_listN (xs := xs) (fun i H' => Same H H' ∧ H' D = some (.lst (ys.take i))) ⟨same_put (Same.refl _) hD, by rw [upd_same]; rfl⟩ (fun i H' _ p => SqL.of (p.1 _ _ hl)) (fun i x H' hx p N hN => ?_) (fun H' p => hq H' p.1 (by rw [p.2, ← hy, List.take_length]))
  have hi := (List.getElem?_eq_some_iff.mp hx).1
  have hyi : ys[i]? = some (ys[i]'(by rw [hy]; exact hi)) := List.getElem?_eq_getElem _
  refine hs i x _ hx hyi H' p.1 (fun y H4 => ∃ acc, H4 D = some (.lst acc) ∧ acc.length < sizeLine ∧ N (upd H4 D (.lst (acc ++ [y])))) N fun H4 s4 => ⟨_, s4 _ _ p.2, ?_, ?_⟩
  · have h1 : (ys.take i).length ≤ xs.length := by rw [List.length_take]; omega
    exact Nat.lt_of_le_of_lt (Nat.le_trans h1 hz) (by decide)
  · rw [hN]
    refine ⟨same_put (p.1.trans s4) hD, ?_⟩
    rw [upd_same, take_snoc hyi]
theorem map_at {α β : Type} {f : α → β} {l : List α} {i : Nat} {y : β} (h : (l.map f)[i]? = some y) : ∃ x, l[i]? = some x ∧ f x = y := by
  rw [List.getElem?_map] at h
  cases q : l[i]? with
  | none => rw [q] at h; cases h
  | some x => rw [q] at h; exact ⟨x, rfl, Option.some.inj h⟩
def FrS (S : List Addr) (H H' : Hp) : Prop := ∀ b u, b ∉ S → H b = some u → H' b = some u
theorem FrS.refl (S : List Addr) (H : Hp) : FrS S H H := fun _ _ _ e => e
theorem FrS.trans {S : List Addr} {H H1 H2 : Hp} (a : FrS S H H1) (b : FrS S H1 H2) : FrS S H H2 := fun c u n e => b c u n (a c u n e)
theorem FrS.mono {S S' : List Addr} {H H' : Hp} (a : FrS S H H') (h : ∀ b ∈ S, b ∈ S' ∨ H b = none) : FrS S' H H' := fun c u n e => a c u (fun z => (h c z).elim n fun q => by rw [q] at e; cases e) e
theorem FrS.put {S : List Addr} {H H' : Hp} {x : Addr} {o : HO} (a : FrS S H H') (h : x ∈ S) : FrS S H (upd H' x o) := fun c u n e => by
  have cx : c ≠ x := fun z => n (by rw [z]; exact h)
  rw [upd_ne cx]; exact a c u n e
theorem FrS.new {S : List Addr} {H H' : Hp} {x : Addr} {o : HO} (a : FrS S H H') (h : H x = none) : FrS S H (upd H' x o) := fun c u n e => by rw [upd_ne (fun z => by rw [z, h] at e; cases e)]; exact a c u n e
theorem SameX.frS {x : Addr} {S : List Addr} {H H' : Hp} (s : SameX x H H') (h : x ∈ S) : FrS S H H' := fun c u n e => s c u (fun z => n (by rw [z]; exact h)) e
theorem for_list {K : PySem.W.Frag} {a : Addr} {xs : List V} {g : TG} {tb : TS} {D : Ends} {σ : L2.St} {H : Hp} (W : Nat → L2.St → Hp → Prop) (hst : ∀ i σ H, W i σ H → H a = some (.lst xs)) (h0 : W 0 σ H) (hend : ∀ σ H, W xs.length σ H → D.nx σ H)
    (hs : ∀ (R : L2.St → Hp → Prop) (i : Nat) σ H x, W i σ H → xs[i]? = some x → ∀ N : L2.St → Hp → Prop, N = (fun σ' H' => Hd (W (i + 1) σ' H')) → g x σ H fun σ2 H2 => tb { D with nx := N, ct := N, bk := D.nx } σ2 H2) :
    ∃ W : Nat → Nat → L2.St → Hp → Prop, (∃ m, W 0 m σ H) ∧ ∀ i m σ H, W i m σ H →
      ((Itl K a).stop i H ∧ D.nx σ H) ∨ ((Itl K a).go i H ∧ ∃ N : L2.St → Hp → Prop, (∀ σ' H', N σ' H' → ∃ m', m' < m ∧ W (i + 1) m' σ' H') ∧ ∀ x H', (Itl K a).yld i H x H' → g x σ H' fun σ2 H2 => tb { D with nx := N, ct := N, bk := D.nx } σ2 H2) := by
  refine ⟨fun i m σ H => W i σ H ∧ m = xs.length - i ∧ i ≤ xs.length, ⟨_, h0, rfl, Nat.zero_le _⟩, ?_⟩
  rintro i m σ H ⟨hw, rfl, hi⟩
  have hl := hst i σ H hw
  by_cases hlt : i < xs.length
  · refine .inr ⟨⟨xs, xs[i], SqL.of hl, List.getElem?_eq_getElem hlt⟩, fun σ' H' => Hd (W (i + 1) σ' H'), fun σ' H' z => ⟨xs.length - (i + 1), by omega, z.out, rfl, by omega⟩, ?_⟩
    rintro x H' ⟨rfl, hx⟩
    exact hs D.nx i σ H' x hw (hx xs (SqL.of hl)) _ rfl
  · have e : i = xs.length := by omega
    subst e
    exact .inl ⟨⟨xs, SqL.of hl, Nat.le_refl _⟩, hend σ H hw⟩
theorem for_rng {lo : Int} {n : Nat} {g : TG} {tb : TS} {D : Ends} {σ : L2.St} {H : Hp} (W : Nat → L2.St → Hp → Prop) (h0 : W 0 σ H) (hend : ∀ σ H, W n σ H → D.nx σ H)
    (hs : ∀ (R : L2.St → Hp → Prop) (i : Nat) σ H, i < n → W i σ H → ∀ N : L2.St → Hp → Prop, N = (fun σ' H' => Hd (W (i + 1) σ' H')) → g (.int (lo + i)) σ H fun σ2 H2 => tb { D with nx := N, ct := N, bk := D.nx } σ2 H2) :
    ∃ W : Nat → Nat → L2.St → Hp → Prop, (∃ m, W 0 m σ H) ∧ ∀ i m σ H, W i m σ H →
      ((Itr lo n).stop i H ∧ D.nx σ H) ∨ ((Itr lo n).go i H ∧ ∃ N : L2.St → Hp → Prop, (∀ σ' H', N σ' H' → ∃ m', m' < m ∧ W (i + 1) m' σ' H') ∧ ∀ x H', (Itr lo n).yld i H x H' → g x σ H' fun σ2 H2 => tb { D with nx := N, ct := N, bk := D.nx } σ2 H2) := by
  refine ⟨fun i m σ H => W i σ H ∧ m = n - i ∧ i ≤ n, ⟨_, h0, rfl, Nat.zero_le _⟩, ?_⟩
  rintro i m σ H ⟨hw, rfl, hi⟩
  by_cases hlt : i < n
  · refine .inr ⟨hlt, fun σ' H' => Hd (W (i + 1) σ' H'), fun σ' H' z => ⟨n - (i + 1), by omega, z.out, rfl, by omega⟩, ?_⟩
    rintro x H' ⟨rfl, rfl⟩
    exact hs D.nx i σ H' hlt hw _ rfl
  · have e : i = n := by omega
    subst e
    exact .inl ⟨Nat.le_refl _, hend σ H hw⟩
theorem for_tupK {K : PySem.W.Frag} {a : Addr} {xs : List V} {g : TG} {tb : TS} {D : Ends} {σ : L2.St} {H : Hp} (W : Nat → L2.St → Hp → Prop) (hst : ∀ (_ : L2.St) H, SqT K H a xs) (h0 : W 0 σ H) (hend : ∀ σ H, W xs.length σ H → D.nx σ H)
    (hs : ∀ (R : L2.St → Hp → Prop) (i : Nat) σ H x, W i σ H → xs[i]? = some x → ∀ N : L2.St → Hp → Prop, N = (fun σ' H' => Hd (W (i + 1) σ' H')) → g x σ H fun σ2 H2 => tb { D with nx := N, ct := N, bk := D.nx } σ2 H2) :
    ∃ W : Nat → Nat → L2.St → Hp → Prop, (∃ m, W 0 m σ H) ∧ ∀ i m σ H, W i m σ H →
      ((Itt K a).stop i H ∧ D.nx σ H) ∨ ((Itt K a).go i H ∧ ∃ N : L2.St → Hp → Prop, (∀ σ' H', N σ' H' → ∃ m', m' < m ∧ W (i + 1) m' σ' H') ∧ ∀ x H', (Itt K a).yld i H x H' → g x σ H' fun σ2 H2 => tb { D with nx := N, ct := N, bk := D.nx } σ2 H2) := by
  refine ⟨fun i m σ H => W i σ H ∧ m = xs.length - i ∧ i ≤ xs.length, ⟨_, h0, rfl, Nat.zero_le _⟩, ?_⟩
  rintro i m σ H ⟨hw, rfl, hi⟩
  have hl := hst σ H
  by_cases hlt : i < xs.length
  · refine .inr ⟨⟨xs, xs[i], hl, List.getElem?_eq_getElem hlt⟩, fun σ' H' => Hd (W (i + 1) σ' H'), fun σ' H' z => ⟨xs.length - (i + 1), by omega, z.out, rfl, by omega⟩, ?_⟩
    rintro x H' ⟨rfl, hx⟩
    exact hs D.nx i σ H' x hw (hx xs hl) _ rfl
  · have e : i = xs.length := by omega
    subst e
    exact .inl ⟨⟨xs, hl, Nat.le_refl _⟩, hend σ H hw⟩
/-! ### all stands but tables, which may grow -/
def noT : HO → Bool
  | .tbl _ => false
  | _ => true
structure SmT (H H' : Hp) : Prop where
  st : ∀ b o, H b = some o → noT o = true → H' b = some o
  tb : ∀ b ps, H b = some (.tbl ps) → ∃ ps', H' b = some (.tbl ps') ∧ (TriplesOk ps.toList → TriplesOk ps'.toList)
theorem Same.t {H H' : Hp} (h : Same H H') : SmT H H' := ⟨fun b o e _ => h b o e, fun b ps e => ⟨ps, h b _ e, id⟩⟩
theorem SmT.refl (H : Hp) : SmT H H := ⟨fun _ _ e _ => e, fun _ ps e => ⟨ps, e, id⟩⟩
theorem SmT.trans {H H1 H2 : Hp} (a : SmT H H1) (b : SmT H1 H2) : SmT H H2 := ⟨fun c o e z => b.st c o (a.st c o e z) z, fun c ps e => by
  obtain ⟨p1, e1, k1⟩ := a.tb c ps e
  obtain ⟨p2, e2, k2⟩ := b.tb c p1 e1
  exact ⟨p2, e2, fun h => k2 (k1 h)⟩⟩
theorem SmT.free {H H' : Hp} (h : SmT H H') {b : Addr} (e : H' b = none) : H b = none := by
  cases z : H b with
  | none => rfl
  | some o =>
    cases o with
    | tbl ps => obtain ⟨p, e1, _⟩ := h.tb b ps z; rw [e1] at e; cases e
    | _ => rw [h.st b _ z rfl] at e; cases e
theorem SmT.new {H H' : Hp} {x : Addr} {o : HO} (h : SmT H H') (hx : H x = none) : SmT H (upd H' x o) := ⟨fun b u e z => by
  rw [upd_ne (ne_of_none e hx)]; exact h.st b u e z, fun b ps e => by
  rw [upd_ne (ne_of_none e hx)]; exact h.tb b ps e⟩
theorem SmT.tab {H H' : Hp} {P : Addr} (h : SmT H H') (t : GxR.TabG H P) : GxR.TabG H' P := by
  obtain ⟨ps, e, k⟩ := t
  obtain ⟨p, e1, k1⟩ := h.tb P ps e
  exact ⟨p, e1, k1 k⟩
theorem SmT.of {H H' : Hp} {P : Addr} (t : GxR.TabG H P) (h : GxR.Tabbed P H H') : SmT H H' := by
  obtain ⟨ps, e, k⟩ := t
  obtain ⟨⟨p, e1, k1⟩, h2⟩ := h
  refine ⟨fun b o eb z => ?_, fun b q eb => ?_⟩
  · have hb : b ≠ P := fun y => by rw [y, e] at eb; cases eb; cases z
    rw [h2 b hb]; exact eb
  · by_cases hb : b = P
    · rw [hb]; exact ⟨p, e1, fun _ => k1⟩
    · exact ⟨q, by rw [h2 b hb]; exact eb, id⟩
end My

namespace My
open PySem PySem.Spec PyProof.Rows L2 SuX
local macro_rules | `(tactic| walk_at "hp") => `(tactic| first | assumption | exact upd_same | (refine Eq.trans (upd_ne (by first | assumption | (apply Ne.symm; assumption))) ?_; walk_at "hp"))
local macro_rules | `(tactic| walk_at "ixl") => `(tactic| (refine' ⟨_, ?xs, _, ?vv, rfl, rfl, SqL.of ?hh, ?aa, ?qq⟩; (case hh => walk_at "hp"); (case aa => rfl)))
local macro_rules | `(tactic| walk_at "setl") => `(tactic| (refine' ⟨_, ?xs, _, ?jj, rfl, rfl, ?hh, ?aa, ?qq⟩; (case hh => walk_at "hp"); (case aa => rfl)))
local macro_rules | `(tactic| walk_at "cond") => `(tactic| first | exact ⟨_, rfl⟩ | exact Nat.le_of_lt (small1000 (Nat.le_of_ble_eq_true rfl)) | decide | omega | (dsimp only; omega) | exact ⟨by decide, by decide⟩ | exact Or.inr ⟨by decide, by decide⟩ | exact Or.inl ⟨by decide, by decide⟩ | exact ⟨by decide, by decide, by decide⟩ | exact ⟨by omega, by omega⟩ | exact ⟨by omega, by omega, by omega⟩ | (simp only [List.length_cons, List.length_nil, List.length_append, List.length_take, List.length_drop]; omega) | (refine ⟨?_, ?_, ?_⟩ <;> first | decide | omega | (simp only [List.length_cons, List.length_nil, List.length_append, List.length_take, List.length_drop, Option.getD_some, Option.getD_none]; omega)))
local macro_rules | `(tactic| walk_at "st") => `(tactic| repeat (first | refine ⟨_, rfl, ?_⟩ | refine ⟨_, _, rfl, rfl, ?_⟩ | walk_at "ixl" | walk_at "setl" | refine ⟨rfl, ?_⟩ | refine Or.inl ⟨_, rfl, ?_⟩ | refine And.intro (by walk_at "cond") ?_))
/-! ### signs of names -/
def LET : List Nat := [97, 98, 99, 100, 101, 102, 103, 104, 105, 106, 107, 108, 109, 110, 111, 112, 113, 114, 115, 116, 117, 118, 119, 120, 121, 122, 65, 66, 67, 68, 69, 70, 71, 72, 73, 74, 75, 76, 77, 78, 79, 80, 81, 82, 83, 84, 85, 86, 87, 88, 89, 90]
def DIG : List Nat := [48, 49, 50, 51, 52, 53, 54, 55, 56, 57]
def wordc (c : Nat) : Bool := decide (c ∈ LET) || (decide (c ∈ DIG) || decide (c = 95))
def partB (l : List Nat) : Bool := !decide (l = []) && l.all wordc
/-- the parts of a name -/
structure WP (ps : List (List Nat)) : Prop where
  ne : ps ≠ []
  ok : ∀ p ∈ ps, partB p = true
  sz : (DN.dot ps).length ≤ 1000
theorem word46 : wordc 46 = false := by decide
theorem partB_gp {p : List Nat} (h : partB p = true) : p ≠ [] ∧ 46 ∉ p := by
  unfold partB at h
  rw [Bool.and_eq_true, Bool.not_eq_true', decide_eq_false_iff_not, List.all_eq_true] at h
  exact ⟨h.1, fun z => by have := h.2 46 z; rw [word46] at this; cases this⟩
theorem WP.gp {ps : List (List Nat)} (h : WP ps) : DN.GP ps := fun p hp => partB_gp (h.ok p hp)
/-- all over the signs of a text -/
theorem allW_str {X : Cx} {P : Addr} {x : Str} {i : Nat} {te : TE} {σ : L2.St} {H : Hp} {Q : VK} {l : List Nat} (f : Nat → Bool) (hi : σ[i]? = some (some (.str (SX.S l)))) (hT : GxR.TabG H P)
    (hq : ∀ H2, GxR.Tabbed P H H2 → Q (.bl (l.all f)) H2) (ht : ∀ (c : Nat) (H2 : Hp) (R : VK), R (.bl (f c)) H2 → te [some (.str (SX.S [c]))] H2 R) : GA.tAllW X P [x] 1 (iStr (tVar i)) (gName 0) te σ H Q := by
  refine ⟨_, hi, SX.S l, rfl, hT, fun H2 tb => ⟨l.length, fun i σ' H' => (∃ o, σ' = [o]) ∧ H' = H2 ∧ (l.take i).all f = true ∧ i ≤ l.length, ⟨⟨_, rfl⟩, rfl, rfl, Nat.zero_le _⟩, ?_⟩⟩
  rintro i σ' H' ⟨⟨o, rfl⟩, rfl, ha, hle⟩
  rcases Nat.lt_or_ge i l.length with h | h
  · refine .inr ⟨h, h, ?_⟩
    rintro v H'' ⟨rfl, c, hc, rfl⟩
    have hc' : l[i]? = some c := by
      have := hc
      rw [← Array.getElem?_toList] at this
      exact this
    refine ht c _ _ ?_
    have e2 : (l.take (i + 1)).all f = f c := by rw [take_snoc hc', List.all_append, ha]; simp
    cases hf : f c with
    | true => exact .inl ⟨rfl, ⟨_, rfl⟩, rfl, e2.trans hf, h⟩
    | false =>
      refine .inr ⟨rfl, ?_⟩
      have := hq _ tb
      have e3 : l.all f = false := by
        rw [← List.take_append_drop (i + 1) l, List.all_append, e2, hf, Bool.false_and]
      rw [e3] at this
      exact this
  · have e : i = l.length := Nat.le_antisymm hle h
    refine .inl ⟨e, h, ?_⟩
    rw [e, List.take_length] at ha
    have := hq _ tb
    rw [ha] at this
    exact this
/-- all over a list whose items all pass -/
theorem allW_listT {X : Cx} {K : PySem.W.Frag} {P a : Addr} {x : Str} {te : TE} {σ : L2.St} {H1 : Hp} {Q : VK} {xs : List V} (hl : H1 a = some (.lst xs)) (hT : GxR.TabG H1 P)
    (hq : ∀ H', SmT H1 H' → Q (.bl true) H') (ht : ∀ v ∈ xs, ∀ (H' : Hp) (R : VK), SmT H1 H' → (∀ H'', SmT H1 H'' → R (.bl true) H'') → te [some v] H' R) :
    ∃ (b : Addr), V.ref a = .ref b ∧ (∃ ys, SqL K H1 b ys) ∧ (GxR.TabG H1 P ∧ ∀ H2, GxR.Tabbed P H1 H2 →
      ∃ (Nn : Nat) (W : Nat → L2.St → Hp → Prop), W 0 (GA.caps X [x] 1 σ) H2 ∧ ∀ i σ' H', W i σ' H' → (i = Nn ∧ (Itl K b).stop i H' ∧ Q (.bl true) H') ∨
        (i < Nn ∧ (Itl K b).go i H' ∧ ∀ v H'', (Itl K b).yld i H' v H'' → gName 0 v σ' H'' fun σ2 H3 => te σ2 H3 fun v H4 => (v = .bl true ∧ W (i + 1) σ2 H4) ∨ (v = .bl false ∧ Q (.bl false) H4))) := by
  refine ⟨a, rfl, ⟨xs, SqL.of hl⟩, hT, fun H2 tb => ⟨xs.length, fun i σ' H' => (∃ o, σ' = [o]) ∧ SmT H1 H' ∧ i ≤ xs.length, ⟨⟨_, rfl⟩, .of hT tb, Nat.zero_le _⟩, ?_⟩⟩
  rintro i σ' H' ⟨⟨o, rfl⟩, sm, hle⟩
  have hl' := sm.st _ _ hl rfl
  rcases Nat.lt_or_ge i xs.length with h | h
  · refine .inr ⟨h, ⟨xs, xs[i], SqL.of hl', List.getElem?_eq_getElem h⟩, ?_⟩
    rintro v H'' ⟨rfl, hv⟩
    have hv' := hv xs (SqL.of hl')
    refine ht v (List.mem_of_getElem? hv') _ _ sm fun H3 sm3 => .inl ⟨rfl, ⟨_, rfl⟩, sm3, h⟩
  · have e : i = xs.length := Nat.le_antisymm hle h
    exact .inl ⟨e, ⟨xs, SqL.of hl', h⟩, hq _ sm⟩
section
variable {P : Program} {w : World} {K : PySem.W.Frag} {mg : Str → Option Value} {base : Heap}
def spWord : Sp := fun vs H Q _ => Hd (∃ c, vs = [.str (SX.S [c])] ∧ Q (.bl (wordc c)) H)
theorem ok_word (T : Txt K mg) : FnOk P w K mg base CX0 1 T.f_is_word_sign T.fd_is_word_sign ["sign"] spWord := by
  refine T.D_is_word_sign.F.ok sc_is_word_sign (fun vs H Q E h => ?_) (fun cdv A outer s H vs Q E hr h => ?_)
  · obtain ⟨c, rfl, _⟩ := h.out
    rfl
  · obtain ⟨c, rfl, k⟩ := h.out
    refine ⟨_, (pss_one (ps_ret (pe_or (pe_cmpR SL.op_inL (pv 0) (C8.pe_gc rfl T.k_LETTERS) rfl) (pe_or (pe_cmpR SL.op_inL (pv 0) (C8.pe_gc rfl T.k_DIGITS) rfl) (pe_one (pe_cmpR SL.op_eqL (pv 0) (SL.pe_strL [95] (by decide +kernel)) (nomark _))))))), ?_⟩
    walk_at "st"
    have e1 : SL.inL [c] LET = decide (c ∈ LET) := rfl
    have e2 : SL.inL [c] DIG = decide (c ∈ DIG) := rfl
    unfold wordc at k
    by_cases h1 : c ∈ LET
    · refine if_true_of (e1.trans (decide_eq_true h1)) ?_
      rw [decide_eq_true h1] at k
      exact k
    · refine if_false_of (e1.trans (decide_eq_false h1)) ?_
      rw [decide_eq_false h1] at k
      walk_at "st"
      by_cases h2 : c ∈ DIG
      · refine if_true_of (e2.trans (decide_eq_true h2)) ?_
        rw [decide_eq_true h2] at k
        exact k
      · refine if_false_of (e2.trans (decide_eq_false h2)) ?_
        rw [decide_eq_false h2] at k
        walk_at "st"
        have e3 : decide ([c] = [95]) = decide (c = 95) := by simp
        rw [e3]
        exact k
def spPart (PP : Addr) : Sp := fun vs H Q _ => Hd (∃ l, vs = [.str (SX.S l)] ∧ GxR.TabG H PP ∧ ∀ H', SmT H H' → Q (.bl (partB l)) H')
theorem ok_part (T : Txt K mg) (TP : GxR.TabB base mg T.cP T.PP) : FnOk P w K mg base CX0 3 T.f_is_part T.fd_is_part ["text"] (spPart T.PP) := by
  have G_is_word_sign : FnOk P w K mg base CX0 1 _ _ _ spWord := ok_word T
  refine T.W_P.ok sc_is_part (fun vs H Q E h => ?_) (fun A outer s H vs Q E hr h => ?_)
  · obtain ⟨l, rfl, _⟩ := h.out
    rfl
  · obtain ⟨l, rfl, hT, k⟩ := h.out
    refine ⟨_, PSs.nox (pss_one (ps_ret (pe_and (pe_cmpR SL.op_neL (pv 0) (SL.pe_strL [] (by decide +kernel)) (nomark _)) (pe_one (GA.pe_allW (N := ["sign"]) (nx := 1) (k := 1) (hr.mono (by first | decide | omega)) rfl T.B.n_all (by decide +kernel) TP rfl (GA.gsc0 rfl rfl rfl (by decide +kernel) (by decide)) (by decide) (pi_str (pv 0)) (fun _ _ _ _ _ _ _ => (pg_name (i := 0) (show (["sign"] : List Str).Nodup by decide +kernel) rfl (Or.inl rfl))) (fun _ _ _ _ _ _ hr => (pe_call G_is_word_sign (hr.mono (by first | decide | omega)) rfl T.D_is_word_sign.g T.D_is_word_sign.F.kp T.D_is_word_sign.b .nil pass0 (pa_cons (pv 0) pa_nil))) (fun _ => rfl)))))), ?_⟩
    walk_at "st"
    unfold partB at k
    by_cases h0 : l = []
    · refine if_false_of (by rw [decide_eq_true h0]; rfl) ?_
      have := k H (SmT.refl H)
      rw [decide_eq_true h0] at this
      exact this
    · refine if_true_of (by rw [decide_eq_false h0]; rfl) ?_
      refine allW_str wordc rfl hT (fun H2 tb => ?_) fun c H2 R hR => ?_
      · have := k H2 (.of hT tb)
        rw [decide_eq_false h0] at this
        exact this
      · walk_at "st"
        exact .a ⟨c, rfl, hR⟩
/-! ### dotted names -/
theorem isi_str {H : Hp} {x : Str} {b : Bool} {T : String} {Q : VK} (h : kitB "str" T = some b) (q : Q (.bl b) H) : rIsi K [.str x, .ty T] H Q := ⟨.str x, .ty T, _, _, b, rfl, .ty T, .base (.str x), kit_ty h, q⟩
def spDotted (PP PD : Addr) : Sp := fun vs H Q _ => Hd (∃ ps, vs = [.str (SX.S (DN.dot ps))] ∧ WP ps ∧ GxR.TabG H PP ∧ GxR.TabG H PD ∧ ∀ H', SmT H H' → Q (.bl true) H')
theorem ok_dotted (T : Txt K mg) (TP : GxR.TabB base mg T.cP T.PP) (TD : GxR.TabB base mg T.cD T.PD) : FnOk P w K mg base CX0 5 T.f_is_dotted T.fd_is_dotted ["thing"] (spDotted T.PP T.PD) := by
  have G_is_part : FnOk P w K mg base CX0 3 _ _ _ (spPart T.PP) := ok_part T TP
  refine T.W_D.ok sc_is_dotted (fun vs H Q E h => ?_) (fun A outer s H vs Q E hr h => ?_)
  · obtain ⟨ps, rfl, _⟩ := h.out
    rfl
  · obtain ⟨ps, rfl, wp, hP, hD, k⟩ := h.out
    refine ⟨_, PSs.nox (pss_one (ps_ret (pe_and (pe_callB call_isi (by rfl) T.B.n_isinstance (by decide +kernel) (pa_cons (pv 0) (pa_cons (pe_bltn (v := .ty "str") (u := .type "str") (by rfl) T.B.n_str (by decide +kernel) rfl) pa_nil))) (pe_one (GA.pe_allW (N := ["part"]) (nx := 1) (k := 3) (hr.mono (by first | decide | omega)) rfl T.B.n_all (by decide +kernel) TD rfl (GA.gsc0 rfl rfl rfl (by decide +kernel) (by decide)) (by decide) (pi_list (pe_bm PySem.F.plainAttrs_str PySem.F.slot_str_split PySem.F.type_str_split OQ.mt_splitD (pv 0) (pa_cons (SL.pe_strL [46] (by decide +kernel)) pa_nil))) (fun _ _ _ _ _ _ _ => (pg_name (i := 0) (show (["part"] : List Str).Nodup by decide +kernel) rfl (Or.inl rfl))) (fun _ _ _ _ _ _ hr => (pe_call G_is_part (hr.mono (by first | decide | omega)) rfl T.D_is_part.g T.D_is_part.F.kp T.D_is_part.b .nil pass0 (pa_cons (pv 0) pa_nil))) (fun _ => rfl)))))), ?_⟩
    walk_at "st"
    refine ⟨.str (SX.S (DN.dot ps)), .ty "str", _, _, true, rfl, .ty "str", .base (.str _), kit_ty (by decide +kernel), ?_⟩
    refine ⟨true, rfl, if_true_of rfl ?_⟩
    walk_at "st"
    refine ⟨wp.ne, wp.gp, Nat.le_trans wp.sz (by decide), fun p hp => ?_⟩
    have sm : SmT H (upd H p (.lst (ps.map fun q => V.str (SX.S q)))) := (SmT.refl H).new hp
    refine allW_listT upd_same (sm.tab hD) (fun H' s => k H' (sm.trans s)) fun v hv H' R s1 k1 => ?_
    obtain ⟨q, hq, rfl⟩ := List.mem_map.mp hv
    walk_at "st"
    refine .a ⟨q, rfl, (sm.trans s1).tab hP, fun H2 s2 => ?_⟩
    rw [wp.ok q hq]
    exact k1 H2 (s1.trans s2)
theorem ok_lname (T : Txt K mg) (TP : GxR.TabB base mg T.cP T.PP) (TD : GxR.TabB base mg T.cD T.PD) : FnOk P w K mg base CX0 6 T.f_is_logger_name T.fd_is_logger_name ["thing"] (spDotted T.PP T.PD) := by
  have G_is_dotted : FnOk P w K mg base CX0 5 _ _ _ (spDotted T.PP T.PD) := ok_dotted T TP TD
  refine T.D_is_logger_name.F.ok sc_is_logger_name (fun vs H Q E h => ?_) (fun cdv A outer s H vs Q E hr h => ?_)
  · obtain ⟨ps, rfl, _⟩ := h.out
    rfl
  · obtain ⟨ps, rfl, wp, hP, hD, k⟩ := h.out
    refine ⟨_, (pss_one (ps_ret (pe_or (pe_cmpR SL.op_eqL (pv 0) (SL.pe_strL [] (by decide +kernel)) (nomark _)) (pe_one (pe_call G_is_dotted (hr.mono (by first | decide | omega)) rfl T.D_is_dotted.g T.D_is_dotted.F.kp T.D_is_dotted.b .nil pass0 (pa_cons (pv 0) pa_nil)))))), ?_⟩
    walk_at "st"
    refine if_false_of (decide_eq_false (DN.dot_ne wp.ne wp.gp)) ?_
    walk_at "st"
    exact .a ⟨ps, rfl, wp, hP, hD, fun H' s1 => k H' s1⟩
end
end My

/-! the tree of loggers: names, parents -/
namespace LTr
open PySem PySem.Spec PyProof.Rows L2 SX
abbrev Nm : Type := List (List Nat)
structure Lg where
  nm : Nm
  a : Addr
  d : Addr
  h : Addr
  f : Addr
  lv : Int
  pp : Bool
  ds : Bool
def names (S : List Lg) : List Nm := S.map (·.nm)
/-- the longest beginning of at most k parts that there is -/
def nk (S : List Nm) (nm : Nm) : Nat → Nat
  | 0 => 0
  | k + 1 => if nm.take (k + 1) ∈ S then k + 1 else nk S nm k
theorem nk_le (S : List Nm) (nm : Nm) : ∀ k, nk S nm k ≤ k
  | 0 => Nat.le_refl _
  | k + 1 => by
    unfold nk
    split
    · exact Nat.le_refl _
    · exact Nat.le_succ_of_le (nk_le S nm k)
theorem nk_mem (S : List Nm) (nm : Nm) : ∀ k, nk S nm k ≠ 0 → nm.take (nk S nm k) ∈ S
  | 0, h => absurd rfl h
  | k + 1, h => by
    unfold nk at h ⊢
    split
    · rename_i z
      exact z
    · rename_i z
      rw [if_neg z] at h
      exact nk_mem S nm k h
theorem nk_max (S : List Nm) (nm : Nm) : ∀ k j, nk S nm k < j → j ≤ k → nm.take j ∉ S
  | 0, j, h1, h2 => absurd (Nat.lt_of_lt_of_le h1 h2) (Nat.lt_irrefl _)
  | k + 1, j, h1, h2 => by
    unfold nk at h1
    split at h1
    · exact absurd (Nat.lt_of_lt_of_le h1 h2) (Nat.lt_irrefl _)
    · rename_i z
      rcases Nat.lt_or_ge k j with q | q
      · rw [show j = k + 1 by omega]
        exact z
      · exact nk_max S nm k j h1 q
theorem nk_eq {S : List Nm} {nm : Nm} {k m : Nat} (h1 : m ≤ k) (h2 : m ≠ 0 → nm.take m ∈ S) (h3 : ∀ j, m < j → j ≤ k → nm.take j ∉ S) : nk S nm k = m := by
  rcases Nat.lt_trichotomy (nk S nm k) m with z | z | z
  · exact absurd (h2 (by omega)) (nk_max S nm k m z h1)
  · exact z
  · exact absurd (nk_mem S nm k (by omega)) (h3 _ z (nk_le S nm k))
/-- the parent's name; [] of the root -/
def parN (S : List Nm) (nm : Nm) : Nm := nm.take (nk S nm (nm.length - 1))
theorem parN_mem {S : List Nm} {nm : Nm} (h : parN S nm ≠ []) : parN S nm ∈ S := by
  refine nk_mem S nm _ fun z => h ?_
  unfold parN
  rw [z, List.take_zero]
theorem take_inj {nm : Nm} {i j : Nat} (hi : i ≤ nm.length) (hj : j ≤ nm.length) (e : nm.take i = nm.take j) : i = j := by
  have := congrArg List.length e
  rw [List.length_take, List.length_take] at this
  omega
open Classical in
/-- one more name -/
theorem parN_add {S : List Nm} {n nm : Nm} (hn : n ∉ S) (h0 : n ≠ []) (hm : nm ≠ []) :
    parN (S ++ [n]) nm = if (∃ r, r ≠ [] ∧ nm = n ++ r) ∧ parN S nm = parN S n then n else parN S nm := by
  have l0 : 0 < n.length := List.length_pos_iff.mpr h0
  have lm : 0 < nm.length := List.length_pos_iff.mpr hm
  have pl := nk_le S nm (nm.length - 1)
  by_cases hp : ∃ r, r ≠ [] ∧ nm = n ++ r
  · obtain ⟨r, hr, e⟩ := hp
    have lr : 0 < r.length := List.length_pos_iff.mpr hr
    have ln : nm.length = n.length + r.length := by rw [e, List.length_append]
    have tk : ∀ j, j ≤ n.length → nm.take j = n.take j := fun j hj => by rw [e, List.take_append_of_le_length hj]
    have tn : nm.take n.length = n := by rw [tk _ (Nat.le_refl _), List.take_length]
    rcases Nat.lt_trichotomy (nk S nm (nm.length - 1)) n.length with z | z | z
    · have e1 : nk S n (n.length - 1) = nk S nm (nm.length - 1) := nk_eq (by omega) (fun h => by
          rw [← tk _ (by omega)]
          exact nk_mem S nm _ h) fun j h1 h2 => by
          rw [← tk _ (by omega)]
          exact nk_max S nm _ j h1 (by omega)
      have e2 : parN S nm = parN S n := by
        unfold parN
        rw [e1, tk _ (by omega)]
      rw [if_pos ⟨⟨r, hr, e⟩, e2⟩]
      have e3 : nk (S ++ [n]) nm (nm.length - 1) = n.length := nk_eq (by omega) (fun _ => by rw [tn]; exact List.mem_append_right _ (List.mem_singleton.mpr rfl)) fun j h1 h2 q => by
        rcases List.mem_append.mp q with q | q
        · exact nk_max S nm _ j (by omega) h2 q
        · have := congrArg List.length (List.mem_singleton.mp q)
          rw [List.length_take] at this
          omega
      unfold parN
      rw [e3, tn]
    · exfalso
      have := nk_mem S nm (nm.length - 1) (by omega)
      rw [z, tn] at this
      exact hn this
    · have ne : parN S nm ≠ parN S n := fun q => by
        have q1 := congrArg List.length q
        unfold parN at q1
        have := nk_le S n (n.length - 1)
        rw [List.length_take, List.length_take] at q1
        omega
      rw [if_neg fun q => ne q.2]
      have e3 : nk (S ++ [n]) nm (nm.length - 1) = nk S nm (nm.length - 1) := nk_eq pl (fun h => List.mem_append_left _ (nk_mem S nm _ h)) fun j h1 h2 q => by
        rcases List.mem_append.mp q with q | q
        · exact nk_max S nm _ j h1 h2 q
        · have := congrArg List.length (List.mem_singleton.mp q)
          rw [List.length_take] at this
          omega
      unfold parN
      rw [e3]
  · rw [if_neg fun q => hp q.1]
    have e3 : nk (S ++ [n]) nm (nm.length - 1) = nk S nm (nm.length - 1) := nk_eq pl (fun h => List.mem_append_left _ (nk_mem S nm _ h)) fun j h1 h2 q => by
      rcases List.mem_append.mp q with q | q
      · exact nk_max S nm _ j h1 h2 q
      · refine hp ⟨nm.drop j, fun z => ?_, ?_⟩
        · have := congrArg List.length z
          rw [List.length_drop] at this
          simp at this
          omega
        · rw [← List.mem_singleton.mp q, List.take_append_drop]
    unfold parN
    rw [e3]
/-! ### loggers by their names -/
def getL (S : List Lg) (nm : Nm) : Option Lg := S.find? fun L => decide (L.nm = nm)
theorem getL_some {S : List Lg} {nm : Nm} {L : Lg} (h : getL S nm = some L) : L ∈ S ∧ L.nm = nm := ⟨List.mem_of_find?_eq_some h, by simpa using List.find?_some h⟩
theorem getL_none {S : List Lg} {nm : Nm} (h : getL S nm = none) : nm ∉ names S := fun z => by
  obtain ⟨L, hL, e⟩ := List.mem_map.mp z
  have := List.find?_eq_none.mp h L hL
  simp [e] at this
theorem getL_mem {S : List Lg} {L : Lg} (nd : (names S).Nodup) (h : L ∈ S) : getL S L.nm = some L := by
  cases q : getL S L.nm with
  | none => exact absurd (List.mem_map_of_mem h) (getL_none q)
  | some M =>
    obtain ⟨h1, h2⟩ := getL_some q
    congr 1
    clear q
    induction S with
    | nil => cases h
    | cons x r ih =>
      have nd' := List.nodup_cons.mp (show (x.nm :: names r).Nodup from nd)
      rcases List.mem_cons.mp h with e1 | h
      · rcases List.mem_cons.mp h1 with e2 | h1
        · rw [e1, e2]
        · rw [← e1, ← h2] at nd'
          exact absurd (List.mem_map_of_mem h1) nd'.1
      · rcases List.mem_cons.mp h1 with e2 | h1
        · rw [← e2, h2] at nd'
          exact absurd (List.mem_map_of_mem h) nd'.1
        · exact ih nd'.2 h h1
theorem getL_isSome {S : List Lg} {nm : Nm} : (getL S nm).isSome = decide (nm ∈ names S) := by
  cases q : getL S nm with
  | none => exact (decide_eq_false (getL_none q)).symm
  | some L =>
    obtain ⟨h1, h2⟩ := getL_some q
    exact (decide_eq_true (by rw [← h2]; exact List.mem_map_of_mem h1)).symm
def adr (rt : Addr) (S : List Lg) (nm : Nm) : Addr := match getL S nm with
  | some L => L.a
  | none => rt
theorem adr_of {rt : Addr} {S : List Lg} {nm : Nm} {L : Lg} (h : getL S nm = some L) : adr rt S nm = L.a := by
  unfold adr
  rw [h]
/-- the parent's object -/
def parA (rt : Addr) (S : List Lg) (nm : Nm) : Addr := adr rt S (parN (names S) nm)
/-- names, addresses -/
structure Wf (rt : Addr) (S : List Lg) : Prop where
  nn : (names S).Nodup
  an : (S.map (·.a)).Nodup
  rn : ∀ L ∈ S, L.a ≠ rt
  ne : ∀ L ∈ S, L.nm ≠ []
theorem Wf.no0 {rt : Addr} {S : List Lg} (w : Wf rt S) : getL S [] = none := by
  cases q : getL S [] with
  | none => rfl
  | some L =>
    obtain ⟨h1, h2⟩ := getL_some q
    exact absurd h2 (w.ne L h1)
theorem Wf.root {rt : Addr} {S : List Lg} (w : Wf rt S) : adr rt S [] = rt := by
  unfold adr
  rw [w.no0]
theorem an_inj : ∀ {S : List Lg}, (S.map (·.a)).Nodup → ∀ {L M : Lg}, L ∈ S → M ∈ S → L.a = M.a → L = M
  | [], _, _, _, h, _, _ => by cases h
  | x :: r, nd, L, M, hL, hM, e => by
    have nd' := List.nodup_cons.mp (show (x.a :: r.map (·.a)).Nodup from nd)
    rcases List.mem_cons.mp hL with e1 | hL
    · rcases List.mem_cons.mp hM with e2 | hM
      · rw [e1, e2]
      · rw [← e1, e] at nd'
        exact absurd (List.mem_map_of_mem hM) nd'.1
    · rcases List.mem_cons.mp hM with e2 | hM
      · rw [← e2, ← e] at nd'
        exact absurd (List.mem_map_of_mem hL) nd'.1
      · exact an_inj nd'.2 hL hM e
/-- names that there are, and the root's: by their objects -/
theorem Wf.adr_inj {rt : Addr} {S : List Lg} (w : Wf rt S) {n m : Nm} (hn : n = [] ∨ n ∈ names S) (hm : m = [] ∨ m ∈ names S) (e : adr rt S n = adr rt S m) : n = m := by
  have at_ : ∀ {k : Nm}, k ∈ names S → ∃ L ∈ S, L.nm = k ∧ adr rt S k = L.a := fun {k} hk => by
    obtain ⟨L, hL, rfl⟩ := List.mem_map.mp hk
    exact ⟨L, hL, rfl, adr_of (getL_mem w.nn hL)⟩
  rcases hn with rfl | hn
  · rcases hm with rfl | hm
    · rfl
    · obtain ⟨L, hL, _, e1⟩ := at_ hm
      rw [w.root, e1] at e
      exact absurd e.symm (w.rn L hL)
  · obtain ⟨L, hL, e2, e1⟩ := at_ hn
    rcases hm with rfl | hm
    · rw [w.root, e1] at e
      exact absurd e (w.rn L hL)
    · obtain ⟨M, hM, e3, e4⟩ := at_ hm
      rw [e1, e4] at e
      rw [← e2, ← e3, an_inj w.an hL hM e]
theorem parN_or (S : List Nm) (nm : Nm) : parN S nm = [] ∨ parN S nm ∈ S := by
  by_cases h : parN S nm = []
  · exact .inl h
  · exact .inr (parN_mem h)
theorem Wf.par_inj {rt : Addr} {S : List Lg} (w : Wf rt S) {n m : Nm} (e : parA rt S n = parA rt S m) : parN (names S) n = parN (names S) m :=
  w.adr_inj (parN_or _ _) (parN_or _ _) e
theorem getL_app {S : List Lg} {N : Lg} {nm : Nm} (h : nm ≠ N.nm) : getL (S ++ [N]) nm = getL S nm := by
  unfold getL
  rw [List.find?_append]
  have : [N].find? (fun L => decide (L.nm = nm)) = none := by simp [Ne.symm h]
  rw [this, Option.or_none]
theorem names_app (S : List Lg) (N : Lg) : names (S ++ [N]) = names S ++ [N.nm] := by
  unfold names
  rw [List.map_append]
  rfl
theorem adr_new {rt : Addr} {S : List Lg} {N : Lg} (h : N.nm ∉ names S) : adr rt (S ++ [N]) N.nm = N.a := by
  have q : getL S N.nm = none := by
    cases q : getL S N.nm with
    | none => rfl
    | some L =>
      obtain ⟨h1, h2⟩ := getL_some q
      exact absurd (by rw [← h2]; exact List.mem_map_of_mem h1) h
  unfold adr getL
  rw [List.find?_append]
  unfold getL at q
  rw [q]
  simp
open Classical in
/-- the parents when one more logger is there -/
theorem Wf.parA_add {rt : Addr} {S : List Lg} (w : Wf rt S) {N : Lg} {nm : Nm} (h : N.nm ∉ names S) (h0 : N.nm ≠ []) (hm : nm ≠ []) :
    parA rt (S ++ [N]) nm = if (∃ r, r ≠ [] ∧ nm = N.nm ++ r) ∧ parA rt S nm = parA rt S N.nm then N.a else parA rt S nm := by
  have e := parN_add (S := names S) h h0 hm
  unfold parA
  rw [names_app, e]
  by_cases c : (∃ r, r ≠ [] ∧ nm = N.nm ++ r) ∧ parN (names S) nm = parN (names S) N.nm
  · rw [if_pos c, if_pos ⟨c.1, by rw [c.2]⟩, adr_new h]
  · rw [if_neg c, if_neg fun q => c ⟨q.1, w.par_inj q.2⟩]
    unfold adr
    rw [getL_app]
    intro z
    rcases parN_or (names S) nm with q | q
    · rw [q] at z
      exact h0 z.symm
    · rw [z] at q
      exact h q
theorem Wf.parA_self {rt : Addr} {S : List Lg} (w : Wf rt S) {N : Lg} (h : N.nm ∉ names S) (h0 : N.nm ≠ []) : parA rt (S ++ [N]) N.nm = parA rt S N.nm := by
  rw [w.parA_add h h0 h0, if_neg]
  rintro ⟨⟨r, hr, e⟩, _⟩
  have := congrArg List.length e
  rw [List.length_append] at this
  have := List.length_pos_iff.mpr hr
  omega
theorem Wf.add {rt : Addr} {S : List Lg} (w : Wf rt S) {N : Lg} (h : N.nm ∉ names S) (h0 : N.nm ≠ []) (h1 : N.a ∉ S.map (·.a)) (h2 : N.a ≠ rt) : Wf rt (S ++ [N]) where
  nn := by
    rw [names_app, List.nodup_append]
    exact ⟨w.nn, List.nodup_cons.mpr ⟨List.not_mem_nil, List.nodup_nil⟩, fun a ha b hb e => h (by rw [← List.mem_singleton.mp hb, ← e]; exact ha)⟩
  an := by
    rw [List.map_append, List.nodup_append]
    exact ⟨w.an, List.nodup_cons.mpr ⟨List.not_mem_nil, List.nodup_nil⟩, fun a ha b hb e => h1 (by rw [← (List.mem_singleton.mp hb : b = N.a), ← e]; exact ha)⟩
  rn := fun L hL => (List.mem_append.mp hL).elim (w.rn L) fun z => by rw [List.mem_singleton.mp z]; exact h2
  ne := fun L hL => (List.mem_append.mp hL).elim (w.ne L) fun z => by rw [List.mem_singleton.mp z]; exact h0
end LTr

namespace SO
open PySem PySem.Spec PyProof.Rows L2
theorem rising_le : ∀ (r : List Str) (p : Str), risingS p r = true → ∀ x ∈ r, ltCps x.cps.toList p.cps.toList = false
  | [], _, _, x, hx => absurd hx List.not_mem_nil
  | y :: r, p, h, x, hx => by
    unfold risingS at h
    rw [Bool.and_eq_true, Bool.not_eq_true'] at h
    rcases List.mem_cons.mp hx with rfl | hx
    · exact h.1
    · have h2 := rising_le r y h.2 x hx
      have h1 := h.1
      rw [ltCps_eq, decide_eq_false_iff_not] at h1 h2 ⊢
      intro z
      have l1 : p.cps.toList ≤ y.cps.toList := h1
      have l2 : y.cps.toList ≤ x.cps.toList := h2
      exact (List.le_trans l1 l2) z
theorem rising_tail {p : Str} {r : List Str} (h : risingS p r = true) : sortedS r = true := by
  cases r with
  | nil => rfl
  | cons y r =>
    unfold risingS at h
    rw [Bool.and_eq_true] at h
    exact h.2
theorem sorted_uniq : ∀ (a b : List Str), a.Perm b → sortedS a = true → sortedS b = true → a = b
  | [], b, h, _, _ => (List.Perm.eq_nil h.symm).symm
  | x :: r, b, h, h1, h2 => by
    cases b with
    | nil => exact absurd h.length_eq (by simp)
    | cons y t =>
      have exy : x = y := by
        have hx : x ∈ y :: t := h.mem_iff.mp List.mem_cons_self
        have hy : y ∈ x :: r := h.mem_iff.mpr List.mem_cons_self
        rcases List.mem_cons.mp hx with e | hx
        · exact e
        · rcases List.mem_cons.mp hy with e | hy
          · exact e.symm
          · have l1 := rising_le t y h2 x hx
            have l2 := rising_le r x h1 y hy
            rw [ltCps_eq, decide_eq_false_iff_not] at l1 l2
            have e : x.cps.toList = y.cps.toList := List.le_antisymm (show x.cps.toList ≤ y.cps.toList from l2) (show y.cps.toList ≤ x.cps.toList from l1)
            have q : x.cps = y.cps := Array.toList_inj.mp e
            cases x; cases y; exact congrArg Str.mk q
      subst exy
      rw [sorted_uniq r t (h.cons_inv) (rising_tail h1) (rising_tail h2)]
theorem sorted_pw : ∀ {l : List Str}, sortedS l = true → l.Pairwise (fun a b => ltCps b.cps.toList a.cps.toList = false)
  | [], _ => List.Pairwise.nil
  | x :: r, h => List.pairwise_cons.mpr ⟨fun y hy => rising_le r x h y hy, sorted_pw (rising_tail h)⟩
theorem sorted_filter {ls : List (List Nat)} {p : List Nat → Bool} (h : sortedS (ls.map SX.S) = true) : sortedS ((ls.filter p).map SX.S) = true :=
  sortedS_of_pairwise _ ((sorted_pw h).sublist (List.Sublist.map _ List.filter_sublist))
theorem nd_of {α β : Type} {f : α → β} (hf : ∀ a b, f a = f b → a = b) : ∀ {l : List α}, l.Nodup → (l.map f).Nodup
  | [], _ => List.nodup_nil
  | a :: r, h => by
    have h' := List.nodup_cons.mp h
    refine List.nodup_cons.mpr ⟨fun z => ?_, nd_of hf h'.2⟩
    obtain ⟨x, hx, e⟩ := List.mem_map.mp z
    exact h'.1 (by rw [← hf _ _ e]; exact hx)
theorem perm_map_inj {α β : Type} [DecidableEq α] [DecidableEq β] {f : α → β} (hf : ∀ a b, f a = f b → a = b) {l r : List α} (h : (l.map f).Perm (r.map f)) : l.Perm r := by
  rw [List.perm_iff_count] at h ⊢
  intro a
  have q : ∀ l : List α, (l.map f).count (f a) = l.count a := fun l => by
    induction l with
    | nil => rfl
    | cons b t ih =>
      rw [List.map_cons, List.count_cons, List.count_cons, ih]
      by_cases e : b = a
      · rw [e]; simp
      · have : f b ≠ f a := fun z => e (hf _ _ z)
        simp [e, this]
  have := h (f a)
  rwa [q, q] at this
theorem perm_S : ∀ {ls : List (List Nat)} {ys : List Str}, ys.Perm (ls.map SX.S) → ∃ ks : List (List Nat), ks.Perm ls ∧ ys = ks.map SX.S := fun {ls ys} h => by
  have q : ∀ y ∈ ys, ∃ k, y = SX.S k := fun y hy => by
    obtain ⟨k, _, e⟩ := List.mem_map.mp (h.mem_iff.mp hy)
    exact ⟨k, e.symm⟩
  obtain ⟨ks, hk⟩ : ∃ ks : List (List Nat), ys = ks.map SX.S := by
    clear h
    induction ys with
    | nil => exact ⟨[], rfl⟩
    | cons y r ih =>
      obtain ⟨k, e⟩ := q y List.mem_cons_self
      obtain ⟨ks, e2⟩ := ih fun z hz => q z (List.mem_cons_of_mem _ hz)
      exact ⟨k :: ks, by rw [e, e2]; rfl⟩
  refine ⟨ks, ?_, hk⟩
  rw [hk] at h
  exact perm_map_inj (fun a b => SX.S_inj) h
end SO

namespace My
open PySem PySem.Spec PyProof.Rows L2 SuX LTr DN
local macro_rules | `(tactic| walk_at "hp") => `(tactic| first | assumption | exact upd_same | (refine Eq.trans (upd_ne (by first | assumption | (apply Ne.symm; assumption))) ?_; walk_at "hp"))
local macro_rules | `(tactic| walk_at "ixl") => `(tactic| (refine' ⟨_, ?xs, _, ?vv, rfl, rfl, SqL.of ?hh, ?aa, ?qq⟩; (case hh => walk_at "hp"); (case aa => rfl)))
local macro_rules | `(tactic| walk_at "setl") => `(tactic| (refine' ⟨_, ?xs, _, ?jj, rfl, rfl, ?hh, ?aa, ?qq⟩; (case hh => walk_at "hp"); (case aa => rfl)))
local macro_rules | `(tactic| walk_at "cond") => `(tactic| first | exact ⟨_, rfl⟩ | exact Nat.le_of_lt (small1000 (Nat.le_of_ble_eq_true rfl)) | decide | omega | (dsimp only; omega) | exact ⟨by decide, by decide⟩ | exact Or.inr ⟨by decide, by decide⟩ | exact Or.inl ⟨by decide, by decide⟩ | exact ⟨by decide, by decide, by decide⟩ | exact ⟨by omega, by omega⟩ | exact ⟨by omega, by omega, by omega⟩ | (simp only [List.length_cons, List.length_nil, List.length_append, List.length_take, List.length_drop]; omega) | (refine ⟨?_, ?_, ?_⟩ <;> first | decide | omega | (simp only [List.length_cons, List.length_nil, List.length_append, List.length_take, List.length_drop, Option.getD_some, Option.getD_none]; omega)))
local macro_rules | `(tactic| walk_at "st") => `(tactic| repeat (first | refine ⟨_, rfl, ?_⟩ | refine ⟨_, _, rfl, rfl, ?_⟩ | walk_at "ixl" | walk_at "setl" | refine ⟨rfl, ?_⟩ | refine Or.inl ⟨_, rfl, ?_⟩ | refine And.intro (by walk_at "cond") ?_))
local macro_rules | `(tactic| walk_at "cls") => `(tactic| first | exact OC.cl (by assumption) | exact (‹Txt _ _›).o_Clock.cl | exact (‹Txt _ _›).o_LevelTable.cl | exact (‹Txt _ _›).o_LogRecord.cl | exact (‹Txt _ _›).o_Filter.cl | exact (‹Txt _ _›).o_Store.cl | exact (‹Txt _ _›).o_Written.cl | exact (‹Txt _ _›).o_Roster.cl | exact (‹Txt _ _›).o_Handler.cl | exact (‹Txt _ _›).o_NullHandler.cl | exact (‹Txt _ _›).o_Logger.cl | exact (‹Txt _ _›).o_LoggerTree.cl | exact (‹Txt _ _›).o_StreamHandler.cl | exact (‹Txt _ _›).o_Yard.cl)
local macro_rules | `(tactic| walk_at "na") => `(tactic| first | (refine na_of (by assumption) ?_; decide) | (refine na_of (‹Txt _ _›).o_Clock ?_; decide) | (refine na_of (‹Txt _ _›).o_LevelTable ?_; decide) | (refine na_of (‹Txt _ _›).o_LogRecord ?_; decide) | (refine na_of (‹Txt _ _›).o_Filter ?_; decide) | (refine na_of (‹Txt _ _›).o_Store ?_; decide) | (refine na_of (‹Txt _ _›).o_Written ?_; decide) | (refine na_of (‹Txt _ _›).o_Roster ?_; decide) | (refine na_of (‹Txt _ _›).o_Handler ?_; decide) | (refine na_of (‹Txt _ _›).o_NullHandler ?_; decide) | (refine na_of (‹Txt _ _›).o_Logger ?_; decide) | (refine na_of (‹Txt _ _›).o_LoggerTree ?_; decide) | (refine na_of (‹Txt _ _›).o_StreamHandler ?_; decide) | (refine na_of (‹Txt _ _›).o_Yard ?_; decide))
local macro_rules | `(tactic| walk_at "fld") => `(tactic| (refine' ⟨_, _, _, _, ?vv, rfl, ?hh, ?cc, ?nn, ?ll, ?qq⟩; (case hh => walk_at "hp"); (case cc => walk_at "cls"); (case nn => walk_at "na"); (case ll => exact rfl)))
local macro_rules | `(tactic| walk_at "sto") => `(tactic| (refine' ⟨_, _, _, _, rfl, ?hh, ?cc, ?nn, ?ll, ?qq⟩; (case hh => walk_at "hp"); (case cc => walk_at "cls"); (case nn => walk_at "na"); (case ll => first | exact Nat.le_of_ble_eq_true rfl | assumption)))
local macro_rules | `(tactic| walk_at "mth") => `(tactic| (refine' ⟨_, _, _, rfl, ?hh, ?ll, ?qq⟩; (case hh => walk_at "hp"); (case ll => exact rfl)))
local macro_rules | `(tactic| walk_at "sx") => `(tactic| repeat (first | refine ⟨_, rfl, ?_⟩ | refine ⟨_, _, rfl, rfl, ?_⟩ | walk_at "ixl" | walk_at "setl" | refine ⟨rfl, ?_⟩ | refine Or.inl ⟨_, rfl, ?_⟩ | walk_at "fld" | walk_at "sto" | walk_at "mth" | refine And.intro (by walk_at "cond") ?_))
/-- the tree's addresses, and the root's words -/
structure TA where
  (tr dtr y lv ck lr nd rt drt rh rf : Addr)
  bar : Int
  rlv : Int
  rpp : Bool
  rds : Bool
def fTrG (A : TA) : List (Str × V) := [("yard", .ref A.y), ("levels", .ref A.lv), ("clock", .ref A.ck), ("last_resort", .ref A.lr), ("barred", .int A.bar), ("named", .ref A.nd), ("root", .ref A.rt)]
def fLgG (t y : Addr) (n : List Nat) (lv : Int) (pp ds : Bool) (h f : Addr) (p : V) : List (Str × V) := [("tree", .ref t), ("yard", .ref y), ("name", .str (SX.S n)), ("level", .int lv), ("propagate", .bl pp), ("disabled", .bl ds), ("handlers", .ref h), ("filters", .ref f), ("parent", p)]
abbrev fLgr (A : TA) (L : Lg) (p : V) : List (Str × V) := fLgG A.tr A.y (dot L.nm) L.lv L.pp L.ds L.h L.f p
theorem dot_take_le : ∀ (ps : Nm) (k : Nat), (dot (ps.take k)).length ≤ (dot ps).length
  | [], k => by simp
  | p :: r, 0 => by rw [List.take_zero]; exact Nat.zero_le _
  | p :: r, k + 1 => by
    rw [List.take_succ_cons]
    by_cases h1 : r = []
    · subst h1; simp
    · rw [dot_cons p h1]
      by_cases h2 : r.take k = []
      · rw [h2, dot_one, List.length_append]; omega
      · rw [dot_cons p h2, List.length_append, List.length_append, List.length_cons, List.length_cons]
        have := dot_take_le r k
        omega
def kvN (S : List Lg) : List (Key × V) := S.map fun L => (Sum.inr (SX.S (dot L.nm)), V.ref L.a)
structure TreeAt {K : PySem.W.Frag} {mg : Str → Option Value} (T : Txt K mg) (H : Hp) (A : TA) (S : List Lg) : Prop where
  tr : H A.tr = some (.ins T.C_LoggerTree A.dtr (fTrG A))
  nd : H A.nd = some (.dK (kvN S))
  rt : H A.rt = some (.ins T.C_Logger A.drt (fLgG A.tr A.y sRoot A.rlv A.rpp A.rds A.rh A.rf .non))
  lg : ∀ L ∈ S, H L.a = some (.ins T.C_Logger L.d (fLgr A L (.ref (parA A.rt S L.nm))))
  wp : ∀ L ∈ S, WP L.nm
  wf : Wf A.rt S
  sz : S.length ≤ 60
theorem kvN_at (S : List Lg) (hS : ∀ L ∈ S, GP L.nm) {nm : Nm} (hn : GP nm) : valV (kvN S) (Sum.inr (SX.S (dot nm)) : Key) = (getL S nm).map fun L => V.ref L.a := by
  induction S with
  | nil => rfl
  | cons L r ih =>
    have ih' := ih fun M hM => hS M (List.mem_cons_of_mem _ hM)
    by_cases h : L.nm = nm
    · have e1 : getL (L :: r) nm = some L := by simp [getL, h]
      rw [e1]
      show valV ((Sum.inr (SX.S (dot L.nm)), V.ref L.a) :: kvN r) _ = _
      rw [h]
      simp [valV]
    · have e1 : getL (L :: r) nm = getL r nm := by simp [getL, h]
      rw [e1, ← ih']
      have ne : (Sum.inr (SX.S (dot L.nm)) : Key) ≠ Sum.inr (SX.S (dot nm)) := fun z => h (dot_inj (hS L List.mem_cons_self) hn (SX.S_inj (Sum.inr.inj z)))
      show valV ((Sum.inr (SX.S (dot L.nm)), V.ref L.a) :: kvN r) _ = _
      simp [valV, ne]
theorem TreeAt.gp {K : PySem.W.Frag} {mg : Str → Option Value} {T : Txt K mg} {H : Hp} {A : TA} {S : List Lg} (t : TreeAt T H A S) : ∀ L ∈ S, GP L.nm := fun L hL => (t.wp L hL).gp
theorem TreeAt.at_ {K : PySem.W.Frag} {mg : Str → Option Value} {T : Txt K mg} {H : Hp} {A : TA} {S : List Lg} (t : TreeAt T H A S) {nm : Nm} (hn : GP nm) : valV (kvN S) (Sum.inr (SX.S (dot nm)) : Key) = (getL S nm).map fun L => V.ref L.a := kvN_at S t.gp hn
theorem TreeAt.same {K : PySem.W.Frag} {mg : Str → Option Value} {T : Txt K mg} {H H' : Hp} {A : TA} {S : List Lg} (t : TreeAt T H A S) (s : SmT H H') : TreeAt T H' A S :=
  ⟨s.st _ _ t.tr rfl, s.st _ _ t.nd rfl, s.st _ _ t.rt rfl, fun L hL => s.st _ _ (t.lg L hL) rfl, t.wp, t.wf, t.sz⟩
section
variable {P : Program} {w : World} {K : PySem.W.Frag} {mg : Str → Option Value} {base : Heap}
/-! ### nearest -/
def spNearest (T : Txt K mg) : Sp := fun vs H Q _ => Hd (∃ (A : TA) (S : List Lg) (nm : Nm), vs = [.ref A.tr, .str (SX.S (dot nm))] ∧ TreeAt T H A S ∧ WP nm ∧ ∀ H', Same H H' → Q (.ref (parA A.rt S nm)) H')
theorem ok_nearest (T : Txt K mg) : FnOk P w K mg base CX0 1 T.a_LoggerTree_nearest T.fd_LoggerTree_nearest ["self", "name"] (spNearest T) := by
  refine T.F_LoggerTree_nearest.ok sc_LoggerTree_nearest (fun vs H Q E h => ?_) (fun cdv A outer s H vs Q E hr h => ?_)
  · obtain ⟨A, S, nm, rfl, _⟩ := h.out
    rfl
  · obtain ⟨A, S, nm, rfl, t, wp, k⟩ := h.out
    have hu := hu_of hr
    refine ⟨_, (pss_cons (ps_set (i := 2) sc_LoggerTree_nearest.nd rfl (by first | exact Or.inl rfl | exact Or.inr rfl) (pe_ix ix_tup (pe_bm PySem.F.plainAttrs_str PySem.F.slot_str_rpartition PySem.F.type_str_rpartition OQ.mt_rpart (pv 1) (pa_cons (SL.pe_strL [46] (by decide +kernel)) pa_nil)) pe_int (fun _ _ => rfl)))
  (pss_cons (ps_while PassesOwn.never (PW.pt (pw_and (pt_cmpR SL.op_neL (pv 2) (SL.pe_strL [] (by decide +kernel)) (nomark _)) (pw_and1 (pt_cmp (pc_dnotin hu (pv 2) (pe_fld (pv 0) rfl))))))
    (pss_one (ps_set (i := 2) sc_LoggerTree_nearest.nd rfl (by first | exact Or.inl rfl | exact Or.inr rfl) (pe_ix ix_tup (pe_bm PySem.F.plainAttrs_str PySem.F.slot_str_rpartition PySem.F.type_str_rpartition OQ.mt_rpart (pv 2) (pa_cons (SL.pe_strL [46] (by decide +kernel)) pa_nil)) pe_int (fun _ _ => rfl)))))
  (pss_one (ps_ret (pe_ifExp (pt_cmpR SL.op_neL (pv 2) (SL.pe_strL [] (by decide +kernel)) (nomark _)) (pe_dget hu (pe_fld (pv 0) rfl) (pv 2) (fun _ _ => rfl)) (pe_fld (pv 0) rfl)))))), ?_⟩
    walk_at "sx"
    refine ⟨wp.ne, wp.gp, Nat.le_trans wp.sz (by decide), fun p a b hp => ?_⟩
    have sm : Same H (upd H p (.tup [.str (SX.S (dot nm.dropLast)), .str a, .str b])) := same_new hp
    refine ⟨p, _, 0, _, rfl, rfl, SqT.of upd_same, rfl, ?_⟩
    generalize upd H p (.tup [.str (SX.S (dot nm.dropLast)), .str a, .str b]) = H1 at sm
    have lm : 0 < nm.length := List.length_pos_iff.mpr wp.ne
    rw [List.dropLast_eq_take]
    refine while_ex (fun m σ H1 => ∃ k, m = k ∧ k ≤ nm.length - 1 ∧ σ = [some (.ref A.tr), some (.str (SX.S (dot nm))), some (.str (SX.S (dot (nm.take k))))] ∧ Same H H1 ∧ nk (names S) nm (nm.length - 1) = nk (names S) nm k)
      (fun σ H1 => σ = [some (.ref A.tr), some (.str (SX.S (dot nm))), some (.str (SX.S (dot (parN (names S) nm))))] ∧ Same H H1) ⟨_, nm.length - 1, rfl, Nat.le_refl _, rfl, sm, rfl⟩ ?_ ?_
    · rintro σ H2 ⟨rfl, sm2⟩
      have htr := sm2 _ _ t.tr
      have hnd := sm2 _ _ t.nd
      walk_at "sx"
      by_cases h0 : parN (names S) nm = []
      · refine if_false_of (by rw [h0]; rfl) ?_
        walk_at "sx"
        have := k H2 sm2
        unfold parA at this
        rw [h0, t.wf.root] at this
        exact this
      · have gpar : GP (parN (names S) nm) := wp.gp.take _
        refine if_true_of (by rw [decide_eq_false (dot_ne h0 gpar)]; rfl) ?_
        walk_at "sx"
        have hm := parN_mem h0
        obtain ⟨L, hL, eL⟩ := List.mem_map.mp hm
        have hg : getL S (parN (names S) nm) = some L := by rw [← eL]; exact getL_mem t.wf.nn hL
        refine ⟨A.nd, .ref L.a, rfl, by have g := DGet.k (k := Sum.inr (SX.S (dot (parN (names S) nm)))) hnd; rw [t.at_ gpar, hg] at g; exact g, ?_⟩
        have := k H2 sm2
        unfold parA at this
        rw [adr_of hg] at this
        exact this
    · rintro R fin m σ H2 ⟨k, rfl, hk, rfl, sm2, ek⟩ NW hNW
      have htr := sm2 _ _ t.tr
      have hnd := sm2 _ _ t.nd
      have gk : GP (nm.take m) := wp.gp.take _
      walk_at "sx"
      by_cases h0 : m = 0
      · refine if_false_of (by rw [h0]; rfl) ?_
        refine if_false_of rfl ?_
        refine fin _ _ ⟨?_, sm2⟩
        have e : parN (names S) nm = nm.take m := by
          unfold parN
          rw [ek, h0]
          rfl
        rw [e]
      · have hne : nm.take m ≠ [] := fun z => by
          have := congrArg List.length z
          rw [List.length_take, List.length_nil] at this
          omega
        refine if_true_of (by rw [decide_eq_false (dot_ne hne gk)]; rfl) ?_
        walk_at "sx"
        refine ⟨A.nd, _, rfl, DGet.k (k := Sum.inr (SX.S (dot (nm.take m)))) hnd, ?_⟩
        rw [t.at_ gk, Option.isSome_map, getL_isSome]
        refine ⟨_, rfl, ?_⟩
        obtain ⟨m, rfl⟩ : ∃ j, m = j + 1 := ⟨m - 1, by omega⟩
        by_cases hin : nm.take (m + 1) ∈ names S
        · refine if_false_of (c := !decide (nm.take (m + 1) ∈ names S)) (by rw [decide_eq_true hin]; rfl) ?_
          refine fin _ _ ⟨?_, sm2⟩
          have e : parN (names S) nm = nm.take (m + 1) := by
            unfold parN
            rw [ek]
            unfold nk
            rw [if_pos hin]
          rw [e]
        · refine if_true_of (c := !decide (nm.take (m + 1) ∈ names S)) (by rw [decide_eq_false hin]; rfl) ⟨NW, by rw [hNW]; exact fun _ _ => Hd.out, ?_⟩
          walk_at "sx"
          refine ⟨?_, fun p a b hp => ?_⟩
          · refine Nat.le_trans (Nat.le_trans ?_ wp.sz) (by decide)
            exact dot_take_le nm (m + 1)
          · walk_at "sx"
            refine ⟨p, _, 0, _, rfl, rfl, SqT.of upd_same, rfl, ?_⟩
            walk_at "sx"
            rw [hNW]
            refine .a ⟨m, Nat.lt_succ_self _, m, rfl, by omega, ?_, same_put sm2 (sm2.free hp), ?_⟩
            · rw [List.dropLast_eq_take, List.length_take, List.take_take, show min (min (m + 1) nm.length - 1) (m + 1) = m by omega]
              rfl
            · rw [ek]
              show nk (names S) nm (m + 1) = _
              conv => lhs; unfold nk
              rw [if_neg hin]
/-! ### the names, the loggers in their order -/
def spLoggers (T : Txt K mg) : Sp := fun vs H Q _ => Hd (∃ (A : TA) (S : List Lg), vs = [.ref A.tr] ∧ TreeAt T H A S ∧ ∀ (ns : List Nm) p, ns.Perm (names S) → sortedS ((ns.map dot).map SX.S) = true → H p = none → Q (.ref p) (upd H p (.lst ((ns.map dot).map fun l => V.str (SX.S l)))))
theorem ok_loggers (T : Txt K mg) : FnOk P w K mg base CX0 1 T.a_LoggerTree_loggers T.fd_LoggerTree_loggers ["self"] (spLoggers T) := by
  refine T.F_LoggerTree_loggers.ok sc_LoggerTree_loggers (fun vs H Q E h => ?_) (fun cdv A outer s H vs Q E hr h => ?_)
  · obtain ⟨A, S, rfl, _⟩ := h.out
    rfl
  · obtain ⟨A, S, rfl, t, kQ⟩ := h.out
    have hu := hu_of hr
    have htr := t.tr
    have hnd := t.nd
    refine ⟨_, (pss_one (ps_ret (pe_callB (call_sortedD rfl) (by rfl) T.B.n_sorted (by decide +kernel) (pa_cons (pe_fld (pv 0) rfl) pa_nil)))), ?_⟩
    walk_at "sx"
    refine ⟨A.nd, kvN S, ((names S).map dot).map SX.S, rfl, .inl hnd, ?_, by have := t.sz; simp [names]; omega, fun ys p hp hs hn => ?_⟩
    · unfold kvN names; rw [List.map_map, List.map_map, List.map_map, List.map_map]; rfl
    obtain ⟨ks, pk, rfl⟩ := SO.perm_S hp
    have q : ∀ k ∈ ks, ∃ n ∈ names S, k = dot n := fun k hk => by
      obtain ⟨n, hn, e⟩ := List.mem_map.mp (pk.mem_iff.mp hk)
      exact ⟨n, hn, e.symm⟩
    obtain ⟨ns, hns, e⟩ : ∃ ns : List Nm, (∀ n ∈ ns, n ∈ names S) ∧ ks = ns.map dot := by
      clear pk hs hp
      induction ks with
      | nil => exact ⟨[], fun _ h => absurd h List.not_mem_nil, rfl⟩
      | cons k r ih =>
        obtain ⟨n, hn, e⟩ := q k List.mem_cons_self
        obtain ⟨ns, h1, e2⟩ := ih fun z hz => q z (List.mem_cons_of_mem _ hz)
        exact ⟨n :: ns, fun m hm => (List.mem_cons.mp hm).elim (fun z => by rw [z]; exact hn) (h1 m), by rw [e, e2]; rfl⟩
    subst e
    have gn : ∀ n ∈ names S, GP n := fun n hn => by
      obtain ⟨L, hL, rfl⟩ := List.mem_map.mp hn
      exact t.gp L hL
    have pn : ns.Perm (names S) := by
      have c1 := pk
      rw [List.perm_iff_count] at c1 ⊢
      intro a
      by_cases ha : GP a
      · have cnt : ∀ l : List Nm, (∀ n ∈ l, GP n) → (l.map dot).count (dot a) = l.count a := fun l hl => by
          induction l with
          | nil => rfl
          | cons b r ih =>
            rw [List.map_cons, List.count_cons, List.count_cons, ih fun n hn => hl n (List.mem_cons_of_mem _ hn)]
            by_cases e : b = a
            · rw [e]; simp
            · have : dot b ≠ dot a := fun z => e (dot_inj (hl b List.mem_cons_self) ha z)
              simp [e, this]
        have := c1 (dot a)
        rwa [cnt _ fun n hn => gn n (hns n hn), cnt _ gn] at this
      · rw [List.count_eq_zero_of_not_mem fun z => ha (gn a (hns a z)), List.count_eq_zero_of_not_mem fun z => ha (gn a z)]
    have := kQ ns p pn hs hn
    rw [show ((ns.map dot).map SX.S).map V.str = (ns.map dot).map (fun l => V.str (SX.S l)) by rw [List.map_map]; rfl]
    exact this
def spMade (T : Txt K mg) : Sp := fun vs H Q _ => Hd (∃ (A : TA) (S : List Lg), vs = [.ref A.tr] ∧ TreeAt T H A S ∧ ∀ H' (ns : List Nm) p, ns.Perm (names S) → sortedS ((ns.map dot).map SX.S) = true → H p = none → Same H H' → H' p = some (.lst (ns.map fun n => V.ref (adr A.rt S n))) → Q (.ref p) H')
theorem ok_made (T : Txt K mg) : FnOk P w K mg base CX0 2 T.a_LoggerTree_made T.fd_LoggerTree_made ["self"] (spMade T) := by
  have G_LoggerTree_loggers : FnOk P w K mg base CX0 1 _ _ _ (spLoggers T) := ok_loggers T
  refine T.F_LoggerTree_made.ok sc_LoggerTree_made (fun vs H Q E h => ?_) (fun cdv A outer s H vs Q E hr h => ?_)
  · obtain ⟨A, S, rfl, _⟩ := h.out
    rfl
  · obtain ⟨A, S, rfl, t, kQ⟩ := h.out
    have hu := hu_of hr
    have htr := t.tr
    have hnd := t.nd
    refine ⟨_, (pss_one (ps_ret (pe_lc (own := [("name", 1)]) (g := gName 1) rfl sc_LoggerTree_made.nd (pi_list (pe_meth0 (pv 0) T.o_LoggerTree.cl T.Me_LoggerTree_loggers G_LoggerTree_loggers (hr.mono (by first | decide | omega)) T.b_LoggerTree_loggers .nil pass0)) (blkOk_by (N := ["self", "name"]) (sc := defScope s_LoggerTree_made) (by decide +kernel)) (fun _ _ _ _ _ => (pg_name (i := 1) sc_LoggerTree_made.nd rfl (by first | exact Or.inl rfl | exact Or.inr rfl))) (fun _ _ _ _ _ => pts_nil) (fun _ _ _ _ _ => (pe_dget hu (pe_fldK (K := K) rfl (pv 0) rfl) (pv 1) (fun _ _ => rfl)))))), ?_⟩
    walk_at "sx"
    refine .a ⟨A, S, rfl, t, fun ns p pn so hp => ?_⟩
    refine ⟨p, rfl, ⟨_, SqL.of upd_same⟩, fun D hD => ?_⟩
    have sm : Same H (upd H p (.lst ((ns.map dot).map fun l => V.str (SX.S l)))) := same_new hp
    have hD0 : H D = none := sm.free hD
    have ln : ns.length = S.length := by rw [pn.length_eq]; exact List.length_map _
    refine lc_map (ns.map fun n => V.ref (adr A.rt S n)) (by simp) upd_same hD (by rw [List.length_map, List.length_map, ln]; exact Nat.le_trans t.sz (by decide)) (fun i x y hx hy H' s1 R N k1 => ?_) fun H' s1 h1 => kQ H' ns D pn so hD0 (sm.trans s1) h1
    obtain ⟨n, hn, rfl⟩ := map_at hy
    obtain ⟨l, hl, rfl⟩ := map_at hx
    obtain ⟨n', hn', rfl⟩ := map_at hl
    obtain rfl : n = n' := Option.some.inj (hn.symm.trans hn')
    have hmem : n ∈ names S := pn.mem_iff.mp (List.mem_of_getElem? hn)
    obtain ⟨L, hL, eL⟩ := List.mem_map.mp hmem
    have hg : getL S n = some L := by rw [← eL]; exact getL_mem t.wf.nn hL
    have htr' := s1 _ _ (sm _ _ htr)
    have hnd' := s1 _ _ (sm _ _ hnd)
    walk_at "sx"
    refine ⟨A.nd, .ref L.a, rfl, by have g := DGet.k (k := Sum.inr (SX.S (dot n))) hnd'; rw [t.at_ (by rw [← eL]; exact t.gp L hL), hg] at g; exact g, ?_⟩
    have := k1 H' (Same.refl _)
    rw [adr_of hg] at this
    exact this
end
end My

namespace My
open PySem PySem.Spec PyProof.Rows L2 SuX LTr DN
local macro_rules | `(tactic| walk_at "hp") => `(tactic| first | assumption | exact upd_same | (refine Eq.trans (upd_ne (by first | assumption | (apply Ne.symm; assumption))) ?_; walk_at "hp"))
local macro_rules | `(tactic| walk_at "ixl") => `(tactic| (refine' ⟨_, ?xs, _, ?vv, rfl, rfl, SqL.of ?hh, ?aa, ?qq⟩; (case hh => walk_at "hp"); (case aa => rfl)))
local macro_rules | `(tactic| walk_at "setl") => `(tactic| (refine' ⟨_, ?xs, _, ?jj, rfl, rfl, ?hh, ?aa, ?qq⟩; (case hh => walk_at "hp"); (case aa => rfl)))
local macro_rules | `(tactic| walk_at "cond") => `(tactic| first | exact ⟨_, rfl⟩ | exact Nat.le_of_lt (small1000 (Nat.le_of_ble_eq_true rfl)) | decide | omega | (dsimp only; omega) | exact ⟨by decide, by decide⟩ | exact Or.inr ⟨by decide, by decide⟩ | exact Or.inl ⟨by decide, by decide⟩ | exact ⟨by decide, by decide, by decide⟩ | exact ⟨by omega, by omega⟩ | exact ⟨by omega, by omega, by omega⟩ | (simp only [List.length_cons, List.length_nil, List.length_append, List.length_take, List.length_drop]; omega) | (refine ⟨?_, ?_, ?_⟩ <;> first | decide | omega | (simp only [List.length_cons, List.length_nil, List.length_append, List.length_take, List.length_drop, Option.getD_some, Option.getD_none]; omega)))
local macro_rules | `(tactic| walk_at "st") => `(tactic| repeat (first | refine ⟨_, rfl, ?_⟩ | refine ⟨_, _, rfl, rfl, ?_⟩ | walk_at "ixl" | walk_at "setl" | refine ⟨rfl, ?_⟩ | refine Or.inl ⟨_, rfl, ?_⟩ | refine And.intro (by walk_at "cond") ?_))
local macro_rules | `(tactic| walk_at "cls") => `(tactic| first | exact OC.cl (by assumption) | exact (‹Txt _ _›).o_Clock.cl | exact (‹Txt _ _›).o_LevelTable.cl | exact (‹Txt _ _›).o_LogRecord.cl | exact (‹Txt _ _›).o_Filter.cl | exact (‹Txt _ _›).o_Store.cl | exact (‹Txt _ _›).o_Written.cl | exact (‹Txt _ _›).o_Roster.cl | exact (‹Txt _ _›).o_Handler.cl | exact (‹Txt _ _›).o_NullHandler.cl | exact (‹Txt _ _›).o_Logger.cl | exact (‹Txt _ _›).o_LoggerTree.cl | exact (‹Txt _ _›).o_StreamHandler.cl | exact (‹Txt _ _›).o_Yard.cl)
local macro_rules | `(tactic| walk_at "na") => `(tactic| first | (refine na_of (by assumption) ?_; decide) | (refine na_of (‹Txt _ _›).o_Clock ?_; decide) | (refine na_of (‹Txt _ _›).o_LevelTable ?_; decide) | (refine na_of (‹Txt _ _›).o_LogRecord ?_; decide) | (refine na_of (‹Txt _ _›).o_Filter ?_; decide) | (refine na_of (‹Txt _ _›).o_Store ?_; decide) | (refine na_of (‹Txt _ _›).o_Written ?_; decide) | (refine na_of (‹Txt _ _›).o_Roster ?_; decide) | (refine na_of (‹Txt _ _›).o_Handler ?_; decide) | (refine na_of (‹Txt _ _›).o_NullHandler ?_; decide) | (refine na_of (‹Txt _ _›).o_Logger ?_; decide) | (refine na_of (‹Txt _ _›).o_LoggerTree ?_; decide) | (refine na_of (‹Txt _ _›).o_StreamHandler ?_; decide) | (refine na_of (‹Txt _ _›).o_Yard ?_; decide))
local macro_rules | `(tactic| walk_at "fld") => `(tactic| (refine' ⟨_, _, _, _, ?vv, rfl, ?hh, ?cc, ?nn, ?ll, ?qq⟩; (case hh => walk_at "hp"); (case cc => walk_at "cls"); (case nn => walk_at "na"); (case ll => exact rfl)))
local macro_rules | `(tactic| walk_at "sto") => `(tactic| (refine' ⟨_, _, _, _, rfl, ?hh, ?cc, ?nn, ?ll, ?qq⟩; (case hh => walk_at "hp"); (case cc => walk_at "cls"); (case nn => walk_at "na"); (case ll => first | exact Nat.le_of_ble_eq_true rfl | assumption)))
local macro_rules | `(tactic| walk_at "mth") => `(tactic| (refine' ⟨_, _, _, rfl, ?hh, ?ll, ?qq⟩; (case hh => walk_at "hp"); (case ll => exact rfl)))
local macro_rules | `(tactic| walk_at "sx") => `(tactic| repeat (first | refine ⟨_, rfl, ?_⟩ | refine ⟨_, _, rfl, rfl, ?_⟩ | walk_at "ixl" | walk_at "setl" | refine ⟨rfl, ?_⟩ | refine Or.inl ⟨_, rfl, ?_⟩ | walk_at "fld" | walk_at "sto" | walk_at "mth" | refine And.intro (by walk_at "cond") ?_))
def newL (nm : Nm) (x d h f : Addr) : Lg := ⟨nm, x, d, h, f, 0, true, false⟩
theorem gate {K : PySem.W.Frag} {mg : Str → Option Value} {T : Txt K mg} {H : Hp} {A : TA} {S : List Lg} (ro : ∃ d fs, H A.rt = some (.ins T.C_Logger d fs)) (lo : ∀ L ∈ S, ∃ d fs, H L.a = some (.ins T.C_Logger d fs)) (n : Nm) : OQ.ObjA K H (adr A.rt S n) := by
  unfold adr
  cases q : getL S n with
  | none =>
    obtain ⟨d, fs, e⟩ := ro
    exact ⟨_, d, fs, e, T.cmp_Logger⟩
  | some L =>
    obtain ⟨d, fs, e⟩ := lo L (getL_some q).1
    exact ⟨_, d, fs, e, T.cmp_Logger⟩
theorem TreeAt.obj {K : PySem.W.Frag} {mg : Str → Option Value} {T : Txt K mg} {H : Hp} {A : TA} {S : List Lg} (t : TreeAt T H A S) (n : Nm) : OQ.ObjA K H (adr A.rt S n) :=
  gate ⟨_, _, t.rt⟩ (fun L hL => ⟨_, _, t.lg L hL⟩) n
theorem TreeAt.nt {K : PySem.W.Frag} {mg : Str → Option Value} {T : Txt K mg} {H : Hp} {A : TA} {S : List Lg} (t : TreeAt T H A S) : A.tr ∉ S.map (·.a) := fun z => by
  obtain ⟨L, hL, e⟩ := List.mem_map.mp z
  have := t.lg L hL
  rw [show L.a = A.tr from e, t.tr] at this
  injection this with this
  injection this with _ _ q
  have := congrArg (fun l => l.head?.map (·.1)) q
  exact absurd (show (some ("yard" : Str)) = some "tree" from this) (by decide)
theorem TreeAt.nn {K : PySem.W.Frag} {mg : Str → Option Value} {T : Txt K mg} {H : Hp} {A : TA} {S : List Lg} (t : TreeAt T H A S) : A.nd ∉ S.map (·.a) := fun z => by
  obtain ⟨L, hL, e⟩ := List.mem_map.mp z
  have := t.lg L hL
  rw [show L.a = A.nd from e, t.nd] at this
  injection this with this
  cases this
theorem TreeAt.nr {K : PySem.W.Frag} {mg : Str → Option Value} {T : Txt K mg} {H : Hp} {A : TA} {S : List Lg} (t : TreeAt T H A S) : A.rt ∉ S.map (·.a) := fun z => by
  obtain ⟨L, hL, e⟩ := List.mem_map.mp z
  exact t.wf.rn L hL e
theorem TreeAt.nw {K : PySem.W.Frag} {mg : Str → Option Value} {T : Txt K mg} {H : Hp} {A : TA} {S : List Lg} (t : TreeAt T H A S) {x : Addr} (hx : H x = none) : x ∉ S.map (·.a) := fun z => by
  obtain ⟨L, hL, e⟩ := List.mem_map.mp z
  have := t.lg L hL
  rw [show L.a = x from e, hx] at this
  cases this
theorem kvN_app (S : List Lg) (L : Lg) : kvN (S ++ [L]) = kvN S ++ [(Sum.inr (SX.S (dot L.nm)), .ref L.a)] := by
  unfold kvN
  rw [List.map_append]
  rfl
theorem take_mem {α : Type} {ns : List α} {i : Nat} {n m : α} (hn : ns[i]? = some n) : m ∈ ns.take (i + 1) ↔ m ∈ ns.take i ∨ m = n := by
  rw [take_snoc hn, List.mem_append, List.mem_singleton]
theorem nd_take {α : Type} {ns : List α} {i : Nat} {n : α} (nd : ns.Nodup) (hn : ns[i]? = some n) : n ∉ ns.take i := fun z => by
  rw [← List.take_append_drop i ns] at nd
  have h2 : n ∈ ns.drop i := List.mem_of_getElem? (i := 0) (by rw [List.getElem?_drop]; exact hn)
  exact (List.nodup_append.mp nd).2.2 n z n h2 rfl
section
variable {P : Program} {w : World} {K : PySem.W.Frag} {mg : Str → Option Value} {base : Heap}
def spGrowT (T : Txt K mg) : Sp := fun vs H Q _ => Hd (∃ (A : TA) (S : List Lg) (nm : Nm), vs = [.ref A.tr, .str (SX.S (dot nm))] ∧ TreeAt T H A S ∧ S.length < 60 ∧ WP nm ∧ nm ∉ names S ∧
  ∀ (H' : Hp) (L : Lg), L.nm = nm → L.lv = 0 → L.pp = true → L.ds = false → TreeAt T H' A (S ++ [L]) → H L.a = none → H' L.h = some (.lst []) → H' L.f = some (.lst []) → H L.h = none → H L.f = none → L.h ≠ L.f → FrS (A.nd :: S.map (·.a)) H H' → Q .non H')
theorem ok_grow (T : Txt K mg) : FnOk P w K mg base CX0 3 T.a_LoggerTree_grow T.fd_LoggerTree_grow ["self", "name"] (spGrowT T) := by
  have G_LoggerTree_nearest : FnOk P w K mg base CX0 1 _ _ _ (spNearest T) := ok_nearest T
  have G_LoggerTree_made : FnOk P w K mg base CX0 2 _ _ _ (spMade T) := ok_made T
  have G_Logger : FnOk P w K mg base CX0 1 _ _ _ (spLogger T.C_Logger K) := ok_logger T
  refine T.F_LoggerTree_grow.ok sc_LoggerTree_grow (fun vs H Q E h => ?_) (fun cdv A outer s H vs Q E hr h => ?_)
  · obtain ⟨A, S, nm, rfl, _⟩ := h.out
    rfl
  · obtain ⟨A, S, nm, rfl, t, lt60, wp, hnew, kQ⟩ := h.out
    have hu := hu_of hr
    have hu64 := hr.units
    refine ⟨_, (pss_cons (ps_set (i := 2) sc_LoggerTree_grow.nd rfl (by first | exact Or.inl rfl | exact Or.inr rfl) (pe_make T.M_Logger G_Logger (hr.mono (by first | decide | omega)) rfl T.g_Logger T.b_Logger_init .nil pass0 (pa_cons (pv 0) (pa_cons (pv 1) (pa_cons (C8.pe_gc rfl T.k_NOTSET) (pa_cons (pe_meth (pv 0) T.o_LoggerTree.cl T.Me_LoggerTree_nearest G_LoggerTree_nearest (hr.mono (by first | decide | omega)) T.b_LoggerTree_nearest .nil pass0 (pa_cons (pv 1) pa_nil)) pa_nil))))))
  (pss_cons (ps_for PassesOwn.never rfl (pi_list (pe_meth0 (pv 0) T.o_LoggerTree.cl T.Me_LoggerTree_made G_LoggerTree_made (hr.mono (by first | decide | omega)) T.b_LoggerTree_made .nil pass0)) (pg_name (i := 3) sc_LoggerTree_grow.nd rfl (by first | exact Or.inl rfl | exact Or.inr rfl))
    (pss_one (ps_if (PW.pt (pw_and (pt_cmpR (OQ.op_eqO hu64) (pe_fld (pv 3) rfl) (pe_fld (pv 2) rfl) (nomark _)) (pw_and1 (pt_val (pe_bm PySem.F.plainAttrs_str PySem.F.slot_str_startswith PySem.F.type_str_startswith OQ.mt_swD (pe_fld (pv 3) rfl) (pa_cons (pe_op SL.op_addL (pv 1) (SL.pe_strL [46] (by decide +kernel))) pa_nil))))))
    (pss_one (ps_fld (pv 3) (pv 2) rfl))
    pss_nil)))
  (pss_one (ps_dput hu (pe_fld (pv 0) rfl) (pv 1) (pv 2) rfl)))), ?_⟩
    have htr := t.tr
    walk_at "sx"
    refine .a ⟨A, S, nm, rfl, t, wp, fun H1 s1 => ?_⟩
    intro x dx hx hdx ndx
    have t1 := t.same (Same.t s1)
    have htr1 := mkH_old (C := T.C_Logger) hx hdx t1.tr
    refine .a ⟨x, dx, A.tr, T.C_LoggerTree, A.dtr, _, _, _, _, _, rfl, upd_same, htr1, T.o_LoggerTree.cl, T.o_LoggerTree.na _ (by decide), rfl, (neN t1.tr hx).symm, fun H2 lh lf h1 h2 h3 h4 h5 h6 h7 => ?_⟩
    have s2 : Same H1 H2 := fun b o e => h7 b o (neN e hx) (mkH_old hx hdx e)
    have t2 := t1.same (Same.t s2)
    have htr2 := t2.tr
    clear htr htr1
    walk_at "sx"
    refine .a ⟨A, S, rfl, t2, fun H3 ns p pn so hp s3 q3 => ?_⟩
    have t3 := t2.same (Same.t s3)
    refine ⟨p, rfl, ⟨_, SqL.of q3⟩, ?_⟩
    refine for_list (xs := ns.map fun n => V.ref (adr A.rt S n)) (fun i σ Hx => ∃ o, σ = [some (.ref A.tr), some (.str (SX.S (dot nm))), some (.ref x), o] ∧ FrS (S.map (·.a)) H3 Hx ∧
      ∀ L ∈ S, Hx L.a = some (.ins T.C_Logger L.d (fLgr A L (.ref (if L.nm ∈ ns.take i then parA A.rt (S ++ [newL nm x dx lh lf]) L.nm else parA A.rt S L.nm))))) ?_ ?_ ?_ ?_
    · rintro i σ Hx ⟨o, rfl, fr, _⟩
      exact fr _ _ (t2.nw hp) q3
    · refine ⟨_, rfl, FrS.refl _ _, fun L hL => ?_⟩
      rw [List.take_zero, if_neg List.not_mem_nil]
      exact t3.lg L hL
    · rintro σ Hx ⟨o, rfl, fr, hl⟩
      have htrx := fr _ _ t3.nt t3.tr
      have hndx := fr _ _ t3.nn t3.nd
      walk_at "sx"
      have hg0 : getL S nm = none := by
        cases q : getL S nm with
        | none => rfl
        | some L => exact absurd (by rw [← (getL_some q).2]; exact List.mem_map_of_mem (getL_some q).1) hnew
      refine ⟨A.nd, _, rfl, DPut.k (k := Sum.inr (SX.S (dot nm))) hndx (by unfold kvN; rw [List.length_map]; exact Nat.lt_of_le_of_lt t.sz (by decide)), ?_⟩
      rw [putK_new _ (by rw [t.at_ wp.gp, hg0]; rfl), show (Sum.inr (SX.S (dot nm)), V.ref x) = ((Sum.inr (SX.S (dot (newL nm x dx lh lf).nm)) : Key), V.ref (newL nm x dx lh lf).a) from rfl, ← kvN_app]
      have nax := t1.nw hx
      have keep : ∀ b u, b ∉ S.map (·.a) → H2 b = some u → b ≠ A.nd → upd Hx A.nd (.dK (kvN (S ++ [newL nm x dx lh lf]))) b = some u := fun b u h1 h2 h3 => by
        rw [upd_ne h3]
        exact fr _ _ h1 (s3 _ _ h2)
      have ndr : A.nd ≠ A.tr := fun z => by have := t.tr; rw [← z, t.nd] at this; cases this
      have ndt : A.nd ≠ A.rt := fun z => by have := t.rt; rw [← z, t.nd] at this; cases this
      have lm : ∀ M ∈ S, M.nm ∈ ns.take (ns.map fun n => V.ref (adr A.rt S n)).length := fun M hM => by
        rw [List.length_map, List.take_length]
        exact pn.mem_iff.mpr (List.mem_map_of_mem hM)
      have lhx := mkH_none h4
      have lfx := mkH_none h5
      refine kQ _ (newL nm x dx lh lf) rfl rfl rfl rfl ⟨keep _ _ t3.nt t2.tr ndr.symm, upd_same, keep _ _ t3.nr t2.rt ndt.symm, fun M hM => ?_, fun M hM => ?_, t.wf.add hnew wp.ne nax (neN t1.rt hx).symm, by rw [List.length_append]; exact lt60⟩ ?_ ?_ ?_ ?_ ?_ h6 ?_
      · rcases List.mem_append.mp hM with hM | hM
        · rw [upd_ne (fun z => t.nn (by rw [← z]; exact List.mem_map_of_mem hM)), hl M hM, if_pos (lm M hM)]
        · obtain rfl := List.mem_singleton.mp hM
          have := t.wf.parA_self (N := newL nm x dx lh lf) hnew wp.ne
          rw [this]
          exact keep _ _ nax h1 (neN t1.nd hx).symm
      · exact (List.mem_append.mp hM).elim (t.wp M) fun z => by rw [List.mem_singleton.mp z]; exact wp
      · exact Same.free s1 hx
      · exact keep _ _ (t1.nw lhx.2.2) h2 (neN t1.nd lhx.2.2).symm
      · exact keep _ _ (t1.nw lfx.2.2) h3 (neN t1.nd lfx.2.2).symm
      · exact Same.free s1 lhx.2.2
      · exact Same.free s1 lfx.2.2
      · intro b u hb e
        rw [upd_ne fun z => hb (by rw [z]; exact List.mem_cons_self)]
        exact fr _ _ (fun z => hb (List.mem_cons_of_mem _ z)) (s3 _ _ (s2 _ _ (s1 _ _ e)))
    · rintro R i σ Hx v ⟨o, rfl, fr, hl⟩ hv N hN
      obtain ⟨n, hn, rfl⟩ := map_at hv
      have hmem : n ∈ names S := pn.mem_iff.mp (List.mem_of_getElem? hn)
      obtain ⟨L, hL, rfl⟩ := List.mem_map.mp hmem
      have hg := getL_mem t.wf.nn hL
      rw [adr_of hg]
      have eL := hl L hL
      rw [if_neg (nd_take (pn.nodup_iff.mpr t.wf.nn) hn)] at eL
      have hxx := fr _ _ (t1.nw hx) (s3 _ _ h1)
      have oo : ∀ n, OQ.ObjA K Hx (adr A.rt S n) := gate ⟨_, _, fr _ _ t3.nr t3.rt⟩ fun M hM => ⟨_, _, hl M hM⟩
      have gL := t.gp L hL
      have neL := t.wf.ne L hL
      have padd := t.wf.parA_add (N := newL nm x dx lh lf) hnew wp.ne neL
      have fin : ∀ Hy pr, FrS (S.map (·.a)) H3 Hy → Hy L.a = some (.ins T.C_Logger L.d (fLgr A L (.ref pr))) → pr = parA A.rt (S ++ [newL nm x dx lh lf]) L.nm → (∀ b, b ≠ L.a → Hy b = Hx b) →
          N [some (.ref A.tr), some (.str (SX.S (dot nm))), some (.ref x), some (.ref L.a)] Hy := fun Hy pr f1 f2 f3 f4 => by
        rw [hN]
        refine .a ⟨_, rfl, f1, fun M hM => ?_⟩
        by_cases e : M.nm = L.nm
        · obtain rfl : M = L := by
            have g2 := getL_mem t.wf.nn hM
            rw [e, hg] at g2
            exact (Option.some.inj g2).symm
          rw [if_pos ((take_mem hn).mpr (.inr rfl)), ← f3]
          exact f2
        · have ne : M.a ≠ L.a := fun z => e (by rw [an_inj t.wf.an hM hL z])
          rw [f4 _ ne, hl M hM]
          have : (M.nm ∈ ns.take (i + 1)) = (M.nm ∈ ns.take i) := propext ((take_mem hn).trans ⟨fun h => h.resolve_right e, .inl⟩)
          simp only [this]
      walk_at "sx"
      refine ⟨oo _, oo _, ?_⟩
      by_cases c1 : parA A.rt S L.nm = parA A.rt S nm
      · refine ⟨true, by rw [decide_eq_true c1], if_true_of rfl ?_⟩
        walk_at "sx"
        refine ⟨by have h1 := wp.sz; simp only [List.length_cons, List.length_nil]; omega, ?_⟩
        refine ⟨L.nm, nm, rfl, rfl, neL, wp.ne, gL, wp.gp, fun b hb => ?_⟩
        refine ⟨b, rfl, ?_⟩
        cases hb1 : b with
        | false =>
          refine if_false_of rfl ?_
          refine fin _ _ fr eL ?_ fun _ _ => rfl
          rw [padd, if_neg fun z => ?_]
          rw [hb.mpr z.1] at hb1
          cases hb1
        | true =>
          refine if_true_of rfl ?_
          walk_at "sx"
          refine fin _ x ?_ upd_same ?_ fun _ h => upd_ne h
          · exact fr.put (List.mem_map_of_mem hL)
          · rw [padd, if_pos ⟨hb.mp hb1, c1⟩]
            rfl
      · refine ⟨false, by rw [decide_eq_false c1], if_false_of rfl (if_false_of rfl ?_)⟩
        refine fin _ _ fr eL ?_ fun _ _ => rfl
        rw [padd, if_neg fun z => c1 z.2]
end
end My

namespace My
open PySem PySem.Spec PyProof.Rows L2 SuX LTr DN
local macro_rules | `(tactic| walk_at "hp") => `(tactic| first | assumption | exact upd_same | (refine Eq.trans (upd_ne (by first | assumption | (apply Ne.symm; assumption))) ?_; walk_at "hp"))
local macro_rules | `(tactic| walk_at "ixl") => `(tactic| (refine' ⟨_, ?xs, _, ?vv, rfl, rfl, SqL.of ?hh, ?aa, ?qq⟩; (case hh => walk_at "hp"); (case aa => rfl)))
local macro_rules | `(tactic| walk_at "setl") => `(tactic| (refine' ⟨_, ?xs, _, ?jj, rfl, rfl, ?hh, ?aa, ?qq⟩; (case hh => walk_at "hp"); (case aa => rfl)))
local macro_rules | `(tactic| walk_at "cond") => `(tactic| first | exact ⟨_, rfl⟩ | exact Nat.le_of_lt (small1000 (Nat.le_of_ble_eq_true rfl)) | decide | omega | (dsimp only; omega) | exact ⟨by decide, by decide⟩ | exact Or.inr ⟨by decide, by decide⟩ | exact Or.inl ⟨by decide, by decide⟩ | exact ⟨by decide, by decide, by decide⟩ | exact ⟨by omega, by omega⟩ | exact ⟨by omega, by omega, by omega⟩ | (simp only [List.length_cons, List.length_nil, List.length_append, List.length_take, List.length_drop]; omega) | (refine ⟨?_, ?_, ?_⟩ <;> first | decide | omega | (simp only [List.length_cons, List.length_nil, List.length_append, List.length_take, List.length_drop, Option.getD_some, Option.getD_none]; omega)))
local macro_rules | `(tactic| walk_at "st") => `(tactic| repeat (first | refine ⟨_, rfl, ?_⟩ | refine ⟨_, _, rfl, rfl, ?_⟩ | walk_at "ixl" | walk_at "setl" | refine ⟨rfl, ?_⟩ | refine Or.inl ⟨_, rfl, ?_⟩ | refine And.intro (by walk_at "cond") ?_))
local macro_rules | `(tactic| walk_at "cls") => `(tactic| first | exact OC.cl (by assumption) | exact (‹Txt _ _›).o_Clock.cl | exact (‹Txt _ _›).o_LevelTable.cl | exact (‹Txt _ _›).o_LogRecord.cl | exact (‹Txt _ _›).o_Filter.cl | exact (‹Txt _ _›).o_Store.cl | exact (‹Txt _ _›).o_Written.cl | exact (‹Txt _ _›).o_Roster.cl | exact (‹Txt _ _›).o_Handler.cl | exact (‹Txt _ _›).o_NullHandler.cl | exact (‹Txt _ _›).o_Logger.cl | exact (‹Txt _ _›).o_LoggerTree.cl | exact (‹Txt _ _›).o_StreamHandler.cl | exact (‹Txt _ _›).o_Yard.cl)
local macro_rules | `(tactic| walk_at "na") => `(tactic| first | (refine na_of (by assumption) ?_; decide) | (refine na_of (‹Txt _ _›).o_Clock ?_; decide) | (refine na_of (‹Txt _ _›).o_LevelTable ?_; decide) | (refine na_of (‹Txt _ _›).o_LogRecord ?_; decide) | (refine na_of (‹Txt _ _›).o_Filter ?_; decide) | (refine na_of (‹Txt _ _›).o_Store ?_; decide) | (refine na_of (‹Txt _ _›).o_Written ?_; decide) | (refine na_of (‹Txt _ _›).o_Roster ?_; decide) | (refine na_of (‹Txt _ _›).o_Handler ?_; decide) | (refine na_of (‹Txt _ _›).o_NullHandler ?_; decide) | (refine na_of (‹Txt _ _›).o_Logger ?_; decide) | (refine na_of (‹Txt _ _›).o_LoggerTree ?_; decide) | (refine na_of (‹Txt _ _›).o_StreamHandler ?_; decide) | (refine na_of (‹Txt _ _›).o_Yard ?_; decide))
local macro_rules | `(tactic| walk_at "fld") => `(tactic| (refine' ⟨_, _, _, _, ?vv, rfl, ?hh, ?cc, ?nn, ?ll, ?qq⟩; (case hh => walk_at "hp"); (case cc => walk_at "cls"); (case nn => walk_at "na"); (case ll => exact rfl)))
local macro_rules | `(tactic| walk_at "sto") => `(tactic| (refine' ⟨_, _, _, _, rfl, ?hh, ?cc, ?nn, ?ll, ?qq⟩; (case hh => walk_at "hp"); (case cc => walk_at "cls"); (case nn => walk_at "na"); (case ll => first | exact Nat.le_of_ble_eq_true rfl | assumption)))
local macro_rules | `(tactic| walk_at "mth") => `(tactic| (refine' ⟨_, _, _, rfl, ?hh, ?ll, ?qq⟩; (case hh => walk_at "hp"); (case ll => exact rfl)))
local macro_rules | `(tactic| walk_at "sx") => `(tactic| repeat (first | refine ⟨_, rfl, ?_⟩ | refine ⟨_, _, rfl, rfl, ?_⟩ | walk_at "ixl" | walk_at "setl" | refine ⟨rfl, ?_⟩ | refine Or.inl ⟨_, rfl, ?_⟩ | walk_at "fld" | walk_at "sto" | walk_at "mth" | refine And.intro (by walk_at "cond") ?_))
/-- all stands but what is named; tables may grow -/
structure FrT (S : List Addr) (H H' : Hp) : Prop where
  st : ∀ b o, b ∉ S → H b = some o → noT o = true → H' b = some o
  tb : ∀ b ps, H b = some (.tbl ps) → ∃ ps', H' b = some (.tbl ps') ∧ (TriplesOk ps.toList → TriplesOk ps'.toList)
theorem SmT.fr {S : List Addr} {H H' : Hp} (s : SmT H H') : FrT S H H' := ⟨fun b o _ e z => s.st b o e z, s.tb⟩
theorem FrT.trans {S : List Addr} {H H1 H2 : Hp} (a : FrT S H H1) (b : FrT S H1 H2) : FrT S H H2 := ⟨fun c o n e z => b.st c o n (a.st c o n e z) z, fun c ps e => by
  obtain ⟨p1, e1, k1⟩ := a.tb c ps e
  obtain ⟨p2, e2, k2⟩ := b.tb c p1 e1
  exact ⟨p2, e2, fun h => k2 (k1 h)⟩⟩
theorem FrT.mono {S S' : List Addr} {H H' : Hp} (a : FrT S H H') (h : ∀ b ∈ S, b ∈ S' ∨ H b = none) : FrT S' H H' := ⟨fun c u n e z => a.st c u (fun z => (h c z).elim n fun q => by rw [q] at e; cases e) e z, a.tb⟩
theorem FrT.free {S : List Addr} {H H' : Hp} (h : FrT S H H') (hs : ∀ b ∈ S, H b ≠ none → H' b ≠ none) {b : Addr} (e : H' b = none) : H b = none := by
  cases z : H b with
  | none => rfl
  | some o =>
    by_cases m : b ∈ S
    · exact absurd e (hs b m (by rw [z]; simp))
    · cases o with
      | tbl ps => obtain ⟨p, e1, _⟩ := h.tb b ps z; rw [e1] at e; cases e
      | _ => rw [h.st b _ m z rfl] at e; cases e
theorem FrT.tab {S : List Addr} {H H' : Hp} {P : Addr} (h : FrT S H H') (t : GxR.TabG H P) : GxR.TabG H' P := by
  obtain ⟨ps, e, k⟩ := t
  obtain ⟨p, e1, k1⟩ := h.tb P ps e
  exact ⟨p, e1, k1 k⟩
theorem FrS.t {S : List Addr} {H H' : Hp} (h : FrS S H H') (n : ∀ b ∈ S, ∀ ps, H b ≠ some (.tbl ps)) : FrT S H H' := ⟨fun b o m e _ => h b o m e, fun b ps e => ⟨ps, h b _ (fun z => n b z ps e) e, id⟩⟩
theorem TreeAt.ntb {K : PySem.W.Frag} {mg : Str → Option Value} {T : Txt K mg} {H : Hp} {A : TA} {S : List Lg} (t : TreeAt T H A S) : ∀ b ∈ A.nd :: S.map (·.a), ∀ ps, H b ≠ some (.tbl ps) := fun b hb ps e => by
  rcases List.mem_cons.mp hb with rfl | hb
  · rw [t.nd] at e; cases e
  · obtain ⟨L, hL, rfl⟩ := List.mem_map.mp hb
    rw [t.lg L hL] at e; cases e
/-- a logger made anew -/
structure NewL (H H' : Hp) (nm : Nm) (L : Lg) : Prop where
  nm : L.nm = nm
  lv : L.lv = 0
  pp : L.pp = true
  ds : L.ds = false
  a0 : H L.a = none
  hh : H' L.h = some (.lst [])
  hf : H' L.f = some (.lst [])
  h0 : H L.h = none
  f0 : H L.f = none
  ne : L.h ≠ L.f
theorem getL_not {S : List Lg} {nm : Nm} (h : nm ∉ names S) : getL S nm = none := by
  cases q : getL S nm with
  | none => rfl
  | some L => exact absurd (by rw [← (getL_some q).2]; exact List.mem_map_of_mem (getL_some q).1) h
theorem TreeAt.get {K : PySem.W.Frag} {mg : Str → Option Value} {T : Txt K mg} {H : Hp} {A : TA} {S : List Lg} (t : TreeAt T H A S) {nm : Nm} (g : GP nm) (h : nm ∈ names S) : DGet H A.nd (kV (Sum.inr (SX.S (dot nm)))) (some (.ref (adr A.rt S nm))) := by
  have q := DGet.k (k := Sum.inr (SX.S (dot nm))) t.nd
  have e := getL_isSome (S := S) (nm := nm)
  rw [decide_eq_true h] at e
  obtain ⟨L, eL⟩ := Option.isSome_iff_exists.mp e
  rw [t.at_ g, eL] at q
  rw [adr_of eL]
  exact q
section
variable {P : Program} {w : World} {K : PySem.W.Frag} {mg : Str → Option Value} {base : Heap}
def GotL {K : PySem.W.Frag} {mg : Str → Option Value} (T : Txt K mg) (H : Hp) (A : TA) (S : List Lg) (nm : Nm) (Q : VK) : Prop :=
  ∀ H' S', TreeAt T H' A S' → (S' = S ∧ SmT H H' ∨ nm ∉ names S ∧ FrT (A.nd :: S.map (·.a)) H H' ∧ ∃ L, S' = S ++ [L] ∧ NewL H H' nm L) → nm ∈ names S' → Q (.ref (adr A.rt S' nm)) H'
def spGet (T : Txt K mg) : Sp := fun vs H Q _ => Hd (∃ (A : TA) (S : List Lg) (nm : Nm), vs = [.ref A.tr, .str (SX.S (dot nm))] ∧ TreeAt T H A S ∧ S.length < 60 ∧ WP nm ∧ dot nm ≠ sRoot ∧ GxR.TabG H T.PP ∧ GxR.TabG H T.PD ∧ GotL T H A S nm Q)
theorem not_root {nm : Nm} (wp : WP nm) (nr : dot nm ≠ sRoot) : inV (.str (SX.S (dot nm))) [V.str (SX.S []), V.str (SX.S sRoot)] = false := by
  have h1 : SX.S (dot nm) ≠ SX.S [] := fun z => dot_ne wp.ne wp.gp (SX.S_inj z)
  have h2 : SX.S (dot nm) ≠ SX.S sRoot := fun z => nr (SX.S_inj z)
  unfold inV
  rw [List.any_cons, List.any_cons, List.any_nil]
  show ((SX.S [] == SX.S (dot nm)) || ((SX.S sRoot == SX.S (dot nm)) || false)) = false
  rw [beq_eq_false_iff_ne.mpr h1.symm, beq_eq_false_iff_ne.mpr h2.symm]
  rfl
theorem ok_get (T : Txt K mg) (TP : GxR.TabB base mg T.cP T.PP) (TD : GxR.TabB base mg T.cD T.PD) : FnOk P w K mg base (L2.CX P w) 7 T.a_LoggerTree_getLogger T.fd_LoggerTree_getLogger ["self", "name"] (spGet T) := by
  have G_LoggerTree_grow : FnOk P w K mg base CX0 3 _ _ _ (spGrowT T) := ok_grow T
  have G_is_logger_name : FnOk P w K mg base CX0 6 _ _ _ (spDotted T.PP T.PD) := ok_lname T TP TD
  refine T.F_LoggerTree_getLogger.ok sc_LoggerTree_getLogger (fun vs H Q E h => ?_) (fun cdv A outer s H vs Q E hr h => ?_)
  · obtain ⟨A, S, nm, rfl, _⟩ := h.out
    rfl
  · obtain ⟨A, S, nm, rfl, t, lt60, wp, nr, tP, tD, kQ⟩ := h.out
    have hu := hu_of hr
    have hu64 := hr.units
    refine ⟨_, (pss_cons (ps_if (pt_not (pt_val (pe_call G_is_logger_name (hr.mono (by first | decide | omega)) rfl T.D_is_logger_name.g T.D_is_logger_name.F.kp T.D_is_logger_name.b .nil pass0 (pa_cons (pv 1) pa_nil))))
    (pss_one (ps_raise rfl (takes_of rfl rfl rfl rfl) (pmk_err T.E_BadName hr (pa_cons (pv 1) pa_nil) rfl)))
    pss_nil)
  (pss_cons (ps_if (pt_cmpR op_in_seq (pv 1) (C8.pe_gc rfl T.k_ROOT_NAMES) rfl)
    (pss_one (ps_ret (pe_fld (pv 0) rfl)))
    pss_nil)
  (pss_cons (ps_if (pt_cmp (pc_dnotin hu (pv 1) (pe_fld (pv 0) rfl)))
    (pss_one (ps_expr (pe_meth (pv 0) T.o_LoggerTree.cl T.Me_LoggerTree_grow G_LoggerTree_grow (hr.mono (by first | decide | omega)) T.b_LoggerTree_grow .nil pass0 (pa_cons (pv 1) pa_nil))))
    pss_nil)
  (pss_one (ps_ret (pe_dget hu (pe_fld (pv 0) rfl) (pv 1) (fun _ _ => rfl))))))), ?_⟩
    walk_at "sx"
    refine .a ⟨nm, rfl, wp, tP, tD, fun H1 s1 => ?_⟩
    refine ⟨true, rfl, if_false_of rfl ?_⟩
    have t1 := t.same s1
    have htr1 := t1.tr
    have hnd1 := t1.nd
    walk_at "sx"
    refine ⟨T.aRN, _, rfl, .inr (T.t_ROOT_NAMES _), rfl, rfl, ?_⟩
    refine ⟨_, rfl, if_false_of (not_root wp nr) ?_⟩
    walk_at "sx"
    refine ⟨A.nd, _, rfl, DGet.k (k := Sum.inr (SX.S (dot nm))) hnd1, ?_⟩
    rw [t1.at_ wp.gp, Option.isSome_map, getL_isSome]
    refine ⟨_, rfl, ?_⟩
    by_cases hin : nm ∈ names S
    · refine if_false_of (c := !decide (nm ∈ names S)) (by rw [decide_eq_true hin]; rfl) ?_
      walk_at "sx"
      exact ⟨A.nd, _, rfl, t1.get wp.gp hin, kQ H1 S t1 (.inl ⟨rfl, s1⟩) hin⟩
    · refine if_true_of (c := !decide (nm ∈ names S)) (by rw [decide_eq_false hin]; rfl) ?_
      walk_at "sx"
      refine .a ⟨A, S, nm, rfl, t1, lt60, wp, hin, fun H2 L e1 e2 e3 e4 t2 e5 e6 e7 e8 e9 e10 fr => ?_⟩
      have htr2 := t2.tr
      have hm : nm ∈ names (S ++ [L]) := by rw [names_app, e1]; exact List.mem_append_right _ List.mem_cons_self
      walk_at "sx"
      exact ⟨A.nd, _, rfl, t2.get wp.gp hm, kQ H2 _ t2 (.inr ⟨hin, s1.fr.trans (fr.t t1.ntb), L, rfl, e1, e2, e3, e4, s1.free e5, e6, e7, s1.free e8, s1.free e9, e10⟩) hm⟩
def spGetY (T : Txt K mg) : Sp := fun vs H Q _ => Hd (∃ (A : TA) (S : List Lg) (nm : Nm) (dy : Addr) (fy : List (Str × V)), vs = [.ref A.y, .str (SX.S (dot nm))] ∧ H A.y = some (.ins T.C_Yard dy fy) ∧ fy.lookup ("tree" : Str) = some (.ref A.tr) ∧ TreeAt T H A S ∧ S.length < 60 ∧ WP nm ∧ dot nm ≠ sRoot ∧ GxR.TabG H T.PP ∧ GxR.TabG H T.PD ∧ GotL T H A S nm Q)
theorem ok_getY (T : Txt K mg) (TP : GxR.TabB base mg T.cP T.PP) (TD : GxR.TabB base mg T.cD T.PD) : FnOk P w K mg base (L2.CX P w) 8 T.a_Yard_getLogger T.fd_Yard_getLogger ["self", "name"] (spGetY T) := by
  have G_LoggerTree_getLogger : FnOk P w K mg base (L2.CX P w) 7 _ _ _ (spGet T) := ok_get T TP TD
  refine T.F_Yard_getLogger.ok sc_Yard_getLogger (fun vs H Q E h => ?_) (fun cdv A outer s H vs Q E hr h => ?_)
  · obtain ⟨A, S, nm, dy, fy, rfl, _⟩ := h.out
    rfl
  · obtain ⟨A, S, nm, dy, fy, rfl, hy, lt, t, lt60, wp, nr, tP, tD, kQ⟩ := h.out
    have hu := hu_of hr
    have hu64 := hr.units
    refine ⟨_, (pss_one (ps_ret (pe_meth (pe_fld (pv 0) rfl) T.o_LoggerTree.cl T.Me_LoggerTree_getLogger G_LoggerTree_getLogger (hr.mono (by first | decide | omega)) T.b_LoggerTree_getLogger .nil (passes_call (takes_of rfl rfl rfl rfl) (fun _ _ _ _ h => h)) (pa_cons (pv 1) pa_nil)))), ?_⟩
    walk_at "sx"
    refine ⟨A.y, T.C_Yard, dy, fy, _, rfl, hy, T.o_Yard.cl, T.o_Yard.na _ (by decide), lt, ?_⟩
    have htr := t.tr
    walk_at "sx"
    exact .a ⟨A, S, nm, rfl, t, lt60, wp, nr, tP, tD, kQ⟩
end
end My

namespace My
open PySem PySem.Spec PyProof.Rows L2 SuX
local macro_rules | `(tactic| walk_at "hp") => `(tactic| first | assumption | exact upd_same | (refine Eq.trans (upd_ne (by first | assumption | (apply Ne.symm; assumption))) ?_; walk_at "hp"))
local macro_rules | `(tactic| walk_at "ixl") => `(tactic| (refine' ⟨_, ?xs, _, ?vv, rfl, rfl, SqL.of ?hh, ?aa, ?qq⟩; (case hh => walk_at "hp"); (case aa => rfl)))
local macro_rules | `(tactic| walk_at "setl") => `(tactic| (refine' ⟨_, ?xs, _, ?jj, rfl, rfl, ?hh, ?aa, ?qq⟩; (case hh => walk_at "hp"); (case aa => rfl)))
local macro_rules | `(tactic| walk_at "cond") => `(tactic| first | exact ⟨_, rfl⟩ | exact Nat.le_of_lt (small1000 (Nat.le_of_ble_eq_true rfl)) | decide | omega | (dsimp only; omega) | exact ⟨by decide, by decide⟩ | exact Or.inr ⟨by decide, by decide⟩ | exact Or.inl ⟨by decide, by decide⟩ | exact ⟨by decide, by decide, by decide⟩ | exact ⟨by omega, by omega⟩ | exact ⟨by omega, by omega, by omega⟩ | (simp only [List.length_cons, List.length_nil, List.length_append, List.length_take, List.length_drop]; omega) | (refine ⟨?_, ?_, ?_⟩ <;> first | decide | omega | (simp only [List.length_cons, List.length_nil, List.length_append, List.length_take, List.length_drop, Option.getD_some, Option.getD_none]; omega)))
local macro_rules | `(tactic| walk_at "st") => `(tactic| repeat (first | refine ⟨_, rfl, ?_⟩ | refine ⟨_, _, rfl, rfl, ?_⟩ | walk_at "ixl" | walk_at "setl" | refine ⟨rfl, ?_⟩ | refine Or.inl ⟨_, rfl, ?_⟩ | refine And.intro (by walk_at "cond") ?_))
/-- o.name(..) of a builtin kind, in a block (a comprehension's) -/
theorem pe_bmK {X : Cx} {K : PySem.W.Frag} {b g : Expr} {gs : List Expr} {tb : TE} {ts : L2.TA} {m : Str} {p1 p2 : Pos} {T id : String} {r : V → List V → Hp → VK → Prop} (hK : X.K = K) (pa : PlainAttrs T) (slot : Slot T m id) (hty : typeOf (.builtin id) = pure (.type "method_descriptor")) (hm : MtR X id r) (hb : PE X b tb) (hg : PA X (g :: gs) ts)
    (k1 : attributeBase b m X.env (eval b X.env) = eval b X.env := by rfl) (k2 : ((backTo p2 (starEach (g :: gs) X.env)).all (fun z => !z.1) && (backToKw p2 (keywordEach [] X.env)).all (fun z => z.1.isSome) && decide ((g :: gs).length + ([] : List Keyword).length + (if ([] : List Keyword).isEmpty then 0 else 1) < 30)) = true := by rfl)
    (k3 : (p1.endLine == p2.line) = true := by rfl) (k4 : starEach (g :: gs) X.env = (false, eval g X.env) :: starEach gs X.env := by rfl) (k5 : (backTo p2 (starEach gs X.env)).any (·.1) = false := by rfl) : PE X (.Call (.Attribute b m p1) (g :: gs) [] p2) (tBM K T r tb ts) := by
  subst hK
  exact pe_bm pa slot hty hm hb hg k1 k2 k3 k4 k5
theorem op_eqOK {X : Cx} {K : PySem.W.Frag} (hK : X.K = K) (hu : X.A.units + 64 < cLine) : OpR X (compareOp .Eq) (OQ.rEqO K) := by
  subst hK
  exact OQ.op_eqO hu
/-- a comprehension over a list with a test, item by item; what stood stands -/
theorem lc_filt {α : Type} {K : PySem.W.Frag} {a : Addr} {g : TG} {tt : TT} {te : TE} {vs : List Nat} {σ : L2.St} {H : Hp} {D : Addr} {Qd : Hp → Prop} (is : List α) (h : α → V) (q : α → Bool) (f : α → V) (hl : H a = some (.lst (is.map h))) (hD : H D = none) (hz : is.length ≤ 1000)
    (hs : ∀ (i : Nat) (x : α), is[i]? = some x → ∀ H', Same H H' → ∀ (R : V → Hp → Prop) (N : Hp → Prop), (∀ H4, Same H' H4 → q x = true → R (f x) H4) → (∀ H4, Same H' H4 → q x = false → N H4) → g (h x) (wipe σ vs) H' fun σ2 H2 => wipe σ2 vs = wipe σ vs ∧ tt σ2 H2 fun b H3 => if b = true then te σ2 H3 R else N H3)
    (hq : ∀ H', Same H H' → H' D = some (.lst ((is.filter q).map f)) → Qd H') :
    ∃ W : Nat → Nat → Hp → Prop, (∃ m, W 0 m (upd H D (.lst []))) ∧ ∀ i m H, W i m H →
      ((Itl K a).stop i H ∧ Qd H) ∨ ((Itl K a).go i H ∧ ∃ Nx : Hp → Prop, (∀ H', Nx H' → ∃ m', m' < m ∧ W (i + 1) m' H') ∧ ∀ x H', (Itl K a).yld i H x H' → g x (wipe σ vs) H' fun σ2 H2 => wipe σ2 vs = wipe σ vs ∧ tt σ2 H2 fun b H3 =>
        if b = true then te σ2 H3 fun y H4 => ∃ acc, H4 D = some (.lst acc) ∧ acc.length < sizeLine ∧ Nx (upd H4 D (.lst (acc ++ [y]))) else Nx H3) := by
  refine lc_listN (xs := is.map h) (fun i H' => Same H H' ∧ H' D = some (.lst (((is.take i).filter q).map f))) ⟨same_put (Same.refl _) hD, by rw [upd_same]; rfl⟩ (fun i H' _ p => SqL.of (p.1 _ _ hl)) (fun i v H' hx p N hN => ?_) (fun H' p => hq H' p.1 (by rw [p.2, List.length_map, List.take_length]))
  obtain ⟨x, hi, rfl⟩ := map_at hx
  have tk := take_snoc hi
  refine hs i x hi H' p.1 (fun y H4 => ∃ acc, H4 D = some (.lst acc) ∧ acc.length < sizeLine ∧ N (upd H4 D (.lst (acc ++ [y])))) N (fun H4 s4 hq => ⟨_, s4 _ _ p.2, ?_, ?_⟩) fun H4 s4 hq => ?_
  · rw [List.length_map]
    have h1 := List.length_filter_le q (is.take i)
    have h2 : (is.take i).length ≤ is.length := by rw [List.length_take]; omega
    exact Nat.lt_of_le_of_lt (Nat.le_trans (Nat.le_trans h1 h2) hz) (by decide)
  · rw [hN]
    refine ⟨same_put (p.1.trans s4) hD, ?_⟩
    rw [upd_same, tk, List.filter_append, List.map_append, List.filter_cons, if_pos hq]
    rfl
  · rw [hN]
    refine ⟨p.1.trans s4, ?_⟩
    rw [s4 _ _ p.2, tk, List.filter_append, List.map_append, List.filter_cons, if_neg (by rw [hq]; exact Bool.false_ne_true)]
    simp
theorem comp_rng {lo : Int} {n : Nat} {D : Addr} {g : TG} {tt : TT} {te : TE} {σ : L2.St} {vs : List Nat} {H1 : Hp} {Q : Hp → Prop} (W : Nat → Hp → Prop) (h0 : W 0 (upd H1 D (.lst []))) (hend : ∀ H, W n H → Q H)
    (hs : ∀ (i : Nat) H, i < n → W i H → ∀ N : Hp → Prop, N = (fun H' => Hd (W (i + 1) H')) → g (.int (lo + i)) (wipe σ vs) H fun σ2 H2 => wipe σ2 vs = wipe σ vs ∧ tt σ2 H2 fun b H3 => if b = true then te σ2 H3 fun y H4 => ∃ acc, H4 D = some (.lst acc) ∧ acc.length < sizeLine ∧ N (upd H4 D (.lst (acc ++ [y]))) else N H3) :
    ∃ W : Nat → Nat → Hp → Prop, (∃ m, W 0 m (upd H1 D (.lst []))) ∧ ∀ i m H, W i m H → ((Itr lo n).stop i H ∧ Q H) ∨ ((Itr lo n).go i H ∧ ∃ Nx : Hp → Prop, (∀ H', Nx H' → ∃ m', m' < m ∧ W (i + 1) m' H') ∧
      ∀ x H', (Itr lo n).yld i H x H' → g x (wipe σ vs) H' fun σ2 H2 => wipe σ2 vs = wipe σ vs ∧ tt σ2 H2 fun b H3 => if b = true then te σ2 H3 fun y H4 => ∃ acc, H4 D = some (.lst acc) ∧ acc.length < sizeLine ∧ Nx (upd H4 D (.lst (acc ++ [y]))) else Nx H3) := by
  refine ⟨fun i m H => W i H ∧ m = n - i ∧ i ≤ n, ⟨_, h0, rfl, Nat.zero_le _⟩, ?_⟩
  rintro i m H ⟨hw, rfl, hi⟩
  by_cases hlt : i < n
  · refine .inr ⟨hlt, fun H' => Hd (W (i + 1) H'), fun H' z => ⟨n - (i + 1), by omega, z.out, rfl, by omega⟩, ?_⟩
    rintro x H' ⟨rfl, rfl⟩
    exact hs i H' hlt hw _ rfl
  · have e : i = n := by omega
    subst e
    exact .inl ⟨Nat.le_refl _, hend H hw⟩
end My

namespace My
open PySem PySem.Spec PyProof.Rows L2 SuX
local macro_rules | `(tactic| walk_at "hp") => `(tactic| first | assumption | exact upd_same | (refine Eq.trans (upd_ne (by first | assumption | (apply Ne.symm; assumption))) ?_; walk_at "hp"))
local macro_rules | `(tactic| walk_at "ixl") => `(tactic| (refine' ⟨_, ?xs, _, ?vv, rfl, rfl, SqL.of ?hh, ?aa, ?qq⟩; (case hh => walk_at "hp"); (case aa => rfl)))
local macro_rules | `(tactic| walk_at "setl") => `(tactic| (refine' ⟨_, ?xs, _, ?jj, rfl, rfl, ?hh, ?aa, ?qq⟩; (case hh => walk_at "hp"); (case aa => rfl)))
local macro_rules | `(tactic| walk_at "cond") => `(tactic| first | exact ⟨_, rfl⟩ | exact Nat.le_of_lt (small1000 (Nat.le_of_ble_eq_true rfl)) | decide | omega | (dsimp only; omega) | exact ⟨by decide, by decide⟩ | exact Or.inr ⟨by decide, by decide⟩ | exact Or.inl ⟨by decide, by decide⟩ | exact ⟨by decide, by decide, by decide⟩ | exact ⟨by omega, by omega⟩ | exact ⟨by omega, by omega, by omega⟩ | (simp only [List.length_cons, List.length_nil, List.length_append, List.length_take, List.length_drop]; omega) | (refine ⟨?_, ?_, ?_⟩ <;> first | decide | omega | (simp only [List.length_cons, List.length_nil, List.length_append, List.length_take, List.length_drop, Option.getD_some, Option.getD_none]; omega)))
local macro_rules | `(tactic| walk_at "st") => `(tactic| repeat (first | refine ⟨_, rfl, ?_⟩ | refine ⟨_, _, rfl, rfl, ?_⟩ | walk_at "ixl" | walk_at "setl" | refine ⟨rfl, ?_⟩ | refine Or.inl ⟨_, rfl, ?_⟩ | refine And.intro (by walk_at "cond") ?_))
theorem same_rd {H H' : Hp} {a : Addr} {u : HO} (s : Same H H') (r : Rd H a u) : Rd H' a u := r.elim (fun h => .inl (s _ _ h)) fun ⟨o, h⟩ => .inr ⟨o, s _ _ h⟩
theorem for_keys {α : Type} {d : Addr} {o : Obj} {is : List α} {h : α → Key × V} {g : TG} {tb : TS} {D : Ends} {σ : L2.St} {H : Hp} (W : Nat → L2.St → Hp → Prop) (hst : ∀ i σ H, W i σ H → H d = some (.frz o (.dK (is.map h)))) (h0 : W 0 σ H) (hend : ∀ σ H, W is.length σ H → D.nx σ H)
    (hs : ∀ (R : L2.St → Hp → Prop) (i : Nat) σ H x, W i σ H → is[i]? = some x → ∀ N : L2.St → Hp → Prop, N = (fun σ' H' => Hd (W (i + 1) σ' H')) → g (kV (h x).1) σ H fun σ2 H2 => tb { D with nx := N, ct := N, bk := D.nx } σ2 H2) :
    ∃ W : Nat → Nat → L2.St → Hp → Prop, (∃ m, W 0 m σ H) ∧ ∀ i m σ H, W i m σ H →
      ((Itk d o (is.map h)).stop i H ∧ D.nx σ H) ∨ ((Itk d o (is.map h)).go i H ∧ ∃ N : L2.St → Hp → Prop, (∀ σ' H', N σ' H' → ∃ m', m' < m ∧ W (i + 1) m' σ' H') ∧ ∀ x H', (Itk d o (is.map h)).yld i H x H' → g x σ H' fun σ2 H2 => tb { D with nx := N, ct := N, bk := D.nx } σ2 H2) := by
  refine ⟨fun i m σ H => W i σ H ∧ m = is.length - i ∧ i ≤ is.length, ⟨_, h0, rfl, Nat.zero_le _⟩, ?_⟩
  rintro i m σ H ⟨hw, rfl, hi⟩
  have hl := hst i σ H hw
  have ln : (is.map h).length = is.length := List.length_map _
  by_cases hlt : i < is.length
  · refine .inr ⟨⟨hl, by rw [ln]; exact hlt⟩, fun σ' H' => Hd (W (i + 1) σ' H'), fun σ' H' z => ⟨is.length - (i + 1), by omega, z.out, rfl, by omega⟩, ?_⟩
    rintro x H' ⟨rfl, k, v, hx, rfl⟩
    obtain ⟨y, hy, e⟩ := map_at hx
    have := hs D.nx i σ H' y hw hy _ rfl
    rw [e] at this
    exact this
  · have e : i = is.length := by omega
    subst e
    exact .inl ⟨⟨hl, by rw [ln]; exact Nat.le_refl _⟩, hend σ H hw⟩
/-- a comprehension over a dict's keys with a test; what stood stands -/
theorem lc_keys {α : Type} {a : Addr} {o : Obj} {g : TG} {tt : TT} {te : TE} {vs : List Nat} {σ : L2.St} {H : Hp} {D : Addr} {Qd : Hp → Prop} (is : List α) (h : α → Key × V) (q : α → Bool) (f : α → V) (hl : H a = some (.frz o (.dK (is.map h)))) (hD : H D = none) (hz : is.length ≤ 1000)
    (hs : ∀ (i : Nat) (x : α), is[i]? = some x → ∀ H', Same H H' → ∀ (R : V → Hp → Prop) (N : Hp → Prop), (∀ H4, Same H' H4 → q x = true → R (f x) H4) → (∀ H4, Same H' H4 → q x = false → N H4) → g (kV (h x).1) (wipe σ vs) H' fun σ2 H2 => wipe σ2 vs = wipe σ vs ∧ tt σ2 H2 fun b H3 => if b = true then te σ2 H3 R else N H3)
    (hq : ∀ H', Same H H' → H' D = some (.lst ((is.filter q).map f)) → Qd H') :
    ∃ W : Nat → Nat → Hp → Prop, (∃ m, W 0 m (upd H D (.lst []))) ∧ ∀ i m H, W i m H →
      ((Itk a o (is.map h)).stop i H ∧ Qd H) ∨ ((Itk a o (is.map h)).go i H ∧ ∃ Nx : Hp → Prop, (∀ H', Nx H' → ∃ m', m' < m ∧ W (i + 1) m' H') ∧ ∀ x H', (Itk a o (is.map h)).yld i H x H' → g x (wipe σ vs) H' fun σ2 H2 => wipe σ2 vs = wipe σ vs ∧ tt σ2 H2 fun b H3 =>
        if b = true then te σ2 H3 fun y H4 => ∃ acc, H4 D = some (.lst acc) ∧ acc.length < sizeLine ∧ Nx (upd H4 D (.lst (acc ++ [y]))) else Nx H3) := by
  refine ⟨fun i m H' => m = is.length - i ∧ i ≤ is.length ∧ Same H H' ∧ H' D = some (.lst (((is.take i).filter q).map f)), ⟨is.length, by simp, Nat.zero_le _, same_put (Same.refl _) hD, by rw [upd_same]; rfl⟩, ?_⟩
  rintro i m H1 ⟨rfl, hi, s1, d1⟩
  have hl1 := s1 _ _ hl
  have ln : (is.map h).length = is.length := List.length_map _
  by_cases hlt : i < is.length
  · refine .inr ⟨⟨hl1, by rw [ln]; exact hlt⟩, fun H' => i + 1 ≤ is.length ∧ Same H H' ∧ H' D = some (.lst (((is.take (i + 1)).filter q).map f)), fun H' p' => ⟨is.length - (i + 1), by omega, rfl, p'⟩, ?_⟩
    rintro v H' ⟨rfl, k, w, hx, rfl⟩
    obtain ⟨x, hi2, e⟩ := map_at hx
    have tk := take_snoc hi2
    have := hs i x hi2 H' s1 (fun y H4 => ∃ acc, H4 D = some (.lst acc) ∧ acc.length < sizeLine ∧ (i + 1 ≤ is.length ∧ Same H (upd H4 D (.lst (acc ++ [y]))) ∧ upd H4 D (.lst (acc ++ [y])) D = some (.lst (((is.take (i + 1)).filter q).map f)))) (fun H' => i + 1 ≤ is.length ∧ Same H H' ∧ H' D = some (.lst (((is.take (i + 1)).filter q).map f))) (fun H4 s4 hq => ⟨_, s4 _ _ d1, ?_, hlt, same_put (s1.trans s4) hD, ?_⟩) fun H4 s4 hq => ⟨hlt, s1.trans s4, ?_⟩
    · rw [e] at this
      exact this
    · rw [List.length_map]
      have h1 := List.length_filter_le q (is.take i)
      have h2 : (is.take i).length ≤ is.length := by rw [List.length_take]; omega
      exact Nat.lt_of_le_of_lt (Nat.le_trans (Nat.le_trans h1 h2) hz) (by decide)
    · rw [upd_same, tk, List.filter_append, List.map_append, List.filter_cons, if_pos hq]
      rfl
    · rw [s4 _ _ d1, tk, List.filter_append, List.map_append, List.filter_cons, if_neg (by rw [hq]; exact Bool.false_ne_true)]
      simp
  · have e : i = is.length := by omega
    subst e
    exact .inl ⟨⟨hl1, by rw [ln]; exact Nat.le_refl _⟩, hq H1 s1 (by rw [d1, List.take_length])⟩
end My

namespace My
open PySem PySem.Spec PyProof.Rows L2 SuX LTr DN
local macro_rules | `(tactic| walk_at "hp") => `(tactic| first | assumption | exact upd_same | (refine Eq.trans (upd_ne (by first | assumption | (apply Ne.symm; assumption))) ?_; walk_at "hp"))
local macro_rules | `(tactic| walk_at "ixl") => `(tactic| (refine' ⟨_, ?xs, _, ?vv, rfl, rfl, SqL.of ?hh, ?aa, ?qq⟩; (case hh => walk_at "hp"); (case aa => rfl)))
local macro_rules | `(tactic| walk_at "setl") => `(tactic| (refine' ⟨_, ?xs, _, ?jj, rfl, rfl, ?hh, ?aa, ?qq⟩; (case hh => walk_at "hp"); (case aa => rfl)))
local macro_rules | `(tactic| walk_at "cond") => `(tactic| first | exact ⟨_, rfl⟩ | exact Nat.le_of_lt (small1000 (Nat.le_of_ble_eq_true rfl)) | decide | omega | (dsimp only; omega) | exact ⟨by decide, by decide⟩ | exact Or.inr ⟨by decide, by decide⟩ | exact Or.inl ⟨by decide, by decide⟩ | exact ⟨by decide, by decide, by decide⟩ | exact ⟨by omega, by omega⟩ | exact ⟨by omega, by omega, by omega⟩ | (simp only [List.length_cons, List.length_nil, List.length_append, List.length_take, List.length_drop]; omega) | (refine ⟨?_, ?_, ?_⟩ <;> first | decide | omega | (simp only [List.length_cons, List.length_nil, List.length_append, List.length_take, List.length_drop, Option.getD_some, Option.getD_none]; omega)))
local macro_rules | `(tactic| walk_at "st") => `(tactic| repeat (first | refine ⟨_, rfl, ?_⟩ | refine ⟨_, _, rfl, rfl, ?_⟩ | walk_at "ixl" | walk_at "setl" | refine ⟨rfl, ?_⟩ | refine Or.inl ⟨_, rfl, ?_⟩ | refine And.intro (by walk_at "cond") ?_))
local macro_rules | `(tactic| walk_at "cls") => `(tactic| first | exact OC.cl (by assumption) | exact (‹Txt _ _›).o_Clock.cl | exact (‹Txt _ _›).o_LevelTable.cl | exact (‹Txt _ _›).o_LogRecord.cl | exact (‹Txt _ _›).o_Filter.cl | exact (‹Txt _ _›).o_Store.cl | exact (‹Txt _ _›).o_Written.cl | exact (‹Txt _ _›).o_Roster.cl | exact (‹Txt _ _›).o_Handler.cl | exact (‹Txt _ _›).o_NullHandler.cl | exact (‹Txt _ _›).o_Logger.cl | exact (‹Txt _ _›).o_LoggerTree.cl | exact (‹Txt _ _›).o_StreamHandler.cl | exact (‹Txt _ _›).o_Yard.cl)
local macro_rules | `(tactic| walk_at "na") => `(tactic| first | (refine na_of (by assumption) ?_; decide) | (refine na_of (‹Txt _ _›).o_Clock ?_; decide) | (refine na_of (‹Txt _ _›).o_LevelTable ?_; decide) | (refine na_of (‹Txt _ _›).o_LogRecord ?_; decide) | (refine na_of (‹Txt _ _›).o_Filter ?_; decide) | (refine na_of (‹Txt _ _›).o_Store ?_; decide) | (refine na_of (‹Txt _ _›).o_Written ?_; decide) | (refine na_of (‹Txt _ _›).o_Roster ?_; decide) | (refine na_of (‹Txt _ _›).o_Handler ?_; decide) | (refine na_of (‹Txt _ _›).o_NullHandler ?_; decide) | (refine na_of (‹Txt _ _›).o_Logger ?_; decide) | (refine na_of (‹Txt _ _›).o_LoggerTree ?_; decide) | (refine na_of (‹Txt _ _›).o_StreamHandler ?_; decide) | (refine na_of (‹Txt _ _›).o_Yard ?_; decide))
local macro_rules | `(tactic| walk_at "fld") => `(tactic| (refine' ⟨_, _, _, _, ?vv, rfl, ?hh, ?cc, ?nn, ?ll, ?qq⟩; (case hh => walk_at "hp"); (case cc => walk_at "cls"); (case nn => walk_at "na"); (case ll => exact rfl)))
local macro_rules | `(tactic| walk_at "sto") => `(tactic| (refine' ⟨_, _, _, _, rfl, ?hh, ?cc, ?nn, ?ll, ?qq⟩; (case hh => walk_at "hp"); (case cc => walk_at "cls"); (case nn => walk_at "na"); (case ll => first | exact Nat.le_of_ble_eq_true rfl | assumption)))
local macro_rules | `(tactic| walk_at "mth") => `(tactic| (refine' ⟨_, _, _, rfl, ?hh, ?ll, ?qq⟩; (case hh => walk_at "hp"); (case ll => exact rfl)))
local macro_rules | `(tactic| walk_at "sx") => `(tactic| repeat (first | refine ⟨_, rfl, ?_⟩ | refine ⟨_, _, rfl, rfl, ?_⟩ | walk_at "ixl" | walk_at "setl" | refine ⟨rfl, ?_⟩ | refine Or.inl ⟨_, rfl, ?_⟩ | walk_at "fld" | walk_at "sto" | walk_at "mth" | refine And.intro (by walk_at "cond") ?_))
/-! ### names drawn -/
theorem len_dot : ∀ {ps : Nm}, GP ps → ps.length ≤ (dot ps).length
  | [], _ => Nat.le_refl _
  | [p], h => by
    have := List.length_pos_iff.mpr (h p List.mem_cons_self).1
    rw [dot_one, List.length_singleton]
    exact this
  | p :: q :: r, h => by
    have := len_dot (ps := q :: r) fun x hx => h x (List.mem_cons_of_mem _ hx)
    have e1 : (p ++ 46 :: dot (q :: r)).length = p.length + ((dot (q :: r)).length + 1) := by rw [List.length_append, List.length_cons]
    rw [dot_cons p (by simp), e1, List.length_cons]
    omega
theorem sum_dot : ∀ (ps : Nm), ((ps.map SX.S).map (·.length)).sum + ps.length ≤ (dot ps).length + 1
  | [] => Nat.zero_le _
  | [p] => by
    show (SX.S p).length + 0 + 1 ≤ p.length + 1
    rw [SX.S_len]
    omega
  | p :: q :: r => by
    have := sum_dot (q :: r)
    have e1 : (p ++ 46 :: dot (q :: r)).length = p.length + ((dot (q :: r)).length + 1) := by rw [List.length_append, List.length_cons]
    have e2 := SX.S_len p
    rw [dot_cons p (by simp), e1, List.map_cons, List.map_cons, List.sum_cons, List.length_cons]
    omega
section
variable {P : Program} {w : World} {K : PySem.W.Frag} {mg : Str → Option Value} {base : Heap}
def kvR (rt : Addr) (S : List Lg) : List (Key × V) := (Sum.inr (SX.S []), .ref rt) :: kvN S
theorem kvR_at (rt : Addr) {S : List Lg} (hS : ∀ L ∈ S, GP L.nm) {nm : Nm} (hn : GP nm) (h0 : nm ≠ []) : valV (kvR rt S) (Sum.inr (SX.S (dot nm)) : Key) = (getL S nm).map fun L => V.ref L.a := by
  rw [← kvN_at S hS hn]
  have ne : (Sum.inr (SX.S []) : Key) ≠ Sum.inr (SX.S (dot nm)) := fun z => dot_ne h0 hn (SX.S_inj (Sum.inr.inj z)).symm
  unfold kvR
  simp [valV, ne]
theorem kvR_get {rt : Addr} {S : List Lg} (w : Wf rt S) (hS : ∀ L ∈ S, GP L.nm) {nm : Nm} (hn : nm = [] ∨ nm ∈ names S) : valV (kvR rt S) (Sum.inr (SX.S (dot nm)) : Key) = some (V.ref (adr rt S nm)) := by
  rcases hn with rfl | hn
  · rw [w.root]
    rfl
  · obtain ⟨L, hL, rfl⟩ := List.mem_map.mp hn
    have hg := getL_mem w.nn hL
    rw [kvR_at rt hS (hS L hL) (w.ne L hL), hg, adr_of hg]
    rfl
theorem dget_rd {H : Hp} {a : Addr} {kvs : List (Key × V)} {k : Key} (e : Rd H a (.dK kvs)) : DGet H a (kV k) (valV kvs k) := .inl ⟨kvs, k, e, rfl, rfl⟩
/-- a dict's keys: the names ms (and the root's) -/
def KN (kvs : List (Key × V)) (ms : List Nm) : Prop := ∀ n, GP n → n ≠ [] → (valV kvs (Sum.inr (SX.S (dot n)) : Key)).isSome = decide (n ∈ ms)
end
end My

namespace My
open PySem PySem.Spec PyProof.Rows L2 SuX LTr DN
local macro_rules | `(tactic| walk_at "hp") => `(tactic| first | assumption | exact upd_same | (refine Eq.trans (upd_ne (by first | assumption | (apply Ne.symm; assumption))) ?_; walk_at "hp"))
local macro_rules | `(tactic| walk_at "ixl") => `(tactic| (refine' ⟨_, ?xs, _, ?vv, rfl, rfl, SqL.of ?hh, ?aa, ?qq⟩; (case hh => walk_at "hp"); (case aa => rfl)))
local macro_rules | `(tactic| walk_at "setl") => `(tactic| (refine' ⟨_, ?xs, _, ?jj, rfl, rfl, ?hh, ?aa, ?qq⟩; (case hh => walk_at "hp"); (case aa => rfl)))
local macro_rules | `(tactic| walk_at "cond") => `(tactic| first | exact ⟨_, rfl⟩ | exact Nat.le_of_lt (small1000 (Nat.le_of_ble_eq_true rfl)) | decide | omega | (dsimp only; omega) | exact ⟨by decide, by decide⟩ | exact Or.inr ⟨by decide, by decide⟩ | exact Or.inl ⟨by decide, by decide⟩ | exact ⟨by decide, by decide, by decide⟩ | exact ⟨by omega, by omega⟩ | exact ⟨by omega, by omega, by omega⟩ | (simp only [List.length_cons, List.length_nil, List.length_append, List.length_take, List.length_drop]; omega) | (refine ⟨?_, ?_, ?_⟩ <;> first | decide | omega | (simp only [List.length_cons, List.length_nil, List.length_append, List.length_take, List.length_drop, Option.getD_some, Option.getD_none]; omega)))
local macro_rules | `(tactic| walk_at "st") => `(tactic| repeat (first | refine ⟨_, rfl, ?_⟩ | refine ⟨_, _, rfl, rfl, ?_⟩ | walk_at "ixl" | walk_at "setl" | refine ⟨rfl, ?_⟩ | refine Or.inl ⟨_, rfl, ?_⟩ | refine And.intro (by walk_at "cond") ?_))
local macro_rules | `(tactic| walk_at "cls") => `(tactic| first | exact OC.cl (by assumption) | exact (‹Txt _ _›).o_Clock.cl | exact (‹Txt _ _›).o_LevelTable.cl | exact (‹Txt _ _›).o_LogRecord.cl | exact (‹Txt _ _›).o_Filter.cl | exact (‹Txt _ _›).o_Store.cl | exact (‹Txt _ _›).o_Written.cl | exact (‹Txt _ _›).o_Roster.cl | exact (‹Txt _ _›).o_Handler.cl | exact (‹Txt _ _›).o_NullHandler.cl | exact (‹Txt _ _›).o_Logger.cl | exact (‹Txt _ _›).o_LoggerTree.cl | exact (‹Txt _ _›).o_StreamHandler.cl | exact (‹Txt _ _›).o_Yard.cl)
local macro_rules | `(tactic| walk_at "na") => `(tactic| first | (refine na_of (by assumption) ?_; decide) | (refine na_of (‹Txt _ _›).o_Clock ?_; decide) | (refine na_of (‹Txt _ _›).o_LevelTable ?_; decide) | (refine na_of (‹Txt _ _›).o_LogRecord ?_; decide) | (refine na_of (‹Txt _ _›).o_Filter ?_; decide) | (refine na_of (‹Txt _ _›).o_Store ?_; decide) | (refine na_of (‹Txt _ _›).o_Written ?_; decide) | (refine na_of (‹Txt _ _›).o_Roster ?_; decide) | (refine na_of (‹Txt _ _›).o_Handler ?_; decide) | (refine na_of (‹Txt _ _›).o_NullHandler ?_; decide) | (refine na_of (‹Txt _ _›).o_Logger ?_; decide) | (refine na_of (‹Txt _ _›).o_LoggerTree ?_; decide) | (refine na_of (‹Txt _ _›).o_StreamHandler ?_; decide) | (refine na_of (‹Txt _ _›).o_Yard ?_; decide))
local macro_rules | `(tactic| walk_at "fld") => `(tactic| (refine' ⟨_, _, _, _, ?vv, rfl, ?hh, ?cc, ?nn, ?ll, ?qq⟩; (case hh => walk_at "hp"); (case cc => walk_at "cls"); (case nn => walk_at "na"); (case ll => exact rfl)))
local macro_rules | `(tactic| walk_at "sto") => `(tactic| (refine' ⟨_, _, _, _, rfl, ?hh, ?cc, ?nn, ?ll, ?qq⟩; (case hh => walk_at "hp"); (case cc => walk_at "cls"); (case nn => walk_at "na"); (case ll => first | exact Nat.le_of_ble_eq_true rfl | assumption)))
local macro_rules | `(tactic| walk_at "mth") => `(tactic| (refine' ⟨_, _, _, rfl, ?hh, ?ll, ?qq⟩; (case hh => walk_at "hp"); (case ll => exact rfl)))
local macro_rules | `(tactic| walk_at "sx") => `(tactic| repeat (first | refine ⟨_, rfl, ?_⟩ | refine ⟨_, _, rfl, rfl, ?_⟩ | walk_at "ixl" | walk_at "setl" | refine ⟨rfl, ?_⟩ | refine Or.inl ⟨_, rfl, ?_⟩ | walk_at "fld" | walk_at "sto" | walk_at "mth" | refine And.intro (by walk_at "cond") ?_))
/-! ### names drawn -/
def PARTS : List (List Nat) := [[97], [98], [97, 98], [65], [95, 49]]
section
variable {P : Program} {w : World} {K : PySem.W.Frag} {mg : Str → Option Value} {base : Heap}
def spName : Sp := fun vs H Q _ => Hd (∃ (p q : Addr) (n : Int) (m : Nat), vs = [.ref p, .int m] ∧ Stm H p q n ∧ n + 2 + m ≤ 100000 ∧ 0 < m ∧ m ≤ 10 ∧
  ∀ (ps : Nm) (n' : Int) (H' : Hp), ps ≠ [] → (∀ x ∈ ps, x ∈ PARTS) → ps.length ≤ m → n' ≤ n + 1 + m → Stm H' p q n' → Xt H H' p q → Q (.str (SX.S (dot ps))) H')
theorem ok_name (T : Txt K mg) : FnOk P w K mg base CX0 3 T.f__law_name T.fd__law_name ["_law_s", "_law_most"] spName := by
  have G__law_draw : FnOk P w K mg base CX0 1 T.f__law_draw T.fd__law_draw _ spDraw := ok_draw T
  have G__law_pick : FnOk P w K mg base CX0 2 T.f__law_pick T.fd__law_pick _ spPick := ok_pick T
  refine T.D__law_name.F.ok sc__law_name (fun vs H Q E h => ?_) (fun cdv A outer s H vs Q E hr h => ?_)
  · obtain ⟨p, q, n, m, rfl, _⟩ := h.out
    rfl
  · obtain ⟨p, q, n, m, rfl, S, hn, m0, hm, k⟩ := h.out
    refine ⟨_, (pss_one (ps_ret (pe_join (SL.pe_strL [46] (by decide +kernel)) (pe_lc (own := [("_law_k", 2)]) (g := gName 2) rfl sc__law_name.nd (pi_range1 rfl T.B.n_range (pa_cons (pe_op op_add pe_int (pe_call G__law_draw (hr.mono (by first | decide | omega)) rfl T.D__law_draw.g T.D__law_draw.F.kp T.D__law_draw.b .nil pass0 (pa_cons (pv 0) (pa_cons (pv 1) pa_nil)))) pa_nil)) (blkOk_by (N := ["_law_s", "_law_most", "_law_k"]) (sc := defScope s__law_name) (by decide +kernel)) (fun _ _ _ _ _ => (pg_name (i := 2) sc__law_name.nd rfl (by first | exact Or.inl rfl | exact Or.inr rfl))) (fun _ _ _ _ _ => pts_nil) (fun _ _ _ _ _ => (pe_call G__law_pick (hr.mono (by first | decide | omega)) rfl T.D__law_pick.g T.D__law_pick.F.kp T.D__law_pick.b .nil pass0 (pa_cons (pv 0) (pa_cons (pe_lst (pa_cons (SL.pe_strL [97] (by decide +kernel)) (pa_cons (SL.pe_strL [98] (by decide +kernel)) (pa_cons (SL.pe_strL [97, 98] (by decide +kernel)) (pa_cons (SL.pe_strL [65] (by decide +kernel)) (pa_cons (SL.pe_strL [95, 49] (by decide +kernel)) pa_nil)))))) pa_nil)))))))), ?_⟩
    walk_at "st"
    refine .a ⟨p, q, n, (m : Int), rfl, S, by omega, by omega, by omega, fun d n1 H1 d0 d1 hn1 S1 fr1 => ?_⟩
    have X1 : Xt H H1 p q := .of (n := n) S1 fr1
    walk_at "st"
    intro D hD
    obtain ⟨hpn, hqn⟩ := S1.there
    have Dp : D ≠ p := fun z => hpn (z ▸ hD)
    have Dq : D ≠ q := fun z => hqn (z ▸ hD)
    refine comp_rng (fun i H2 => ∃ (t : Nm) (n' : Int), H2 D = some (.lst (t.map fun x => V.str (SX.S x))) ∧ (∀ c ∈ t, c ∈ PARTS) ∧ t.length = i ∧ n' ≤ n + 1 + i ∧ Stm H2 p q n' ∧ Xt H1 H2 p q) ⟨[], n1, upd_same, (fun _ z => nomatch z), rfl, by omega, S1.put Dp Dq, Xt.new hD⟩ ?_ ?_
    · rintro H2 ⟨t, n', h1, h2, h3, h4, S2, X2⟩
      walk_at "st"
      have lt : ∀ l : Nm, (∀ c ∈ l, c ∈ PARTS) → ((l.map SX.S).map (·.length)).sum ≤ 2 * l.length := fun l hl => by
        induction l with
        | nil => exact Nat.le_refl _
        | cons c r ih =>
          have i1 := ih fun z hz => hl z (List.mem_cons_of_mem _ hz)
          have i2 : ∀ c ∈ PARTS, (SX.S c).length ≤ 2 := by decide
          have i3 := i2 c (hl c List.mem_cons_self)
          simp only [List.map_cons, List.sum_cons, List.length_cons] at i1 ⊢
          omega
      refine ⟨_, D, t.map SX.S, rfl, rfl, .inl (SqL.of (by rw [h1, List.map_map]; rfl)), ?_, ?_⟩
      · have := lt t h2
        rw [List.length_map]
        show _ + t.length * 1 ≤ _
        omega
      · have e : Txt.join (SX.S [46]) (t.map SX.S) = SX.S (dot t) := SX.join_S [46] t
        rw [e]
        refine k t n' H2 (fun z => ?_) h2 (by omega) (by omega) S2 (X1.trans X2)
        rw [z] at h3
        simp at h3
        omega
    · rintro i H2 hi ⟨t, n', h1, h2, h3, h4, S2, X2⟩ N hN
      walk_at "st"
      intro l hl
      obtain ⟨hpn2, hqn2⟩ := S2.there
      have lp : l ≠ p := fun z => hpn2 (z ▸ hl)
      have lq : l ≠ q := fun z => hqn2 (z ▸ hl)
      have X3 : Xt H2 (upd H2 l (.lst (PARTS.map fun x => V.str (SX.S x)))) p q := Xt.new hl
      have S3 := S2.put (o := .lst (PARTS.map fun x => V.str (SX.S x))) lp lq
      have o3 := off_at (o := .lst (PARTS.map fun x => V.str (SX.S x))) S2 hl
      have h13 := X3.at h1 Dp Dq
      show tNil _ (upd H2 l (.lst (PARTS.map fun x => V.str (SX.S x)))) _
      generalize upd H2 l (.lst (PARTS.map fun x => V.str (SX.S x))) = H3 at *
      walk_at "st"
      refine .a ⟨p, q, l, n', _, rfl, S3, by omega, o3, by decide, by decide, fun v n2 H4 hv hn2 S4 fr4 => ?_⟩
      have X4 : Xt H3 H4 p q := .of (n := n') S4 fr4
      obtain ⟨c, hc, rfl⟩ := List.mem_map.mp hv
      have h5 := X4.at h13 Dp Dq
      refine ⟨_, h5, szl ?_, ?_⟩
      · rw [List.length_map]
        omega
      · rw [hN]
        refine .a ⟨t ++ [c], n2, ?_, ?_, ?_, by omega, S4.put Dp Dq, (X2.trans (X3.trans X4)).put hD⟩
        · rw [List.map_append]; exact upd_same
        · intro b hb
          rcases List.mem_append.mp hb with hb | hb
          · exact h2 b hb
          · rw [List.mem_singleton.mp hb]; exact hc
        · rw [List.length_append, List.length_singleton, h3]
end
end My

namespace My
open PySem PySem.Spec PyProof.Rows L2 SuX LTr DN
local macro_rules | `(tactic| walk_at "hp") => `(tactic| first | assumption | exact upd_same | (refine Eq.trans (upd_ne (by first | assumption | (apply Ne.symm; assumption))) ?_; walk_at "hp"))
local macro_rules | `(tactic| walk_at "ixl") => `(tactic| (refine' ⟨_, ?xs, _, ?vv, rfl, rfl, SqL.of ?hh, ?aa, ?qq⟩; (case hh => walk_at "hp"); (case aa => rfl)))
local macro_rules | `(tactic| walk_at "setl") => `(tactic| (refine' ⟨_, ?xs, _, ?jj, rfl, rfl, ?hh, ?aa, ?qq⟩; (case hh => walk_at "hp"); (case aa => rfl)))
local macro_rules | `(tactic| walk_at "cond") => `(tactic| first | exact ⟨_, rfl⟩ | exact Nat.le_of_lt (small1000 (Nat.le_of_ble_eq_true rfl)) | decide | omega | (dsimp only; omega) | exact ⟨by decide, by decide⟩ | exact Or.inr ⟨by decide, by decide⟩ | exact Or.inl ⟨by decide, by decide⟩ | exact ⟨by decide, by decide, by decide⟩ | exact ⟨by omega, by omega⟩ | exact ⟨by omega, by omega, by omega⟩ | (simp only [List.length_cons, List.length_nil, List.length_append, List.length_take, List.length_drop]; omega) | (refine ⟨?_, ?_, ?_⟩ <;> first | decide | omega | (simp only [List.length_cons, List.length_nil, List.length_append, List.length_take, List.length_drop, Option.getD_some, Option.getD_none]; omega)))
local macro_rules | `(tactic| walk_at "st") => `(tactic| repeat (first | refine ⟨_, rfl, ?_⟩ | refine ⟨_, _, rfl, rfl, ?_⟩ | walk_at "ixl" | walk_at "setl" | refine ⟨rfl, ?_⟩ | refine Or.inl ⟨_, rfl, ?_⟩ | refine And.intro (by walk_at "cond") ?_))
local macro_rules | `(tactic| walk_at "cls") => `(tactic| first | exact OC.cl (by assumption) | exact (‹Txt _ _›).o_Clock.cl | exact (‹Txt _ _›).o_LevelTable.cl | exact (‹Txt _ _›).o_LogRecord.cl | exact (‹Txt _ _›).o_Filter.cl | exact (‹Txt _ _›).o_Store.cl | exact (‹Txt _ _›).o_Written.cl | exact (‹Txt _ _›).o_Roster.cl | exact (‹Txt _ _›).o_Handler.cl | exact (‹Txt _ _›).o_NullHandler.cl | exact (‹Txt _ _›).o_Logger.cl | exact (‹Txt _ _›).o_LoggerTree.cl | exact (‹Txt _ _›).o_StreamHandler.cl | exact (‹Txt _ _›).o_Yard.cl)
local macro_rules | `(tactic| walk_at "na") => `(tactic| first | (refine na_of (by assumption) ?_; decide) | (refine na_of (‹Txt _ _›).o_Clock ?_; decide) | (refine na_of (‹Txt _ _›).o_LevelTable ?_; decide) | (refine na_of (‹Txt _ _›).o_LogRecord ?_; decide) | (refine na_of (‹Txt _ _›).o_Filter ?_; decide) | (refine na_of (‹Txt _ _›).o_Store ?_; decide) | (refine na_of (‹Txt _ _›).o_Written ?_; decide) | (refine na_of (‹Txt _ _›).o_Roster ?_; decide) | (refine na_of (‹Txt _ _›).o_Handler ?_; decide) | (refine na_of (‹Txt _ _›).o_NullHandler ?_; decide) | (refine na_of (‹Txt _ _›).o_Logger ?_; decide) | (refine na_of (‹Txt _ _›).o_LoggerTree ?_; decide) | (refine na_of (‹Txt _ _›).o_StreamHandler ?_; decide) | (refine na_of (‹Txt _ _›).o_Yard ?_; decide))
local macro_rules | `(tactic| walk_at "fld") => `(tactic| (refine' ⟨_, _, _, _, ?vv, rfl, ?hh, ?cc, ?nn, ?ll, ?qq⟩; (case hh => walk_at "hp"); (case cc => walk_at "cls"); (case nn => walk_at "na"); (case ll => exact rfl)))
local macro_rules | `(tactic| walk_at "sto") => `(tactic| (refine' ⟨_, _, _, _, rfl, ?hh, ?cc, ?nn, ?ll, ?qq⟩; (case hh => walk_at "hp"); (case cc => walk_at "cls"); (case nn => walk_at "na"); (case ll => first | exact Nat.le_of_ble_eq_true rfl | assumption)))
local macro_rules | `(tactic| walk_at "mth") => `(tactic| (refine' ⟨_, _, _, rfl, ?hh, ?ll, ?qq⟩; (case hh => walk_at "hp"); (case ll => exact rfl)))
local macro_rules | `(tactic| walk_at "sx") => `(tactic| repeat (first | refine ⟨_, rfl, ?_⟩ | refine ⟨_, _, rfl, rfl, ?_⟩ | walk_at "ixl" | walk_at "setl" | refine ⟨rfl, ?_⟩ | refine Or.inl ⟨_, rfl, ?_⟩ | walk_at "fld" | walk_at "sto" | walk_at "mth" | refine And.intro (by walk_at "cond") ?_))
/-! ### levels: numbers, names of them -/
section
variable {P : Program} {w : World} {K : PySem.W.Frag} {mg : Str → Option Value} {base : Heap}
def spIsInt : Sp := fun vs H Q _ => Hd (∃ v b, vs = [v] ∧ ((∃ i, v = .int i ∧ b = true) ∨ ∃ z, v = .str z ∧ b = false) ∧ Q (.bl b) H)
theorem ok_isint (T : Txt K mg) : FnOk P w K mg base CX0 1 T.f_is_integer T.fd_is_integer ["thing"] spIsInt := by
  refine T.D_is_integer.F.ok sc_is_integer (fun vs H Q E h => ?_) (fun cdv A outer s H vs Q E hr h => ?_)
  · obtain ⟨v, b, rfl, _⟩ := h.out
    rfl
  · obtain ⟨v, b, rfl, c, k⟩ := h.out
    refine ⟨_, (pss_one (ps_ret (pe_and (pe_callB call_isi (by rfl) T.B.n_isinstance (by decide +kernel) (pa_cons (pv 0) (pa_cons (pe_bltn (v := .ty "int") (u := .type "int") (by rfl) T.B.n_int (by decide +kernel) rfl) pa_nil))) (pe_one (pe_not (pe_callB call_isi (by rfl) T.B.n_isinstance (by decide +kernel) (pa_cons (pv 0) (pa_cons (pe_bltn (v := .ty "bool") (u := .type "bool") (by rfl) T.B.n_bool (by decide +kernel) rfl) pa_nil)))))))), ?_⟩
    walk_at "st"
    rcases c with ⟨i, rfl, rfl⟩ | ⟨z, rfl, rfl⟩
    · refine ⟨.int i, .ty "int", _, _, true, rfl, .ty "int", .base (.int i), kit_ty (by decide +kernel), ?_⟩
      refine ⟨true, rfl, if_true_of rfl ?_⟩
      walk_at "st"
      refine ⟨.int i, .ty "bool", _, _, false, rfl, .ty "bool", .base (.int i), kit_ty (by decide +kernel), ?_⟩
      exact ⟨false, rfl, k⟩
    · refine ⟨.str z, .ty "int", _, _, false, rfl, .ty "int", .base (.str z), kit_ty (by decide +kernel), ?_⟩
      exact ⟨false, rfl, if_false_of rfl k⟩
/-- a level given: its number, or a name of it in the table -/
def LvV (kvs : List (Key × V)) (v : V) (i : Int) : Prop := v = .int i ∨ ∃ l : List Nat, v = .str (SX.S l) ∧ valV kvs (Sum.inr (SX.S l) : Key) = some (.int i)
def spKnows (C : Addr) : Sp := fun vs H Q _ => Hd (∃ (x dx a b : Addr) (kvs : List (Key × V)) (v : V) (i : Int), vs = [.ref x, v] ∧ H x = some (.ins C dx (fLv a b)) ∧ H b = some (.dK kvs) ∧ LvV kvs v i ∧ Q (.bl true) H)
theorem ok_knows (T : Txt K mg) : FnOk P w K mg base CX0 2 T.a_LevelTable_knows T.fd_LevelTable_knows ["self", "level"] (spKnows T.C_LevelTable) := by
  have G_is_integer : FnOk P w K mg base CX0 1 _ _ _ spIsInt := ok_isint T
  refine T.F_LevelTable_knows.ok sc_LevelTable_knows (fun vs H Q E h => ?_) (fun cdv A outer s H vs Q E hr h => ?_)
  · obtain ⟨x, dx, a, b, kvs, v, i, rfl, _⟩ := h.out
    rfl
  · obtain ⟨x, dx, a, b, kvs, v, i, rfl, hx, hb, c, k⟩ := h.out
    have hu := hu_of hr
    refine ⟨_, (pss_one (ps_ret (pe_or (pe_call G_is_integer (hr.mono (by first | decide | omega)) rfl T.D_is_integer.g T.D_is_integer.F.kp T.D_is_integer.b .nil pass0 (pa_cons (pv 1) pa_nil)) (pe_one (pe_and (pe_callB call_isi (by rfl) T.B.n_isinstance (by decide +kernel) (pa_cons (pv 1) (pa_cons (pe_bltn (v := .ty "str") (u := .type "str") (by rfl) T.B.n_str (by decide +kernel) rfl) pa_nil))) (pe_one (pe_cmp (pc_din hu (pv 1) (pe_fld (pv 0) rfl)) rfl))))))), ?_⟩
    walk_at "sx"
    rcases c with rfl | ⟨l, rfl, hv⟩
    · refine .a ⟨_, true, rfl, .inl ⟨i, rfl, rfl⟩, ?_⟩
      exact ⟨true, rfl, if_true_of rfl k⟩
    · refine .a ⟨_, false, rfl, .inr ⟨_, rfl, rfl⟩, ?_⟩
      refine ⟨false, rfl, if_false_of rfl ?_⟩
      walk_at "sx"
      refine ⟨.str (SX.S l), .ty "str", _, _, true, rfl, .ty "str", .base (.str _), kit_ty (by decide +kernel), ?_⟩
      refine ⟨true, rfl, if_true_of rfl ?_⟩
      walk_at "sx"
      refine ⟨b, _, rfl, DGet.k (k := Sum.inr (SX.S l)) hb, ?_⟩
      rw [hv]
      exact k
def spNumber (C : Addr) : Sp := fun vs H Q _ => Hd (∃ (x dx a b : Addr) (kvs : List (Key × V)) (v : V) (i : Int), vs = [.ref x, v] ∧ H x = some (.ins C dx (fLv a b)) ∧ H b = some (.dK kvs) ∧ LvV kvs v i ∧ Q (.int i) H)
theorem ok_number (T : Txt K mg) : FnOk P w K mg base (L2.CX P w) 3 T.a_LevelTable_number T.fd_LevelTable_number ["self", "level"] (spNumber T.C_LevelTable) := by
  have G_is_integer : FnOk P w K mg base CX0 1 _ _ _ spIsInt := ok_isint T
  have G_LevelTable_knows : FnOk P w K mg base CX0 2 _ _ _ (spKnows T.C_LevelTable) := ok_knows T
  refine T.F_LevelTable_number.okX sc_LevelTable_number (fun vs H Q E h => ?_) (fun cdv A outer s H vs Q E hr h => ?_)
  · obtain ⟨x, dx, a, b, kvs, v, i, rfl, _⟩ := h.out
    rfl
  · obtain ⟨x, dx, a, b, kvs, v, i, rfl, hx, hb, c, k⟩ := h.out
    have hu := hu_of hr
    refine ⟨_, (pss_cons (ps_if (pt_not (pt_val (pe_meth (pv 0) T.o_LevelTable.cl T.Me_LevelTable_knows G_LevelTable_knows (hr.mono (by first | decide | omega)) T.b_LevelTable_knows .nil pass0 (pa_cons (pv 1) pa_nil))))
    (pss_one (ps_raise rfl (takes_of rfl rfl rfl rfl) (pmk_err T.E_BadLevel hr (pa_cons (pv 1) pa_nil) rfl)))
    pss_nil)
  (pss_one (ps_ret (pe_ifExp (pt_val (pe_call G_is_integer (hr.mono (by first | decide | omega)) rfl T.D_is_integer.g T.D_is_integer.F.kp T.D_is_integer.b .nil pass0 (pa_cons (pv 1) pa_nil))) (pv 1) (pe_dget hu (pe_fld (pv 0) rfl) (pv 1) (fun _ _ => rfl)))))), ?_⟩
    walk_at "sx"
    refine .a ⟨x, dx, a, b, kvs, v, i, rfl, hx, hb, c, ?_⟩
    refine ⟨true, rfl, if_false_of rfl ?_⟩
    walk_at "sx"
    rcases c with rfl | ⟨l, rfl, hv⟩
    · refine .a ⟨_, true, rfl, .inl ⟨i, rfl, rfl⟩, ?_⟩
      refine ⟨true, rfl, if_true_of rfl ?_⟩
      walk_at "sx"
      exact k
    · refine .a ⟨_, false, rfl, .inr ⟨_, rfl, rfl⟩, ?_⟩
      refine ⟨false, rfl, if_false_of rfl ?_⟩
      walk_at "sx"
      exact ⟨b, _, rfl, by have g := DGet.k (k := Sum.inr (SX.S l)) hb; rw [hv] at g; exact g, k⟩
end
end My

namespace My
open PySem PySem.Spec PyProof.Rows L2 SuX LTr DN
local macro_rules | `(tactic| walk_at "hp") => `(tactic| first | assumption | exact upd_same | (refine Eq.trans (upd_ne (by first | assumption | (apply Ne.symm; assumption))) ?_; walk_at "hp"))
local macro_rules | `(tactic| walk_at "ixl") => `(tactic| (refine' ⟨_, ?xs, _, ?vv, rfl, rfl, SqL.of ?hh, ?aa, ?qq⟩; (case hh => walk_at "hp"); (case aa => rfl)))
local macro_rules | `(tactic| walk_at "setl") => `(tactic| (refine' ⟨_, ?xs, _, ?jj, rfl, rfl, ?hh, ?aa, ?qq⟩; (case hh => walk_at "hp"); (case aa => rfl)))
local macro_rules | `(tactic| walk_at "cond") => `(tactic| first | exact ⟨_, rfl⟩ | exact Nat.le_of_lt (small1000 (Nat.le_of_ble_eq_true rfl)) | decide | omega | (dsimp only; omega) | exact ⟨by decide, by decide⟩ | exact Or.inr ⟨by decide, by decide⟩ | exact Or.inl ⟨by decide, by decide⟩ | exact ⟨by decide, by decide, by decide⟩ | exact ⟨by omega, by omega⟩ | exact ⟨by omega, by omega, by omega⟩ | (simp only [List.length_cons, List.length_nil, List.length_append, List.length_take, List.length_drop]; omega) | (refine ⟨?_, ?_, ?_⟩ <;> first | decide | omega | (simp only [List.length_cons, List.length_nil, List.length_append, List.length_take, List.length_drop, Option.getD_some, Option.getD_none]; omega)))
local macro_rules | `(tactic| walk_at "st") => `(tactic| repeat (first | refine ⟨_, rfl, ?_⟩ | refine ⟨_, _, rfl, rfl, ?_⟩ | walk_at "ixl" | walk_at "setl" | refine ⟨rfl, ?_⟩ | refine Or.inl ⟨_, rfl, ?_⟩ | refine And.intro (by walk_at "cond") ?_))
local macro_rules | `(tactic| walk_at "cls") => `(tactic| first | exact OC.cl (by assumption) | exact (‹Txt _ _›).o_Clock.cl | exact (‹Txt _ _›).o_LevelTable.cl | exact (‹Txt _ _›).o_LogRecord.cl | exact (‹Txt _ _›).o_Filter.cl | exact (‹Txt _ _›).o_Store.cl | exact (‹Txt _ _›).o_Written.cl | exact (‹Txt _ _›).o_Roster.cl | exact (‹Txt _ _›).o_Handler.cl | exact (‹Txt _ _›).o_NullHandler.cl | exact (‹Txt _ _›).o_Logger.cl | exact (‹Txt _ _›).o_LoggerTree.cl | exact (‹Txt _ _›).o_StreamHandler.cl | exact (‹Txt _ _›).o_Yard.cl)
local macro_rules | `(tactic| walk_at "na") => `(tactic| first | (refine na_of (by assumption) ?_; decide) | (refine na_of (‹Txt _ _›).o_Clock ?_; decide) | (refine na_of (‹Txt _ _›).o_LevelTable ?_; decide) | (refine na_of (‹Txt _ _›).o_LogRecord ?_; decide) | (refine na_of (‹Txt _ _›).o_Filter ?_; decide) | (refine na_of (‹Txt _ _›).o_Store ?_; decide) | (refine na_of (‹Txt _ _›).o_Written ?_; decide) | (refine na_of (‹Txt _ _›).o_Roster ?_; decide) | (refine na_of (‹Txt _ _›).o_Handler ?_; decide) | (refine na_of (‹Txt _ _›).o_NullHandler ?_; decide) | (refine na_of (‹Txt _ _›).o_Logger ?_; decide) | (refine na_of (‹Txt _ _›).o_LoggerTree ?_; decide) | (refine na_of (‹Txt _ _›).o_StreamHandler ?_; decide) | (refine na_of (‹Txt _ _›).o_Yard ?_; decide))
local macro_rules | `(tactic| walk_at "fld") => `(tactic| (refine' ⟨_, _, _, _, ?vv, rfl, ?hh, ?cc, ?nn, ?ll, ?qq⟩; (case hh => walk_at "hp"); (case cc => walk_at "cls"); (case nn => walk_at "na"); (case ll => exact rfl)))
local macro_rules | `(tactic| walk_at "sto") => `(tactic| (refine' ⟨_, _, _, _, rfl, ?hh, ?cc, ?nn, ?ll, ?qq⟩; (case hh => walk_at "hp"); (case cc => walk_at "cls"); (case nn => walk_at "na"); (case ll => first | exact Nat.le_of_ble_eq_true rfl | assumption)))
local macro_rules | `(tactic| walk_at "mth") => `(tactic| (refine' ⟨_, _, _, rfl, ?hh, ?ll, ?qq⟩; (case hh => walk_at "hp"); (case ll => exact rfl)))
local macro_rules | `(tactic| walk_at "sx") => `(tactic| repeat (first | refine ⟨_, rfl, ?_⟩ | refine ⟨_, _, rfl, rfl, ?_⟩ | walk_at "ixl" | walk_at "setl" | refine ⟨rfl, ?_⟩ | refine Or.inl ⟨_, rfl, ?_⟩ | walk_at "fld" | walk_at "sto" | walk_at "mth" | refine And.intro (by walk_at "cond") ?_))
section
variable {P : Program} {w : World} {K : PySem.W.Frag} {mg : Str → Option Value} {base : Heap}
def spLevelName (C : Addr) : Sp := fun vs H Q _ => Hd (∃ (x dx a b : Addr) (i : Int) (l : List Nat) (kvs : List (Key × V)), vs = [.ref x, .int i] ∧ H x = some (.ins C dx (fLv a b)) ∧ H a = some (.dK kvs) ∧ i.natAbs.log2 < 1920 ∧ (Str.empty ++ SX.S [76, 101, 118, 101, 108, 32] ++ Str.ofString (toString i)).length ≤ sizeLine ∧ valV kvs (Sum.inl i) = some (.str (SX.S l)) ∧ Q (.str (SX.S l)) H)
theorem ok_levelname (T : Txt K mg) : FnOk P w K mg base CX0 1 T.a_LevelTable_level_name T.fd_LevelTable_level_name ["self", "level"] (spLevelName T.C_LevelTable) := by
  refine T.F_LevelTable_level_name.ok sc_LevelTable_level_name (fun vs H Q E h => ?_) (fun cdv A outer s H vs Q E hr h => ?_)
  · obtain ⟨x, dx, a, b, i, l, kvs, rfl, _⟩ := h.out
    rfl
  · obtain ⟨x, dx, a, b, i, l, kvs, rfl, hx, ha, hi, hj, hv, k⟩ := h.out
    have hu := hu_of hr
    refine ⟨_, (pss_one (ps_ret (pe_dget2 hu (pe_fld (pv 0) rfl) (pv 1) (pe_joined (.cons (SL.pe_strL [76, 101, 118, 101, 108, 32] (by decide +kernel)) (.cons (pe_fmt (pv 1)) .nil))) ⟨rfl, rfl, rfl, rfl⟩))), ?_⟩
    walk_at "st"
    refine ⟨x, T.C_LevelTable, dx, _, .ref a, rfl, hx, T.o_LevelTable.cl, T.o_LevelTable.na _ (by decide), rfl, ?_⟩
    refine ⟨a, rfl, .inl ⟨_, .inl ha⟩, ?_⟩
    walk_at "st"
    refine .inr ⟨i, rfl, hi, ?_⟩
    refine ⟨_, rfl, hj, _, DGet.k (k := Sum.inl i) ha, ?_⟩
    rw [hv]
    exact k
end
end My

namespace My
open PySem PySem.Spec PyProof.Rows L2 SuX LTr DN
local macro_rules | `(tactic| walk_at "hp") => `(tactic| first | assumption | exact upd_same | (refine Eq.trans (upd_ne (by first | assumption | (apply Ne.symm; assumption))) ?_; walk_at "hp"))
local macro_rules | `(tactic| walk_at "ixl") => `(tactic| (refine' ⟨_, ?xs, _, ?vv, rfl, rfl, SqL.of ?hh, ?aa, ?qq⟩; (case hh => walk_at "hp"); (case aa => rfl)))
local macro_rules | `(tactic| walk_at "setl") => `(tactic| (refine' ⟨_, ?xs, _, ?jj, rfl, rfl, ?hh, ?aa, ?qq⟩; (case hh => walk_at "hp"); (case aa => rfl)))
local macro_rules | `(tactic| walk_at "cond") => `(tactic| first | exact ⟨_, rfl⟩ | exact Nat.le_of_lt (small1000 (Nat.le_of_ble_eq_true rfl)) | decide | omega | (dsimp only; omega) | exact ⟨by decide, by decide⟩ | exact Or.inr ⟨by decide, by decide⟩ | exact Or.inl ⟨by decide, by decide⟩ | exact ⟨by decide, by decide, by decide⟩ | exact ⟨by omega, by omega⟩ | exact ⟨by omega, by omega, by omega⟩ | (simp only [List.length_cons, List.length_nil, List.length_append, List.length_take, List.length_drop]; omega) | (refine ⟨?_, ?_, ?_⟩ <;> first | decide | omega | (simp only [List.length_cons, List.length_nil, List.length_append, List.length_take, List.length_drop, Option.getD_some, Option.getD_none]; omega)))
local macro_rules | `(tactic| walk_at "st") => `(tactic| repeat (first | refine ⟨_, rfl, ?_⟩ | refine ⟨_, _, rfl, rfl, ?_⟩ | walk_at "ixl" | walk_at "setl" | refine ⟨rfl, ?_⟩ | refine Or.inl ⟨_, rfl, ?_⟩ | refine And.intro (by walk_at "cond") ?_))
local macro_rules | `(tactic| walk_at "cls") => `(tactic| first | exact OC.cl (by assumption) | exact (‹Txt _ _›).o_Clock.cl | exact (‹Txt _ _›).o_LevelTable.cl | exact (‹Txt _ _›).o_LogRecord.cl | exact (‹Txt _ _›).o_Filter.cl | exact (‹Txt _ _›).o_Store.cl | exact (‹Txt _ _›).o_Written.cl | exact (‹Txt _ _›).o_Roster.cl | exact (‹Txt _ _›).o_Handler.cl | exact (‹Txt _ _›).o_NullHandler.cl | exact (‹Txt _ _›).o_Logger.cl | exact (‹Txt _ _›).o_LoggerTree.cl | exact (‹Txt _ _›).o_StreamHandler.cl | exact (‹Txt _ _›).o_Yard.cl)
local macro_rules | `(tactic| walk_at "na") => `(tactic| first | (refine na_of (by assumption) ?_; decide) | (refine na_of (‹Txt _ _›).o_Clock ?_; decide) | (refine na_of (‹Txt _ _›).o_LevelTable ?_; decide) | (refine na_of (‹Txt _ _›).o_LogRecord ?_; decide) | (refine na_of (‹Txt _ _›).o_Filter ?_; decide) | (refine na_of (‹Txt _ _›).o_Store ?_; decide) | (refine na_of (‹Txt _ _›).o_Written ?_; decide) | (refine na_of (‹Txt _ _›).o_Roster ?_; decide) | (refine na_of (‹Txt _ _›).o_Handler ?_; decide) | (refine na_of (‹Txt _ _›).o_NullHandler ?_; decide) | (refine na_of (‹Txt _ _›).o_Logger ?_; decide) | (refine na_of (‹Txt _ _›).o_LoggerTree ?_; decide) | (refine na_of (‹Txt _ _›).o_StreamHandler ?_; decide) | (refine na_of (‹Txt _ _›).o_Yard ?_; decide))
local macro_rules | `(tactic| walk_at "fld") => `(tactic| (refine' ⟨_, _, _, _, ?vv, rfl, ?hh, ?cc, ?nn, ?ll, ?qq⟩; (case hh => walk_at "hp"); (case cc => walk_at "cls"); (case nn => walk_at "na"); (case ll => exact rfl)))
local macro_rules | `(tactic| walk_at "sto") => `(tactic| (refine' ⟨_, _, _, _, rfl, ?hh, ?cc, ?nn, ?ll, ?qq⟩; (case hh => walk_at "hp"); (case cc => walk_at "cls"); (case nn => walk_at "na"); (case ll => first | exact Nat.le_of_ble_eq_true rfl | assumption)))
local macro_rules | `(tactic| walk_at "mth") => `(tactic| (refine' ⟨_, _, _, rfl, ?hh, ?ll, ?qq⟩; (case hh => walk_at "hp"); (case ll => exact rfl)))
local macro_rules | `(tactic| walk_at "sx") => `(tactic| repeat (first | refine ⟨_, rfl, ?_⟩ | refine ⟨_, _, rfl, rfl, ?_⟩ | walk_at "ixl" | walk_at "setl" | refine ⟨rfl, ?_⟩ | refine Or.inl ⟨_, rfl, ?_⟩ | walk_at "fld" | walk_at "sto" | walk_at "mth" | refine And.intro (by walk_at "cond") ?_))
section
variable {P : Program} {w : World} {K : PySem.W.Frag} {mg : Str → Option Value} {base : Heap}
theorem FnOk.or {CX : CXT} {k : Nat} {f : Addr} {fd : FuncData} {ps : List Str} {sp sp' : Sp} (a : FnOk P w K mg base CX k f fd ps sp) (b : FnOk P w K mg base CX k f fd ps sp') : FnOk P w K mg base CX k f fd ps (fun vs H Q E => sp vs H Q E ∨ sp' vs H Q E) :=
  ⟨fun vs H Q E h => h.elim (a.len vs H Q E) (b.len vs H Q E), fun A outer s H args us vs Q E hr e0 hb r h => h.elim (a.run A outer s H args us vs Q E hr e0 hb r) (b.run A outer s H args us vs Q E hr e0 hb r)⟩
def spLname0 : Sp := fun vs H Q _ => Hd (vs = [.str (SX.S [])] ∧ Q (.bl true) H)
theorem ok_lname0 (T : Txt K mg) : FnOk P w K mg base CX0 6 T.f_is_logger_name T.fd_is_logger_name ["thing"] spLname0 := by
  have G_is_dotted : FnOk P w K mg base CX0 5 T.f_is_dotted T.fd_is_dotted ["thing"] (fun _ _ _ _ => Hd False) := ⟨fun _ _ _ _ h => h.out.elim, fun _ _ _ _ _ _ _ _ _ _ _ _ _ h => h.out.elim⟩
  refine T.D_is_logger_name.F.ok sc_is_logger_name (fun vs H Q E h => ?_) (fun cdv A outer s H vs Q E hr h => ?_)
  · obtain ⟨rfl, _⟩ := h.out
    rfl
  · obtain ⟨rfl, k⟩ := h.out
    refine ⟨_, (pss_one (ps_ret (pe_or (pe_cmpR SL.op_eqL (pv 0) (SL.pe_strL [] (by decide +kernel)) (nomark _)) (pe_one (pe_call G_is_dotted (hr.mono (by first | decide | omega)) rfl T.D_is_dotted.g T.D_is_dotted.F.kp T.D_is_dotted.b .nil pass0 (pa_cons (pv 0) pa_nil)))))), ?_⟩
    walk_at "st"
    refine if_true_of (decide_eq_true rfl) ?_
    exact k
def spGet0 (T : Txt K mg) : Sp := fun vs H Q _ => Hd (∃ (A : TA) (l : List Nat), vs = [.ref A.tr, .str (SX.S l)] ∧ (l = [] ∨ l = sRoot) ∧ H A.tr = some (.ins T.C_LoggerTree A.dtr (fTrG A)) ∧ GxR.TabG H T.PP ∧ GxR.TabG H T.PD ∧ ∀ H', SmT H H' → Q (.ref A.rt) H')
theorem ok_get0 (T : Txt K mg) (TP : GxR.TabB base mg T.cP T.PP) (TD : GxR.TabB base mg T.cD T.PD) : FnOk P w K mg base (L2.CX P w) 7 T.a_LoggerTree_getLogger T.fd_LoggerTree_getLogger ["self", "name"] (spGet0 T) := by
  have G_LoggerTree_grow : FnOk P w K mg base CX0 3 _ _ _ (spGrowT T) := ok_grow T
  have G_is_logger_name : FnOk P w K mg base CX0 6 _ _ _ (fun vs H Q E => spDotted T.PP T.PD vs H Q E ∨ spLname0 vs H Q E) := FnOk.or (ok_lname T TP TD) (ok_lname0 T)
  refine T.F_LoggerTree_getLogger.ok sc_LoggerTree_getLogger (fun vs H Q E h => ?_) (fun cdv A outer s H vs Q E hr h => ?_)
  · obtain ⟨A, l, rfl, _⟩ := h.out
    rfl
  · obtain ⟨A, l, rfl, hl, htr, tP, tD, kQ⟩ := h.out
    have hu := hu_of hr
    have hu64 := hr.units
    refine ⟨_, (pss_cons (ps_if (pt_not (pt_val (pe_call G_is_logger_name (hr.mono (by first | decide | omega)) rfl T.D_is_logger_name.g T.D_is_logger_name.F.kp T.D_is_logger_name.b .nil pass0 (pa_cons (pv 1) pa_nil))))
    (pss_one (ps_raise rfl (takes_of rfl rfl rfl rfl) (pmk_err T.E_BadName hr (pa_cons (pv 1) pa_nil) rfl)))
    pss_nil)
  (pss_cons (ps_if (pt_cmpR op_in_seq (pv 1) (C8.pe_gc rfl T.k_ROOT_NAMES) rfl)
    (pss_one (ps_ret (pe_fld (pv 0) rfl)))
    pss_nil)
  (pss_cons (ps_if (pt_cmp (pc_dnotin hu (pv 1) (pe_fld (pv 0) rfl)))
    (pss_one (ps_expr (pe_meth (pv 0) T.o_LoggerTree.cl T.Me_LoggerTree_grow G_LoggerTree_grow (hr.mono (by first | decide | omega)) T.b_LoggerTree_grow .nil pass0 (pa_cons (pv 1) pa_nil))))
    pss_nil)
  (pss_one (ps_ret (pe_dget hu (pe_fld (pv 0) rfl) (pv 1) (fun _ _ => rfl))))))), ?_⟩
    walk_at "sx"
    rcases hl with rfl | rfl
    · refine .inr (.a ⟨rfl, ?_⟩)
      refine ⟨true, rfl, if_false_of rfl ?_⟩
      walk_at "sx"
      refine ⟨T.aRN, _, rfl, .inr (T.t_ROOT_NAMES _), rfl, rfl, ?_⟩
      refine ⟨_, rfl, if_true_of rfl ?_⟩
      walk_at "sx"
      exact kQ H (SmT.refl H)
    · refine .inl (.a ⟨[sRoot], by rw [dot_one]; rfl, ⟨by decide, by decide, by decide⟩, tP, tD, fun H1 s1 => ?_⟩)
      refine ⟨true, rfl, if_false_of rfl ?_⟩
      have htr1 := s1.st _ _ htr rfl
      walk_at "sx"
      refine ⟨T.aRN, _, rfl, .inr (T.t_ROOT_NAMES _), rfl, rfl, ?_⟩
      refine ⟨_, rfl, if_true_of rfl ?_⟩
      walk_at "sx"
      exact kQ H1 s1
def spGetY0 (T : Txt K mg) : Sp := fun vs H Q _ => Hd (∃ (A : TA) (l : List Nat) (dy : Addr) (fy : List (Str × V)), vs = [.ref A.y, .str (SX.S l)] ∧ (l = [] ∨ l = sRoot) ∧ H A.y = some (.ins T.C_Yard dy fy) ∧ fy.lookup ("tree" : Str) = some (.ref A.tr) ∧ H A.tr = some (.ins T.C_LoggerTree A.dtr (fTrG A)) ∧ GxR.TabG H T.PP ∧ GxR.TabG H T.PD ∧ ∀ H', SmT H H' → Q (.ref A.rt) H')
theorem ok_getY0 (T : Txt K mg) (TP : GxR.TabB base mg T.cP T.PP) (TD : GxR.TabB base mg T.cD T.PD) : FnOk P w K mg base (L2.CX P w) 8 T.a_Yard_getLogger T.fd_Yard_getLogger ["self", "name"] (spGetY0 T) := by
  have G_LoggerTree_getLogger : FnOk P w K mg base (L2.CX P w) 7 _ _ _ (spGet0 T) := ok_get0 T TP TD
  refine T.F_Yard_getLogger.ok sc_Yard_getLogger (fun vs H Q E h => ?_) (fun cdv A outer s H vs Q E hr h => ?_)
  · obtain ⟨A, l, dy, fy, rfl, _⟩ := h.out
    rfl
  · obtain ⟨A, l, dy, fy, rfl, hl, hy, lt, htr, tP, tD, kQ⟩ := h.out
    have hu := hu_of hr
    have hu64 := hr.units
    refine ⟨_, (pss_one (ps_ret (pe_meth (pe_fld (pv 0) rfl) T.o_LoggerTree.cl T.Me_LoggerTree_getLogger G_LoggerTree_getLogger (hr.mono (by first | decide | omega)) T.b_LoggerTree_getLogger .nil (passes_call (takes_of rfl rfl rfl rfl) (fun _ _ _ _ h => h)) (pa_cons (pv 1) pa_nil)))), ?_⟩
    walk_at "sx"
    refine ⟨A.y, T.C_Yard, dy, fy, _, rfl, hy, T.o_Yard.cl, T.o_Yard.na _ (by decide), lt, ?_⟩
    walk_at "sx"
    exact .a ⟨A, l, rfl, hl, htr, tP, tD, kQ⟩
end
end My

namespace My
open PySem PySem.Spec PyProof.Rows L2 SuX LTr DN
local macro_rules | `(tactic| walk_at "hp") => `(tactic| first | assumption | exact upd_same | (refine Eq.trans (upd_ne (by first | assumption | (apply Ne.symm; assumption))) ?_; walk_at "hp"))
local macro_rules | `(tactic| walk_at "ixl") => `(tactic| (refine' ⟨_, ?xs, _, ?vv, rfl, rfl, SqL.of ?hh, ?aa, ?qq⟩; (case hh => walk_at "hp"); (case aa => rfl)))
local macro_rules | `(tactic| walk_at "setl") => `(tactic| (refine' ⟨_, ?xs, _, ?jj, rfl, rfl, ?hh, ?aa, ?qq⟩; (case hh => walk_at "hp"); (case aa => rfl)))
local macro_rules | `(tactic| walk_at "cond") => `(tactic| first | exact ⟨_, rfl⟩ | exact Nat.le_of_lt (small1000 (Nat.le_of_ble_eq_true rfl)) | decide | omega | (dsimp only; omega) | exact ⟨by decide, by decide⟩ | exact Or.inr ⟨by decide, by decide⟩ | exact Or.inl ⟨by decide, by decide⟩ | exact ⟨by decide, by decide, by decide⟩ | exact ⟨by omega, by omega⟩ | exact ⟨by omega, by omega, by omega⟩ | (simp only [List.length_cons, List.length_nil, List.length_append, List.length_take, List.length_drop]; omega) | (refine ⟨?_, ?_, ?_⟩ <;> first | decide | omega | (simp only [List.length_cons, List.length_nil, List.length_append, List.length_take, List.length_drop, Option.getD_some, Option.getD_none]; omega)))
local macro_rules | `(tactic| walk_at "st") => `(tactic| repeat (first | refine ⟨_, rfl, ?_⟩ | refine ⟨_, _, rfl, rfl, ?_⟩ | walk_at "ixl" | walk_at "setl" | refine ⟨rfl, ?_⟩ | refine Or.inl ⟨_, rfl, ?_⟩ | refine And.intro (by walk_at "cond") ?_))
local macro_rules | `(tactic| walk_at "cls") => `(tactic| first | exact OC.cl (by assumption) | exact (‹Txt _ _›).o_Clock.cl | exact (‹Txt _ _›).o_LevelTable.cl | exact (‹Txt _ _›).o_LogRecord.cl | exact (‹Txt _ _›).o_Filter.cl | exact (‹Txt _ _›).o_Store.cl | exact (‹Txt _ _›).o_Written.cl | exact (‹Txt _ _›).o_Roster.cl | exact (‹Txt _ _›).o_Handler.cl | exact (‹Txt _ _›).o_NullHandler.cl | exact (‹Txt _ _›).o_Logger.cl | exact (‹Txt _ _›).o_LoggerTree.cl | exact (‹Txt _ _›).o_StreamHandler.cl | exact (‹Txt _ _›).o_Yard.cl)
local macro_rules | `(tactic| walk_at "na") => `(tactic| first | (refine na_of (by assumption) ?_; decide) | (refine na_of (‹Txt _ _›).o_Clock ?_; decide) | (refine na_of (‹Txt _ _›).o_LevelTable ?_; decide) | (refine na_of (‹Txt _ _›).o_LogRecord ?_; decide) | (refine na_of (‹Txt _ _›).o_Filter ?_; decide) | (refine na_of (‹Txt _ _›).o_Store ?_; decide) | (refine na_of (‹Txt _ _›).o_Written ?_; decide) | (refine na_of (‹Txt _ _›).o_Roster ?_; decide) | (refine na_of (‹Txt _ _›).o_Handler ?_; decide) | (refine na_of (‹Txt _ _›).o_NullHandler ?_; decide) | (refine na_of (‹Txt _ _›).o_Logger ?_; decide) | (refine na_of (‹Txt _ _›).o_LoggerTree ?_; decide) | (refine na_of (‹Txt _ _›).o_StreamHandler ?_; decide) | (refine na_of (‹Txt _ _›).o_Yard ?_; decide))
local macro_rules | `(tactic| walk_at "fld") => `(tactic| (refine' ⟨_, _, _, _, ?vv, rfl, ?hh, ?cc, ?nn, ?ll, ?qq⟩; (case hh => walk_at "hp"); (case cc => walk_at "cls"); (case nn => walk_at "na"); (case ll => exact rfl)))
local macro_rules | `(tactic| walk_at "sto") => `(tactic| (refine' ⟨_, _, _, _, rfl, ?hh, ?cc, ?nn, ?ll, ?qq⟩; (case hh => walk_at "hp"); (case cc => walk_at "cls"); (case nn => walk_at "na"); (case ll => first | exact Nat.le_of_ble_eq_true rfl | assumption)))
local macro_rules | `(tactic| walk_at "mth") => `(tactic| (refine' ⟨_, _, _, rfl, ?hh, ?ll, ?qq⟩; (case hh => walk_at "hp"); (case ll => exact rfl)))
local macro_rules | `(tactic| walk_at "sx") => `(tactic| repeat (first | refine ⟨_, rfl, ?_⟩ | refine ⟨_, _, rfl, rfl, ?_⟩ | walk_at "ixl" | walk_at "setl" | refine ⟨rfl, ?_⟩ | refine Or.inl ⟨_, rfl, ?_⟩ | walk_at "fld" | walk_at "sto" | walk_at "mth" | refine And.intro (by walk_at "cond") ?_))
def fLr (n l ln : V) (m : List Nat) (g : Addr) (c : V) (e : Addr) : List (Str × V) := [("name", n), ("levelno", l), ("levelname", ln), ("msg", .str (SX.S m)), ("given", .ref g), ("created", c), ("extra", .ref e)]
section
variable {P : Program} {w : World} {K : PySem.W.Frag} {mg : Str → Option Value} {base : Heap}
def spNo : Sp := fun _ _ _ _ => False
theorem ok_no {x qual : Str} {st : Stmt} {f : Addr} {fd : FuncData} {N ps : List Str} (F : Fun K x qual st f fd) (S : FnScope N ps (defScope st)) : FnOk P w K mg base CX0 1 f fd ps spNo :=
  F.ok (k := 0) S (fun _ _ _ _ h => h.elim) fun _ _ _ _ _ _ _ _ _ h => h.elim
theorem ok_noX {x qual : Str} {st : Stmt} {f : Addr} {fd : FuncData} {N ps : List Str} (F : Fun K x qual st f fd) (S : FnScope N ps (defScope st)) : FnOk P w K mg base (L2.CX P w) 1 f fd ps spNo :=
  F.okX (k := 0) S (fun _ _ _ _ h => h.elim) fun _ _ _ _ _ _ _ _ _ h => h.elim
/-- a copy of an empty dict, of an empty tuple -/
def spCopy0 : Sp := fun vs H Q _ => Hd (∃ (a : Addr), vs = [.ref a] ∧ H a = some (.dK []) ∧ ∀ H' b, H b = none → H' b = some (.dK []) → FrS [] H H' → Q (.ref b) H')
theorem ok_copy0 (T : Txt K mg) : FnOk P w K mg base CX0 2 T.f_own_copy T.fd_own_copy ["thing"] spCopy0 := by
  have G_own_copy : FnOk P w K mg base CX0 1 _ _ ["thing"] spNo := ok_no T.D_own_copy.F sc_own_copy
  refine T.D_own_copy.F.ok sc_own_copy (fun vs H Q E h => ?_) (fun cdv A outer s H vs Q E hr h => ?_)
  · obtain ⟨a, rfl, _⟩ := h.out
    rfl
  · obtain ⟨a, rfl, ha, k⟩ := h.out
    have hu := hu_of hr
    refine ⟨_, (pss_cons (ps_if (pt_val (pe_callB call_isi (by rfl) T.B.n_isinstance (by decide +kernel) (pa_cons (pv 0) (pa_cons (pe_bltn (v := .ty "dict") (u := .type "dict") (by rfl) T.B.n_dict (by decide +kernel) rfl) pa_nil))))
    (pss_cons (ps_set (i := 1) sc_own_copy.nd rfl (by first | exact Or.inl rfl | exact Or.inr rfl) pe_dnewK)
  (pss_cons (ps_lock (ps_for PassesOwn.never rfl (pi_keys (pv 0)) (pg_name (i := 2) sc_own_copy.nd rfl (by first | exact Or.inl rfl | exact Or.inr rfl))
    (pss_one (ps_dput hu (pv 1) (pv 2) (pe_call G_own_copy (hr.mono (by first | decide | omega)) rfl T.D_own_copy.g T.D_own_copy.F.kp T.D_own_copy.b .nil pass0 (pa_cons (pe_dget hu (pv 0) (pv 2) (fun _ _ => rfl)) pa_nil)) rfl))))
  (pss_one (ps_ret (pv 1)))))
    pss_nil)
  (pss_cons (ps_if (pt_val (pe_callB call_isiT (by rfl) T.B.n_isinstance (by decide +kernel) (pa_cons (pv 0) (pa_cons (pe_tup (pa_cons (pe_bltn (v := .ty "list") (u := .type "list") (by rfl) T.B.n_list (by decide +kernel) rfl) (pa_cons (pe_bltn (v := .ty "tuple") (u := .type "tuple") (by rfl) T.B.n_tuple (by decide +kernel) rfl) pa_nil))) pa_nil))))
    (pss_cons (ps_set (i := 3) sc_own_copy.nd rfl (by first | exact Or.inl rfl | exact Or.inr rfl) (pe_lst pa_nil))
  (pss_cons (ps_for PassesOwn.never rfl (pi_tup (pv 0)) (pg_name (i := 4) sc_own_copy.nd rfl (by first | exact Or.inl rfl | exact Or.inr rfl))
    (pss_one (ps_expr (pe_bm PySem.F.plainAttrs_list PySem.F.slot_list_append PySem.F.type_list_append mt_append (pv 3) (pa_cons (pe_call G_own_copy (hr.mono (by first | decide | omega)) rfl T.D_own_copy.g T.D_own_copy.F.kp T.D_own_copy.b .nil pass0 (pa_cons (pv 4) pa_nil)) pa_nil)))))
  (pss_one (ps_ret (pe_ifExp (pt_val (pe_callB call_isi (by rfl) T.B.n_isinstance (by decide +kernel) (pa_cons (pv 0) (pa_cons (pe_bltn (v := .ty "list") (u := .type "list") (by rfl) T.B.n_list (by decide +kernel) rfl) pa_nil)))) (pv 3) (pe_callTy call_tuple_of (by rfl) T.B.n_tuple (by decide +kernel) (pa_cons (pv 3) pa_nil)))))))
    pss_nil)
  (pss_one (ps_ret (pv 0))))), ?_⟩
    walk_at "st"
    refine ⟨.ref a, .ty "dict", _, _, true, rfl, .ty "dict", .base (.dK ha), kit_ty (by decide +kernel), ?_⟩
    refine ⟨true, rfl, if_true_of rfl ?_⟩
    walk_at "st"
    intro b hb
    have ab : a ≠ b := ne_of_none ha hb
    walk_at "st"
    refine ⟨a, .dK [], by rw [upd_ne ab]; exact ha, ⟨⟩, fun od => ?_⟩
    walk_at "st"
    refine ⟨a, od, rfl, .inl ⟨[], upd_same, ?_⟩⟩
    refine ⟨fun i m σ H1 => i = 0 ∧ m = 0 ∧ σ = [some (.ref a), some (.ref b), none, none, none] ∧ H1 = upd (upd H b (.dK [])) a (.frz od (.dK [])), ⟨0, rfl, rfl, rfl, rfl⟩, ?_⟩
    rintro i m σ H1 ⟨rfl, rfl, rfl, rfl⟩
    refine .inl ⟨?_, upd_same, ?_⟩
    · exact ⟨upd_same, Nat.le_refl _⟩
    walk_at "st"
    refine k _ b hb ?_ ?_
    · rw [upd_ne ab.symm, upd_ne ab.symm]; exact upd_same
    · intro c u _ e
      have cb : c ≠ b := ne_of_none e hb
      by_cases ca : c = a
      · rw [ca, ha] at e
        rw [ca, ← e]; exact upd_same
      · rw [upd_ne ca, upd_ne ca, upd_ne cb]; exact e
/-- a copy of an empty tuple -/
def spCopyT (K : PySem.W.Frag) : Sp := fun vs H Q _ => Hd (∃ (a : Addr), vs = [.ref a] ∧ (∀ H', FrS [] H H' → SqT K H' a [] ∧ TyX K H' (.ref a) (.type "tuple")) ∧ ∀ H' b, H b = none → H' b = some (.tup []) → FrS [] H H' → Q (.ref b) H')
theorem ok_copyT (T : Txt K mg) : FnOk P w K mg base CX0 2 T.f_own_copy T.fd_own_copy ["thing"] (spCopyT K) := by
  have G_own_copy : FnOk P w K mg base CX0 1 _ _ ["thing"] spNo := ok_no T.D_own_copy.F sc_own_copy
  refine T.D_own_copy.F.ok sc_own_copy (fun vs H Q E h => ?_) (fun cdv A outer s H vs Q E hr h => ?_)
  · obtain ⟨a, rfl, _⟩ := h.out
    rfl
  · obtain ⟨a, rfl, ha, k⟩ := h.out
    have ty := (ha H (FrS.refl _ _)).2
    have hu := hu_of hr
    refine ⟨_, (pss_cons (ps_if (pt_val (pe_callB call_isi (by rfl) T.B.n_isinstance (by decide +kernel) (pa_cons (pv 0) (pa_cons (pe_bltn (v := .ty "dict") (u := .type "dict") (by rfl) T.B.n_dict (by decide +kernel) rfl) pa_nil))))
    (pss_cons (ps_set (i := 1) sc_own_copy.nd rfl (by first | exact Or.inl rfl | exact Or.inr rfl) pe_dnewK)
  (pss_cons (ps_lock (ps_for PassesOwn.never rfl (pi_keys (pv 0)) (pg_name (i := 2) sc_own_copy.nd rfl (by first | exact Or.inl rfl | exact Or.inr rfl))
    (pss_one (ps_dput hu (pv 1) (pv 2) (pe_call G_own_copy (hr.mono (by first | decide | omega)) rfl T.D_own_copy.g T.D_own_copy.F.kp T.D_own_copy.b .nil pass0 (pa_cons (pe_dget hu (pv 0) (pv 2) (fun _ _ => rfl)) pa_nil)) rfl))))
  (pss_one (ps_ret (pv 1)))))
    pss_nil)
  (pss_cons (ps_if (pt_val (pe_callB call_isiT (by rfl) T.B.n_isinstance (by decide +kernel) (pa_cons (pv 0) (pa_cons (pe_tup (pa_cons (pe_bltn (v := .ty "list") (u := .type "list") (by rfl) T.B.n_list (by decide +kernel) rfl) (pa_cons (pe_bltn (v := .ty "tuple") (u := .type "tuple") (by rfl) T.B.n_tuple (by decide +kernel) rfl) pa_nil))) pa_nil))))
    (pss_cons (ps_set (i := 3) sc_own_copy.nd rfl (by first | exact Or.inl rfl | exact Or.inr rfl) (pe_lst pa_nil))
  (pss_cons (ps_for PassesOwn.never rfl (pi_tup (pv 0)) (pg_name (i := 4) sc_own_copy.nd rfl (by first | exact Or.inl rfl | exact Or.inr rfl))
    (pss_one (ps_expr (pe_bm PySem.F.plainAttrs_list PySem.F.slot_list_append PySem.F.type_list_append mt_append (pv 3) (pa_cons (pe_call G_own_copy (hr.mono (by first | decide | omega)) rfl T.D_own_copy.g T.D_own_copy.F.kp T.D_own_copy.b .nil pass0 (pa_cons (pv 4) pa_nil)) pa_nil)))))
  (pss_one (ps_ret (pe_ifExp (pt_val (pe_callB call_isi (by rfl) T.B.n_isinstance (by decide +kernel) (pa_cons (pv 0) (pa_cons (pe_bltn (v := .ty "list") (u := .type "list") (by rfl) T.B.n_list (by decide +kernel) rfl) pa_nil)))) (pv 3) (pe_callTy call_tuple_of (by rfl) T.B.n_tuple (by decide +kernel) (pa_cons (pv 3) pa_nil)))))))
    pss_nil)
  (pss_one (ps_ret (pv 0))))), ?_⟩
    walk_at "st"
    refine ⟨.ref a, .ty "dict", _, _, false, rfl, .ty "dict", ty, kit_ty (by decide +kernel), ?_⟩
    refine ⟨false, rfl, if_false_of rfl ?_⟩
    walk_at "st"
    intro t ht
    have f1 : FrS [] H (upd H t (.tup [.ty "list", .ty "tuple"])) := (FrS.refl _ H).new ht
    refine ⟨.ref a, t, _, .type "tuple", _, true, rfl, upd_same, (.cons (.ty "list") (.cons (.ty "tuple") .nil)), (ha _ f1).2, (kitAny_cons (b := false) (kit_ty (by decide +kernel)) (fun _ => (kitAny_cons (b := true) (kit_ty (by decide +kernel)) (fun h => nomatch h) (fun _ => rfl))) (fun h => nomatch h)), ?_⟩
    refine ⟨true, rfl, if_true_of rfl ?_⟩
    walk_at "st"
    intro r hr0
    have f2 : FrS [] H (upd (upd H t (.tup [.ty "list", .ty "tuple"])) r (.lst [])) := fun c u n e => by rw [upd_ne (neN (f1 c u n e) hr0)]; exact f1 c u n e
    walk_at "st"
    refine ⟨⟨[], (ha _ f2).1⟩, ?_⟩
    refine ⟨fun i m σ H1 => i = 0 ∧ m = 0 ∧ σ = [some (.ref a), none, none, some (.ref r), none] ∧ H1 = upd (upd H t (.tup [.ty "list", .ty "tuple"])) r (.lst []), ⟨0, rfl, rfl, rfl, rfl⟩, ?_⟩
    rintro i m σ H1 ⟨rfl, rfl, rfl, rfl⟩
    refine .inl ⟨⟨[], (ha _ f2).1, Nat.le_refl _⟩, ?_⟩
    walk_at "st"
    refine ⟨.ref a, .ty "list", _, _, false, rfl, .ty "list", (ha _ f2).2, kit_ty (by decide +kernel), ?_⟩
    refine ⟨false, rfl, if_false_of rfl ?_⟩
    walk_at "st"
    refine ⟨r, [], rfl, .inl ⟨SqL.of upd_same, fun b hb => ?_⟩⟩
    have f3 : FrS [] H (upd (upd (upd H t (.tup [.ty "list", .ty "tuple"])) r (.lst [])) b (.tup [])) := fun c u n e => by rw [upd_ne (neN (f2 c u n e) hb)]; exact f2 c u n e
    have hb0 : H b = none := by
      cases e : H b with
      | none => rfl
      | some u => have z := f2 b u (by simp) e; rw [hb] at z; cases z
    exact k _ b hb0 upd_same f3
end
end My

namespace My
open PySem PySem.Spec PyProof.Rows L2 SuX LTr DN
local macro_rules | `(tactic| walk_at "hp") => `(tactic| first | assumption | exact upd_same | (refine Eq.trans (upd_ne (by first | assumption | (apply Ne.symm; assumption))) ?_; walk_at "hp"))
local macro_rules | `(tactic| walk_at "ixl") => `(tactic| (refine' ⟨_, ?xs, _, ?vv, rfl, rfl, SqL.of ?hh, ?aa, ?qq⟩; (case hh => walk_at "hp"); (case aa => rfl)))
local macro_rules | `(tactic| walk_at "setl") => `(tactic| (refine' ⟨_, ?xs, _, ?jj, rfl, rfl, ?hh, ?aa, ?qq⟩; (case hh => walk_at "hp"); (case aa => rfl)))
local macro_rules | `(tactic| walk_at "cond") => `(tactic| first | exact ⟨_, rfl⟩ | exact Nat.le_of_lt (small1000 (Nat.le_of_ble_eq_true rfl)) | decide | omega | (dsimp only; omega) | exact ⟨by decide, by decide⟩ | exact Or.inr ⟨by decide, by decide⟩ | exact Or.inl ⟨by decide, by decide⟩ | exact ⟨by decide, by decide, by decide⟩ | exact ⟨by omega, by omega⟩ | exact ⟨by omega, by omega, by omega⟩ | (simp only [List.length_cons, List.length_nil, List.length_append, List.length_take, List.length_drop]; omega) | (refine ⟨?_, ?_, ?_⟩ <;> first | decide | omega | (simp only [List.length_cons, List.length_nil, List.length_append, List.length_take, List.length_drop, Option.getD_some, Option.getD_none]; omega)))
local macro_rules | `(tactic| walk_at "st") => `(tactic| repeat (first | refine ⟨_, rfl, ?_⟩ | refine ⟨_, _, rfl, rfl, ?_⟩ | walk_at "ixl" | walk_at "setl" | refine ⟨rfl, ?_⟩ | refine Or.inl ⟨_, rfl, ?_⟩ | refine And.intro (by walk_at "cond") ?_))
local macro_rules | `(tactic| walk_at "cls") => `(tactic| first | exact OC.cl (by assumption) | exact (‹Txt _ _›).o_Clock.cl | exact (‹Txt _ _›).o_LevelTable.cl | exact (‹Txt _ _›).o_LogRecord.cl | exact (‹Txt _ _›).o_Filter.cl | exact (‹Txt _ _›).o_Store.cl | exact (‹Txt _ _›).o_Written.cl | exact (‹Txt _ _›).o_Roster.cl | exact (‹Txt _ _›).o_Handler.cl | exact (‹Txt _ _›).o_NullHandler.cl | exact (‹Txt _ _›).o_Logger.cl | exact (‹Txt _ _›).o_LoggerTree.cl | exact (‹Txt _ _›).o_StreamHandler.cl | exact (‹Txt _ _›).o_Yard.cl)
local macro_rules | `(tactic| walk_at "na") => `(tactic| first | (refine na_of (by assumption) ?_; decide) | (refine na_of (‹Txt _ _›).o_Clock ?_; decide) | (refine na_of (‹Txt _ _›).o_LevelTable ?_; decide) | (refine na_of (‹Txt _ _›).o_LogRecord ?_; decide) | (refine na_of (‹Txt _ _›).o_Filter ?_; decide) | (refine na_of (‹Txt _ _›).o_Store ?_; decide) | (refine na_of (‹Txt _ _›).o_Written ?_; decide) | (refine na_of (‹Txt _ _›).o_Roster ?_; decide) | (refine na_of (‹Txt _ _›).o_Handler ?_; decide) | (refine na_of (‹Txt _ _›).o_NullHandler ?_; decide) | (refine na_of (‹Txt _ _›).o_Logger ?_; decide) | (refine na_of (‹Txt _ _›).o_LoggerTree ?_; decide) | (refine na_of (‹Txt _ _›).o_StreamHandler ?_; decide) | (refine na_of (‹Txt _ _›).o_Yard ?_; decide))
local macro_rules | `(tactic| walk_at "fld") => `(tactic| (refine' ⟨_, _, _, _, ?vv, rfl, ?hh, ?cc, ?nn, ?ll, ?qq⟩; (case hh => walk_at "hp"); (case cc => walk_at "cls"); (case nn => walk_at "na"); (case ll => exact rfl)))
local macro_rules | `(tactic| walk_at "sto") => `(tactic| (refine' ⟨_, _, _, _, rfl, ?hh, ?cc, ?nn, ?ll, ?qq⟩; (case hh => walk_at "hp"); (case cc => walk_at "cls"); (case nn => walk_at "na"); (case ll => first | exact Nat.le_of_ble_eq_true rfl | assumption)))
local macro_rules | `(tactic| walk_at "mth") => `(tactic| (refine' ⟨_, _, _, rfl, ?hh, ?ll, ?qq⟩; (case hh => walk_at "hp"); (case ll => exact rfl)))
local macro_rules | `(tactic| walk_at "sx") => `(tactic| repeat (first | refine ⟨_, rfl, ?_⟩ | refine ⟨_, _, rfl, rfl, ?_⟩ | walk_at "ixl" | walk_at "setl" | refine ⟨rfl, ?_⟩ | refine Or.inl ⟨_, rfl, ?_⟩ | walk_at "fld" | walk_at "sto" | walk_at "mth" | refine And.intro (by walk_at "cond") ?_))
section
variable {P : Program} {w : World} {K : PySem.W.Frag} {mg : Str → Option Value} {base : Heap}
/-- a record without args and further values -/
def spRec (C : Addr) (K : PySem.W.Frag) : Sp := fun vs H Q _ => Hd (∃ (x dx g0 e0 : Addr) (n l ln c : V) (m : List Nat), vs = [.ref x, n, l, ln, .str (SX.S m), .ref g0, c, .ref e0] ∧ H x = some (.ins C dx []) ∧ (∀ H', FrS [x] H H' → SqT K H' g0 [] ∧ TyX K H' (.ref g0) (.type "tuple")) ∧ H e0 = some (.dK []) ∧
  ∀ H' g e, H' x = some (.ins C dx (fLr n l ln m g c e)) → H' g = some (.tup []) → H' e = some (.dK []) → H g = none → H e = none → FrS [x] H H' → Q .non H')
theorem ok_rec (T : Txt K mg) : FnOk P w K mg base CX0 3 T.a_LogRecord_init T.fd_LogRecord_init ["self", "name", "levelno", "levelname", "msg", "given", "created", "extra"] (spRec T.C_LogRecord K) := by
  have G_own_copy : FnOk P w K mg base CX0 2 _ _ ["thing"] (fun vs H Q E => spCopyT K vs H Q E ∨ spCopy0 vs H Q E) := FnOk.or (ok_copyT T) (ok_copy0 T)
  refine T.F_LogRecord_init.ok sc_LogRecord___init__ (fun vs H Q E h => ?_) (fun cdv A outer s H vs Q E hr h => ?_)
  · obtain ⟨x, dx, g0, e0, n, l, ln, c, m, rfl, _⟩ := h.out
    rfl
  · obtain ⟨x, dx, g0, e0, n, l, ln, c, m, rfl, hx, hg, he, k⟩ := h.out
    refine ⟨_, (pss_cons (ps_fld (pv 0) (pv 1) rfl)
  (pss_cons (ps_fld (pv 0) (pv 2) rfl)
  (pss_cons (ps_fld (pv 0) (pv 3) rfl)
  (pss_cons (ps_fld (pv 0) (pv 4) rfl)
  (pss_cons (ps_fld (pv 0) (pe_call G_own_copy (hr.mono (by first | decide | omega)) rfl T.D_own_copy.g T.D_own_copy.F.kp T.D_own_copy.b .nil pass0 (pa_cons (pe_callTy call_tuple_of (by rfl) T.B.n_tuple (by decide +kernel) (pa_cons (pv 5) pa_nil)) pa_nil)) rfl)
  (pss_cons (ps_fld (pv 0) (pv 6) rfl)
  (pss_one (ps_fld (pv 0) (pe_call G_own_copy (hr.mono (by first | decide | omega)) rfl T.D_own_copy.g T.D_own_copy.F.kp T.D_own_copy.b .nil pass0 (pa_cons (pv 7) pa_nil)) rfl)))))))), ?_⟩
    walk_at "st"
    refine ⟨x, T.C_LogRecord, dx, _, rfl, hx, T.o_LogRecord.cl, T.o_LogRecord.na _ (by decide), Nat.le_of_ble_eq_true rfl, ?_⟩
    walk_at "st"
    refine ⟨x, T.C_LogRecord, dx, _, rfl, upd_same, T.o_LogRecord.cl, T.o_LogRecord.na _ (by decide), Nat.le_of_ble_eq_true rfl, ?_⟩
    walk_at "st"
    refine ⟨x, T.C_LogRecord, dx, _, rfl, upd_same, T.o_LogRecord.cl, T.o_LogRecord.na _ (by decide), Nat.le_of_ble_eq_true rfl, ?_⟩
    walk_at "st"
    refine ⟨x, T.C_LogRecord, dx, _, rfl, upd_same, T.o_LogRecord.cl, T.o_LogRecord.na _ (by decide), Nat.le_of_ble_eq_true rfl, ?_⟩
    have f4 : FrS [x] H (upd (upd (upd (upd H x (.ins T.C_LogRecord dx (putF "name" n []))) x (.ins T.C_LogRecord dx (putF "levelno" l (putF "name" n [])))) x (.ins T.C_LogRecord dx (putF "levelname" ln (putF "levelno" l (putF "name" n []))))) x (.ins T.C_LogRecord dx (putF "msg" (.str (SX.S m)) (putF "levelname" ln (putF "levelno" l (putF "name" n [])))))) :=
      ((((FrS.refl _ H).put (by simp)).put (by simp)).put (by simp)).put (by simp)
    have x4 : (upd (upd (upd (upd H x (.ins T.C_LogRecord dx (putF "name" n []))) x (.ins T.C_LogRecord dx (putF "levelno" l (putF "name" n [])))) x (.ins T.C_LogRecord dx (putF "levelname" ln (putF "levelno" l (putF "name" n []))))) x (.ins T.C_LogRecord dx (putF "msg" (.str (SX.S m)) (putF "levelname" ln (putF "levelno" l (putF "name" n [])))))) x = some (.ins T.C_LogRecord dx (putF "msg" (.str (SX.S m)) (putF "levelname" ln (putF "levelno" l (putF "name" n []))))) := upd_same
    generalize upd (upd (upd (upd H x (.ins T.C_LogRecord dx (putF "name" n []))) x (.ins T.C_LogRecord dx (putF "levelno" l (putF "name" n [])))) x (.ins T.C_LogRecord dx (putF "levelname" ln (putF "levelno" l (putF "name" n []))))) x (.ins T.C_LogRecord dx (putF "msg" (.str (SX.S m)) (putF "levelname" ln (putF "levelno" l (putF "name" n []))))) = H4 at f4 x4 ⊢
    have none4 : ∀ b, H4 b = none → H b = none := fun b hb => by
      cases e : H b with
      | none => rfl
      | some u =>
        have bx : b ≠ x := fun z => by rw [z, x4] at hb; cases hb
        have z := f4 b u (by simp [bx]) e
        rw [hb] at z; cases z
    walk_at "st"
    refine ⟨g0, [], rfl, .inr ⟨(hg _ f4).1, ?_⟩⟩
    walk_at "st"
    refine .inl (.a ⟨g0, rfl, fun H' q => hg H' (f4.trans (q.mono fun b hb => absurd hb List.not_mem_nil)), fun H5 g gn hg5 f5 => ?_⟩)
    have x5 := f5 x _ (by simp) x4
    have gx : g ≠ x := (neN x4 gn).symm
    walk_at "st"
    refine ⟨x, T.C_LogRecord, dx, _, rfl, x5, T.o_LogRecord.cl, T.o_LogRecord.na _ (by decide), Nat.le_of_ble_eq_true rfl, ?_⟩
    walk_at "st"
    refine ⟨x, T.C_LogRecord, dx, _, rfl, upd_same, T.o_LogRecord.cl, T.o_LogRecord.na _ (by decide), Nat.le_of_ble_eq_true rfl, ?_⟩
    walk_at "st"
    have ex : e0 ≠ x := fun z => by rw [z, hx] at he; cases he
    have he5 := f5 e0 _ (by simp) (f4 e0 _ (by simp [ex]) he)
    refine .inr (.a ⟨e0, rfl, by rw [upd_ne ex, upd_ne ex]; exact he5, fun H6 e en he6 f6 => ?_⟩)
    have x6 := f6 x _ (by simp) upd_same
    have e5 : e ≠ x := fun z => by rw [z, upd_same] at en; cases en
    have en5 : H5 e = none := by rw [upd_ne e5, upd_ne e5] at en; exact en
    have en4 : H4 e = none := by
      cases q : H4 e with
      | none => rfl
      | some u => have z := f5 e u (by simp) q; rw [en5] at z; cases z
    have f46 : FrS [x] H H6 := fun c u n q => f6 c u (by simp) (by
      have cx : c ≠ x := fun z => n (by rw [z]; exact List.mem_singleton.mpr rfl)
      rw [upd_ne cx, upd_ne cx]; exact f5 c u (by simp) (f4 c u n q))
    have g6 := f6 g _ (by simp) (by rw [upd_ne gx, upd_ne gx]; exact hg5)
    walk_at "st"
    refine ⟨x, T.C_LogRecord, dx, _, rfl, x6, T.o_LogRecord.cl, T.o_LogRecord.na _ (by decide), Nat.le_of_ble_eq_true rfl, ?_⟩
    exact k _ g e upd_same (by rw [upd_ne gx]; exact g6) (by rw [upd_ne e5]; exact he6) (none4 g gn) (none4 e en4) (f46.put (by simp))
end
end My

namespace My
open PySem PySem.Spec PyProof.Rows L2 SuX LTr DN
local macro_rules | `(tactic| walk_at "hp") => `(tactic| first | assumption | exact upd_same | (refine Eq.trans (upd_ne (by first | assumption | (apply Ne.symm; assumption))) ?_; walk_at "hp"))
local macro_rules | `(tactic| walk_at "ixl") => `(tactic| (refine' ⟨_, ?xs, _, ?vv, rfl, rfl, SqL.of ?hh, ?aa, ?qq⟩; (case hh => walk_at "hp"); (case aa => rfl)))
local macro_rules | `(tactic| walk_at "setl") => `(tactic| (refine' ⟨_, ?xs, _, ?jj, rfl, rfl, ?hh, ?aa, ?qq⟩; (case hh => walk_at "hp"); (case aa => rfl)))
local macro_rules | `(tactic| walk_at "cond") => `(tactic| first | exact ⟨_, rfl⟩ | exact Nat.le_of_lt (small1000 (Nat.le_of_ble_eq_true rfl)) | decide | omega | (dsimp only; omega) | exact ⟨by decide, by decide⟩ | exact Or.inr ⟨by decide, by decide⟩ | exact Or.inl ⟨by decide, by decide⟩ | exact ⟨by decide, by decide, by decide⟩ | exact ⟨by omega, by omega⟩ | exact ⟨by omega, by omega, by omega⟩ | (simp only [List.length_cons, List.length_nil, List.length_append, List.length_take, List.length_drop]; omega) | (refine ⟨?_, ?_, ?_⟩ <;> first | decide | omega | (simp only [List.length_cons, List.length_nil, List.length_append, List.length_take, List.length_drop, Option.getD_some, Option.getD_none]; omega)))
local macro_rules | `(tactic| walk_at "st") => `(tactic| repeat (first | refine ⟨_, rfl, ?_⟩ | refine ⟨_, _, rfl, rfl, ?_⟩ | walk_at "ixl" | walk_at "setl" | refine ⟨rfl, ?_⟩ | refine Or.inl ⟨_, rfl, ?_⟩ | refine And.intro (by walk_at "cond") ?_))
local macro_rules | `(tactic| walk_at "cls") => `(tactic| first | exact OC.cl (by assumption) | exact (‹Txt _ _›).o_Clock.cl | exact (‹Txt _ _›).o_LevelTable.cl | exact (‹Txt _ _›).o_LogRecord.cl | exact (‹Txt _ _›).o_Filter.cl | exact (‹Txt _ _›).o_Store.cl | exact (‹Txt _ _›).o_Written.cl | exact (‹Txt _ _›).o_Roster.cl | exact (‹Txt _ _›).o_Handler.cl | exact (‹Txt _ _›).o_NullHandler.cl | exact (‹Txt _ _›).o_Logger.cl | exact (‹Txt _ _›).o_LoggerTree.cl | exact (‹Txt _ _›).o_StreamHandler.cl | exact (‹Txt _ _›).o_Yard.cl)
local macro_rules | `(tactic| walk_at "na") => `(tactic| first | (refine na_of (by assumption) ?_; decide) | (refine na_of (‹Txt _ _›).o_Clock ?_; decide) | (refine na_of (‹Txt _ _›).o_LevelTable ?_; decide) | (refine na_of (‹Txt _ _›).o_LogRecord ?_; decide) | (refine na_of (‹Txt _ _›).o_Filter ?_; decide) | (refine na_of (‹Txt _ _›).o_Store ?_; decide) | (refine na_of (‹Txt _ _›).o_Written ?_; decide) | (refine na_of (‹Txt _ _›).o_Roster ?_; decide) | (refine na_of (‹Txt _ _›).o_Handler ?_; decide) | (refine na_of (‹Txt _ _›).o_NullHandler ?_; decide) | (refine na_of (‹Txt _ _›).o_Logger ?_; decide) | (refine na_of (‹Txt _ _›).o_LoggerTree ?_; decide) | (refine na_of (‹Txt _ _›).o_StreamHandler ?_; decide) | (refine na_of (‹Txt _ _›).o_Yard ?_; decide))
local macro_rules | `(tactic| walk_at "fld") => `(tactic| (refine' ⟨_, _, _, _, ?vv, rfl, ?hh, ?cc, ?nn, ?ll, ?qq⟩; (case hh => walk_at "hp"); (case cc => walk_at "cls"); (case nn => walk_at "na"); (case ll => exact rfl)))
local macro_rules | `(tactic| walk_at "sto") => `(tactic| (refine' ⟨_, _, _, _, rfl, ?hh, ?cc, ?nn, ?ll, ?qq⟩; (case hh => walk_at "hp"); (case cc => walk_at "cls"); (case nn => walk_at "na"); (case ll => first | exact Nat.le_of_ble_eq_true rfl | assumption)))
local macro_rules | `(tactic| walk_at "mth") => `(tactic| (refine' ⟨_, _, _, rfl, ?hh, ?ll, ?qq⟩; (case hh => walk_at "hp"); (case ll => exact rfl)))
local macro_rules | `(tactic| walk_at "sx") => `(tactic| repeat (first | refine ⟨_, rfl, ?_⟩ | refine ⟨_, _, rfl, rfl, ?_⟩ | walk_at "ixl" | walk_at "setl" | refine ⟨rfl, ?_⟩ | refine Or.inl ⟨_, rfl, ?_⟩ | walk_at "fld" | walk_at "sto" | walk_at "mth" | refine And.intro (by walk_at "cond") ?_))
section
variable {P : Program} {w : World} {K : PySem.W.Frag} {mg : Str → Option Value} {base : Heap}
/-- a record without args and further values, by a level's number that has a name -/
def spMadeR (T : Txt K mg) : Sp := fun vs H Q _ => Hd (∃ (lv dlv a b g0 : Addr) (c n v : V) (i : Int) (ln m : List Nat) (kvs kv2 : List (Key × V)), vs = [.ref lv, c, n, v, .str (SX.S m), .ref g0, .non] ∧ H lv = some (.ins T.C_LevelTable dlv (fLv a b)) ∧ H a = some (.dK kvs) ∧ H b = some (.dK kv2) ∧ LvV kv2 v i ∧ i.natAbs.log2 < 1920 ∧
  (Str.empty ++ SX.S [76, 101, 118, 101, 108, 32] ++ Str.ofString (toString i)).length ≤ sizeLine ∧ valV kvs (Sum.inl i) = some (.str (SX.S ln)) ∧ (∀ H', FrS [] H H' → SqT K H' g0 [] ∧ TyX K H' (.ref g0) (.type "tuple")) ∧
  ∀ H' r dr g e, H' r = some (.ins T.C_LogRecord dr (fLr n (.int i) (.str (SX.S ln)) m g c e)) → H' g = some (.tup []) → H r = none → FrS [] H H' → Q (.ref r) H')
theorem ok_madeR (T : Txt K mg) : FnOk P w K mg base (L2.CX P w) 5 T.f_made_record T.fd_made_record ["levels", "created", "name", "level", "msg", "args", "extra"] (spMadeR T) := by
  have G_LevelTable_number : FnOk P w K mg base (L2.CX P w) 3 _ _ _ (spNumber T.C_LevelTable) := ok_number T
  have G_LevelTable_level_name : FnOk P w K mg base CX0 1 _ _ _ (spLevelName T.C_LevelTable) := ok_levelname T
  have G_LogRecord : FnOk P w K mg base CX0 3 _ _ _ (spRec T.C_LogRecord K) := ok_rec T
  refine T.D_made_record.F.ok sc_made_record (fun vs H Q E h => ?_) (fun cdv A outer s H vs Q E hr h => ?_)
  · obtain ⟨lv, dlv, a, b, g0, c, n, v, i, ln, m, kvs, kv2, rfl, _⟩ := h.out
    rfl
  · obtain ⟨lv, dlv, a, b, g0, c, n, v, i, ln, m, kvs, kv2, rfl, hl, ha, hb, lvv, hi, hj, hv, hg, k⟩ := h.out
    have hu := hu_of hr
    refine ⟨_, (pss_cons (ps_set (i := 7) sc_made_record.nd rfl (by first | exact Or.inl rfl | exact Or.inr rfl) (pe_meth (pv 0) T.o_LevelTable.cl T.Me_LevelTable_number G_LevelTable_number (hr.mono (by first | decide | omega)) T.b_LevelTable_number .nil (passes_call (takes_of rfl rfl rfl rfl) (fun _ _ _ _ h => h)) (pa_cons (pv 3) pa_nil)))
  (pss_cons (ps_set (i := 8) sc_made_record.nd rfl (by first | exact Or.inl rfl | exact Or.inr rfl) (pe_ifExp (pt_cmpR op_isN (pv 6) pe_non (nomark _)) pe_dnewK (pv 6)))
  (pss_cons (ps_for (passes_of rfl) rfl (pi_tup (C8.pe_gc rfl T.k_KEPT_NAMES)) (pg_name (i := 9) sc_made_record.nd rfl (by first | exact Or.inl rfl | exact Or.inr rfl))
    (pss_one (ps_if (pt_cmp (pc_din hu (pv 9) (pv 8)))
    (pss_one (ps_raise rfl (takes_of rfl rfl rfl rfl) (pmk_err T.E_BadExtra hr (pa_cons (pv 9) pa_nil) rfl)))
    pss_nil)))
  (pss_one (ps_ret (pe_make T.M_LogRecord G_LogRecord (hr.mono (by first | decide | omega)) rfl T.g_LogRecord T.b_LogRecord_init .nil pass0 (pa_cons (pv 2) (pa_cons (pv 7) (pa_cons (pe_meth (pv 0) T.o_LevelTable.cl T.Me_LevelTable_level_name G_LevelTable_level_name (hr.mono (by first | decide | omega)) T.b_LevelTable_level_name .nil pass0 (pa_cons (pv 7) pa_nil)) (pa_cons (pv 4) (pa_cons (pv 5) (pa_cons (pv 1) (pa_cons (pv 8) pa_nil))))))))))))), ?_⟩
    walk_at "st"
    refine ⟨lv, dlv, _, rfl, hl, rfl, ?_⟩
    walk_at "st"
    refine .a ⟨lv, dlv, a, b, kv2, v, i, rfl, hl, hb, lvv, ?_⟩
    walk_at "st"
    intro d hd
    walk_at "st"
    have fd0 : FrS [] H (upd H d (.dK [])) := (FrS.refl _ H).new hd
    have ld : lv ≠ d := neN hl hd
    have ad : a ≠ d := neN ha hd
    refine ⟨⟨_, T.t_KEPT_NAMES _⟩, ?_⟩
    refine for_tupK (xs := keptNames.map fun l => V.str (SX.S l)) (fun j σ H1 => H1 = upd H d (.dK []) ∧ ∃ y, σ = [some (.ref lv), some c, some n, some v, some (.str (SX.S m)), some (.ref g0), some .non, some (.int i), some (.ref d), y]) (fun _ H1 => T.t_KEPT_NAMES H1) ⟨rfl, none, rfl⟩ ?_ ?_
    · rintro σ H1 ⟨rfl, y, rfl⟩
      walk_at "st"
      refine ⟨lv, dlv, _, rfl, by rw [upd_ne ld]; exact hl, rfl, ?_⟩
      walk_at "st"
      refine .a ⟨lv, dlv, a, b, i, ln, kvs, rfl, by rw [upd_ne ld]; exact hl, by rw [upd_ne ad]; exact ha, hi, hj, hv, ?_⟩
      walk_at "st"
      intro r dr r0 d0 dn
      have r00 : H r = none := by
        cases q : H r with
        | none => rfl
        | some u => have z := fd0 r u (by simp) q; rw [r0] at z; cases z
      have old : ∀ b u, upd H d (.dK []) b = some u → mkH (upd H d (.dK [])) T.C_LogRecord r dr b = some u := fun b u e => mkH_old r0 d0 e
      have f1 : FrS [] H (mkH (upd H d (.dK [])) T.C_LogRecord r dr) := fun c u n e => old c u (fd0 c u n e)
      refine .a ⟨r, dr, g0, d, n, .int i, .str (SX.S ln), c, m, rfl, upd_same, fun H' q => hg H' fun b u n e => q b u (by simp; exact neN e r00) (f1 b u n e), old _ _ upd_same, fun H' g e h1 h2 h3 h4 h5 fr => ?_⟩
      walk_at "st"
      exact k H' r dr g e h1 h2 r00 fun b u n e => fr b u (by simp; exact neN e r00) (f1 b u n e)
    · rintro R j σ H1 x ⟨rfl, y, rfl⟩ hx N hN
      obtain ⟨l, hl', rfl⟩ : ∃ l, keptNames[j]? = some l ∧ V.str (SX.S l) = x := by
        rw [List.getElem?_map] at hx
        cases q : keptNames[j]? with
        | none => rw [q] at hx; cases hx
        | some l => rw [q] at hx; exact ⟨l, rfl, Option.some.inj hx⟩
      walk_at "st"
      refine ⟨d, none, rfl, DGet.k (k := Sum.inr (SX.S l)) upd_same, ?_⟩
      refine ⟨false, rfl, if_false_of rfl ?_⟩
      rw [hN]
      exact .a ⟨rfl, _, rfl⟩
def spYMade (T : Txt K mg) : Sp := fun vs H Q _ => Hd (∃ (y dy g0 : Addr) (Y : YA) (c n v : V) (i : Int) (ln m : List Nat) (kvs kv2 : List (Key × V)), vs = [.ref y, n, v, .str (SX.S m), .ref g0, .non] ∧ H y = some (.ins T.C_Yard dy (fYd Y)) ∧ H Y.ck = some (.ins T.C_Clock Y.dck [("shown", c)]) ∧ H Y.lv = some (.ins T.C_LevelTable Y.dlv (fLv Y.n1 Y.n2)) ∧ H Y.n1 = some (.dK kvs) ∧ H Y.n2 = some (.dK kv2) ∧ LvV kv2 v i ∧ i.natAbs.log2 < 1920 ∧
  (Str.empty ++ SX.S [76, 101, 118, 101, 108, 32] ++ Str.ofString (toString i)).length ≤ sizeLine ∧ valV kvs (Sum.inl i) = some (.str (SX.S ln)) ∧ (∀ H', FrS [] H H' → SqT K H' g0 [] ∧ TyX K H' (.ref g0) (.type "tuple")) ∧
  ∀ H' r dr g e, H' r = some (.ins T.C_LogRecord dr (fLr n (.int i) (.str (SX.S ln)) m g c e)) → H' g = some (.tup []) → H r = none → FrS [] H H' → Q (.ref r) H')
theorem ok_ymade (T : Txt K mg) : FnOk P w K mg base (L2.CX P w) 6 T.a_Yard_make_record T.fd_Yard_make_record ["self", "name", "level", "msg", "args", "extra"] (spYMade T) := by
  have G_Clock_now : FnOk P w K mg base CX0 1 _ _ _ (spNow T.C_Clock) := ok_now T
  have G_made_record : FnOk P w K mg base (L2.CX P w) 5 _ _ _ (spMadeR T) := ok_madeR T
  refine T.F_Yard_make_record.ok sc_Yard_make_record (fun vs H Q E h => ?_) (fun cdv A outer s H vs Q E hr h => ?_)
  · obtain ⟨y, dy, g0, Y, c, n, v, i, ln, m, kvs, kv2, rfl, _⟩ := h.out
    rfl
  · obtain ⟨y, dy, g0, Y, c, n, v, i, ln, m, kvs, kv2, rfl, hy, hc, hl, ha, hb, lvv, hi, hj, hv, hg, k⟩ := h.out
    refine ⟨_, (pss_one (ps_ret (pe_call G_made_record (hr.mono (by first | decide | omega)) rfl T.D_made_record.g T.D_made_record.F.kp T.D_made_record.b .nil (passes_call (takes_of rfl rfl rfl rfl) (fun _ _ _ _ h => h)) (pa_cons (pe_fld (pv 0) rfl) (pa_cons (pe_meth0 (pe_fld (pv 0) rfl) T.o_Clock.cl T.Me_Clock_now G_Clock_now (hr.mono (by first | decide | omega)) T.b_Clock_now .nil pass0) (pa_cons (pv 1) (pa_cons (pv 2) (pa_cons (pv 3) (pa_cons (pv 4) (pa_cons (pv 5) pa_nil)))))))))), ?_⟩
    walk_at "st"
    refine ⟨y, T.C_Yard, dy, _, .ref Y.lv, rfl, hy, T.o_Yard.cl, T.o_Yard.na _ (by decide), rfl, ?_⟩
    walk_at "st"
    refine ⟨y, T.C_Yard, dy, _, .ref Y.ck, rfl, hy, T.o_Yard.cl, T.o_Yard.na _ (by decide), rfl, ?_⟩
    refine ⟨Y.ck, Y.dck, _, rfl, hc, rfl, ?_⟩
    walk_at "st"
    refine .a ⟨Y.ck, Y.dck, c, rfl, hc, ?_⟩
    walk_at "st"
    exact .a ⟨Y.lv, Y.dlv, Y.n1, Y.n2, g0, c, n, v, i, ln, m, kvs, kv2, rfl, hl, ha, hb, lvv, hi, hj, hv, hg, k⟩
end
end My

namespace My
open PySem PySem.Spec PyProof.Rows L2 SuX LTr DN
local macro_rules | `(tactic| walk_at "hp") => `(tactic| first | assumption | exact upd_same | (refine Eq.trans (upd_ne (by first | assumption | (apply Ne.symm; assumption))) ?_; walk_at "hp"))
local macro_rules | `(tactic| walk_at "ixl") => `(tactic| (refine' ⟨_, ?xs, _, ?vv, rfl, rfl, SqL.of ?hh, ?aa, ?qq⟩; (case hh => walk_at "hp"); (case aa => rfl)))
local macro_rules | `(tactic| walk_at "setl") => `(tactic| (refine' ⟨_, ?xs, _, ?jj, rfl, rfl, ?hh, ?aa, ?qq⟩; (case hh => walk_at "hp"); (case aa => rfl)))
local macro_rules | `(tactic| walk_at "cond") => `(tactic| first | exact ⟨_, rfl⟩ | exact Nat.le_of_lt (small1000 (Nat.le_of_ble_eq_true rfl)) | decide | omega | (dsimp only; omega) | exact ⟨by decide, by decide⟩ | exact Or.inr ⟨by decide, by decide⟩ | exact Or.inl ⟨by decide, by decide⟩ | exact ⟨by decide, by decide, by decide⟩ | exact ⟨by omega, by omega⟩ | exact ⟨by omega, by omega, by omega⟩ | (simp only [List.length_cons, List.length_nil, List.length_append, List.length_take, List.length_drop]; omega) | (refine ⟨?_, ?_, ?_⟩ <;> first | decide | omega | (simp only [List.length_cons, List.length_nil, List.length_append, List.length_take, List.length_drop, Option.getD_some, Option.getD_none]; omega)))
local macro_rules | `(tactic| walk_at "st") => `(tactic| repeat (first | refine ⟨_, rfl, ?_⟩ | refine ⟨_, _, rfl, rfl, ?_⟩ | walk_at "ixl" | walk_at "setl" | refine ⟨rfl, ?_⟩ | refine Or.inl ⟨_, rfl, ?_⟩ | refine And.intro (by walk_at "cond") ?_))
local macro_rules | `(tactic| walk_at "cls") => `(tactic| first | exact OC.cl (by assumption) | exact (‹Txt _ _›).o_Clock.cl | exact (‹Txt _ _›).o_LevelTable.cl | exact (‹Txt _ _›).o_LogRecord.cl | exact (‹Txt _ _›).o_Filter.cl | exact (‹Txt _ _›).o_Store.cl | exact (‹Txt _ _›).o_Written.cl | exact (‹Txt _ _›).o_Roster.cl | exact (‹Txt _ _›).o_Handler.cl | exact (‹Txt _ _›).o_NullHandler.cl | exact (‹Txt _ _›).o_Logger.cl | exact (‹Txt _ _›).o_LoggerTree.cl | exact (‹Txt _ _›).o_StreamHandler.cl | exact (‹Txt _ _›).o_Yard.cl)
local macro_rules | `(tactic| walk_at "na") => `(tactic| first | (refine na_of (by assumption) ?_; decide) | (refine na_of (‹Txt _ _›).o_Clock ?_; decide) | (refine na_of (‹Txt _ _›).o_LevelTable ?_; decide) | (refine na_of (‹Txt _ _›).o_LogRecord ?_; decide) | (refine na_of (‹Txt _ _›).o_Filter ?_; decide) | (refine na_of (‹Txt _ _›).o_Store ?_; decide) | (refine na_of (‹Txt _ _›).o_Written ?_; decide) | (refine na_of (‹Txt _ _›).o_Roster ?_; decide) | (refine na_of (‹Txt _ _›).o_Handler ?_; decide) | (refine na_of (‹Txt _ _›).o_NullHandler ?_; decide) | (refine na_of (‹Txt _ _›).o_Logger ?_; decide) | (refine na_of (‹Txt _ _›).o_LoggerTree ?_; decide) | (refine na_of (‹Txt _ _›).o_StreamHandler ?_; decide) | (refine na_of (‹Txt _ _›).o_Yard ?_; decide))
local macro_rules | `(tactic| walk_at "fld") => `(tactic| (refine' ⟨_, _, _, _, ?vv, rfl, ?hh, ?cc, ?nn, ?ll, ?qq⟩; (case hh => walk_at "hp"); (case cc => walk_at "cls"); (case nn => walk_at "na"); (case ll => exact rfl)))
local macro_rules | `(tactic| walk_at "sto") => `(tactic| (refine' ⟨_, _, _, _, rfl, ?hh, ?cc, ?nn, ?ll, ?qq⟩; (case hh => walk_at "hp"); (case cc => walk_at "cls"); (case nn => walk_at "na"); (case ll => first | exact Nat.le_of_ble_eq_true rfl | assumption)))
local macro_rules | `(tactic| walk_at "mth") => `(tactic| (refine' ⟨_, _, _, rfl, ?hh, ?ll, ?qq⟩; (case hh => walk_at "hp"); (case ll => exact rfl)))
local macro_rules | `(tactic| walk_at "sx") => `(tactic| repeat (first | refine ⟨_, rfl, ?_⟩ | refine ⟨_, _, rfl, rfl, ?_⟩ | walk_at "ixl" | walk_at "setl" | refine ⟨rfl, ?_⟩ | refine Or.inl ⟨_, rfl, ?_⟩ | walk_at "fld" | walk_at "sto" | walk_at "mth" | refine And.intro (by walk_at "cond") ?_))
/-! ### filters by names -/
def passB (l n : List Nat) : Bool := decide (l = []) || (decide (n = l) || decide (n.take (l.length + 1) = l ++ [46]))
def fFl (l : List Nat) : List (Str × V) := [("name", .str (SX.S l))]
section
variable {P : Program} {w : World} {K : PySem.W.Frag} {mg : Str → Option Value} {base : Heap}
def spFilter (C : Addr) : Sp := fun vs H Q _ => Hd (∃ (x dx : Addr) (l : List Nat), vs = [.ref x, .str (SX.S l)] ∧ H x = some (.ins C dx []) ∧ Q .non (upd H x (.ins C dx (fFl l))))
theorem ok_filter (T : Txt K mg) : FnOk P w K mg base CX0 1 T.a_Filter_init T.fd_Filter_init ["self", "name"] (spFilter T.C_Filter) := by
  refine T.F_Filter_init.ok sc_Filter___init__ (fun vs H Q E h => ?_) (fun cdv A outer s H vs Q E hr h => ?_)
  · obtain ⟨x, dx, l, rfl, _⟩ := h.out
    rfl
  · obtain ⟨x, dx, l, rfl, hx, k⟩ := h.out
    refine ⟨_, (pss_one (ps_fld (pv 0) (pv 1) rfl)), ?_⟩
    walk_at "sx"
    exact k
/-- a filter asked for a record -/
def spPasses (C CL : Addr) : Sp := fun vs H Q _ => Hd (∃ (x dx r dr : Addr) (l n : List Nat) (fr : List (Str × V)), vs = [.ref x, .ref r] ∧ H x = some (.ins C dx (fFl l)) ∧ H r = some (.ins CL dr fr) ∧ fr.lookup ("name" : Str) = some (.str (SX.S n)) ∧ l.length ≤ 1000 ∧ Q (.bl (passB l n)) H)
theorem ok_passes (T : Txt K mg) : FnOk P w K mg base CX0 1 T.a_Filter_passes T.fd_Filter_passes ["self", "record"] (spPasses T.C_Filter T.C_LogRecord) := by
  refine T.F_Filter_passes.ok sc_Filter_passes (fun vs H Q E h => ?_) (fun cdv A outer s H vs Q E hr h => ?_)
  · obtain ⟨x, dx, r, dr, l, n, fr, rfl, _⟩ := h.out
    rfl
  · obtain ⟨x, dx, r, dr, l, n, fr, rfl, hx, hr1, lr, zl, k⟩ := h.out
    have hu := hu_of hr
    refine ⟨_, (pss_cons (ps_if (PW.pt (pw_or (pt_cmpR SL.op_eqL (pe_fld (pv 0) rfl) (SL.pe_strL [] (by decide +kernel)) (nomark _)) (pw_or1 (pt_cmpR SL.op_eqL (pe_fld (pv 1) rfl) (pe_fld (pv 0) rfl) (nomark _)))))
    (pss_one (ps_ret pe_bl))
    pss_nil)
  (pss_one (ps_ret (pe_bm PySem.F.plainAttrs_str PySem.F.slot_str_startswith PySem.F.type_str_startswith SL.mt_swL (pe_fld (pv 1) rfl) (pa_cons (pe_op SL.op_addL (pe_fld (pv 0) rfl) (SL.pe_strL [46] (by decide +kernel))) pa_nil))))), ?_⟩
    walk_at "sx"
    by_cases h1 : l = []
    · refine if_true_of (decide_eq_true h1) ?_
      refine if_true_of rfl ?_
      have e : passB l n = true := by unfold passB; rw [decide_eq_true h1]; rfl
      rw [e] at k
      exact k
    · refine if_false_of (decide_eq_false h1) ?_
      walk_at "sx"
      refine ⟨r, T.C_LogRecord, dr, fr, _, rfl, hr1, T.o_LogRecord.cl, T.o_LogRecord.na _ (by decide), lr, ?_⟩
      walk_at "sx"
      by_cases h2 : n = l
      · refine if_true_of (decide_eq_true h2) ?_
        have e : passB l n = true := by unfold passB; rw [decide_eq_false h1, decide_eq_true h2]; rfl
        rw [e] at k
        exact k
      · refine if_false_of (decide_eq_false h2) ?_
        walk_at "sx"
        refine ⟨r, T.C_LogRecord, dr, fr, _, rfl, hr1, T.o_LogRecord.cl, T.o_LogRecord.na _ (by decide), lr, ?_⟩
        walk_at "sx"
        have e : passB l n = decide (n.take (l ++ [46]).length = l ++ [46]) := by
          unfold passB
          rw [decide_eq_false h1, decide_eq_false h2, List.length_append]
          rfl
        rw [e] at k
        exact k
/-- through one filter, through all of a list -/
def spThr1 (T : Txt K mg) : Sp := fun vs H Q _ => Hd (∃ (x dx r dr : Addr) (l n : List Nat) (fr : List (Str × V)), vs = [.ref x, .ref r] ∧ H x = some (.ins T.C_Filter dx (fFl l)) ∧ H r = some (.ins T.C_LogRecord dr fr) ∧ fr.lookup ("name" : Str) = some (.str (SX.S n)) ∧ l.length ≤ 1000 ∧ Q (if passB l n = true then .ref r else .non) H)
theorem ok_thr1 (T : Txt K mg) : FnOk P w K mg base CX0 2 T.f_through_one T.fd_through_one ["one", "record"] (spThr1 T) := by
  have G_Filter_passes : FnOk P w K mg base CX0 1 _ _ _ (spPasses T.C_Filter T.C_LogRecord) := ok_passes T
  refine T.D_through_one.F.ok sc_through_one (fun vs H Q E h => ?_) (fun cdv A outer s H vs Q E hr h => ?_)
  · obtain ⟨x, dx, r, dr, l, n, fr, rfl, _⟩ := h.out
    rfl
  · obtain ⟨x, dx, r, dr, l, n, fr, rfl, hx, hr1, lr, zl, k⟩ := h.out
    refine ⟨_, (pss_cons (ps_if (pt_val (pe_callB call_isi (by rfl) T.B.n_isinstance (by decide +kernel) (pa_cons (pv 0) (pa_cons (pe_glob (v := .ref (T.C_Filter)) (u := .ref (T.C_Filter)) rfl T.g_Filter rfl) pa_nil))))
    (pss_one (ps_ret (pe_ifExp (pt_val (pe_meth (pv 0) T.o_Filter.cl T.Me_Filter_passes G_Filter_passes (hr.mono (by first | decide | omega)) T.b_Filter_passes .nil pass0 (pa_cons (pv 1) pa_nil))) (pv 1) pe_non)))
    pss_nil)
  (pss_cons OQ.ps_dead
  (pss_cons OQ.ps_dead
  (pss_one OQ.ps_dead)))), ?_⟩
    walk_at "sx"
    refine ⟨.ref x, .ref T.C_Filter, _, _, true, rfl, .own _, T.tyi_Filter.ty T.o_Filter.cl hx, if_pos (by simp), ?_⟩
    refine ⟨true, rfl, if_true_of rfl ?_⟩
    walk_at "sx"
    refine .a ⟨x, dx, r, dr, l, n, fr, rfl, hx, hr1, lr, zl, ?_⟩
    cases hp : passB l n with
    | true =>
      rw [hp, if_pos rfl] at k
      refine ⟨true, rfl, if_true_of rfl ?_⟩
      walk_at "sx"
      exact k
    | false =>
      rw [hp, if_neg Bool.false_ne_true] at k
      refine ⟨false, rfl, if_false_of rfl ?_⟩
      walk_at "sx"
      exact k
/-- filters of a list: addresses and their names -/
def thrB (fs : List (List Nat)) (n : List Nat) : Bool := fs.all fun l => passB l n
def spThrA (T : Txt K mg) : Sp := fun vs H Q _ => Hd (∃ (a r dr : Addr) (n : List Nat) (fr : List (Str × V)) (fs : List (Addr × Addr × List Nat)), vs = [.ref a, .ref r] ∧ H a = some (.lst (fs.map fun f => V.ref f.1)) ∧ (∀ f ∈ fs, H f.1 = some (.ins T.C_Filter f.2.1 (fFl f.2.2)) ∧ f.2.2.length ≤ 1000) ∧ H r = some (.ins T.C_LogRecord dr fr) ∧ fr.lookup ("name" : Str) = some (.str (SX.S n)) ∧
  Q (if thrB (fs.map (·.2.2)) n = true then .ref r else .non) H)
theorem ok_thrA (T : Txt K mg) : FnOk P w K mg base CX0 3 T.f_through_all T.fd_through_all ["filters", "record"] (spThrA T) := by
  have G_through_one : FnOk P w K mg base CX0 2 _ _ _ (spThr1 T) := ok_thr1 T
  refine T.D_through_all.F.ok sc_through_all (fun vs H Q E h => ?_) (fun cdv A outer s H vs Q E hr h => ?_)
  · obtain ⟨a, r, dr, n, fr, fs, rfl, _⟩ := h.out
    rfl
  · obtain ⟨a, r, dr, n, fr, fs, rfl, ha, hf, hr1, lr, k⟩ := h.out
    refine ⟨_, (pss_cons (ps_for PassesOwn.never rfl (pi_list (pv 0)) (pg_name (i := 2) sc_through_all.nd rfl (by first | exact Or.inl rfl | exact Or.inr rfl))
    (pss_cons (ps_set (i := 1) sc_through_all.nd rfl (by first | exact Or.inl rfl | exact Or.inr rfl) (pe_call G_through_one (hr.mono (by first | decide | omega)) rfl T.D_through_one.g T.D_through_one.F.kp T.D_through_one.b .nil pass0 (pa_cons (pv 2) (pa_cons (pv 1) pa_nil))))
  (pss_one (ps_if (pt_cmpR op_isN (pv 1) pe_non (nomark _))
    (pss_one (ps_ret pe_non))
    pss_nil))))
  (pss_one (ps_ret (pv 1)))), ?_⟩
    walk_at "sx"
    refine ⟨⟨_, SqL.of ha⟩, ?_⟩
    refine for_list (xs := fs.map fun f => V.ref f.1) (fun i σ H1 => H1 = H ∧ thrB ((fs.take i).map (·.2.2)) n = true ∧ ∃ y, σ = [some (.ref a), some (.ref r), y]) ?_ ⟨rfl, rfl, none, rfl⟩ ?_ ?_
    · rintro i σ H1 ⟨rfl, _⟩
      exact ha
    · rintro σ H1 ⟨rfl, e, y, rfl⟩
      rw [List.length_map, List.take_length] at e
      rw [e, if_pos rfl] at k
      walk_at "sx"
      exact k
    · rintro R i σ H1 x ⟨rfl, e, y, rfl⟩ hx N hN
      obtain ⟨f, hfi, rfl⟩ := map_at hx
      obtain ⟨h1, h2⟩ := hf f (List.mem_of_getElem? hfi)
      walk_at "sx"
      refine .a ⟨f.1, f.2.1, r, dr, f.2.2, n, fr, rfl, h1, hr1, lr, h2, ?_⟩
      walk_at "sx"
      cases hp : passB f.2.2 n with
      | true =>
        refine if_false_of rfl ?_
        rw [hN]
        refine .a ⟨rfl, ?_, _, rfl⟩
        rw [take_snoc hfi, List.map_append]
        unfold thrB at e ⊢
        rw [List.all_append, e]
        show (true && (passB f.2.2 n && true)) = true
        rw [hp]
        rfl
      | false =>
        refine if_true_of rfl ?_
        have : thrB (fs.map (·.2.2)) n = false := by
          unfold thrB
          rw [List.all_eq_false]
          exact ⟨f.2.2, List.mem_map_of_mem (List.mem_of_getElem? hfi), by rw [hp]; exact Bool.false_ne_true⟩
        rw [this, if_neg Bool.false_ne_true] at k
        walk_at "sx"
        exact k
end
end My

namespace My
open PySem PySem.Spec PyProof.Rows L2 SuX LTr DN
local macro_rules | `(tactic| walk_at "hp") => `(tactic| first | assumption | exact upd_same | (refine Eq.trans (upd_ne (by first | assumption | (apply Ne.symm; assumption))) ?_; walk_at "hp"))
local macro_rules | `(tactic| walk_at "ixl") => `(tactic| (refine' ⟨_, ?xs, _, ?vv, rfl, rfl, SqL.of ?hh, ?aa, ?qq⟩; (case hh => walk_at "hp"); (case aa => rfl)))
local macro_rules | `(tactic| walk_at "setl") => `(tactic| (refine' ⟨_, ?xs, _, ?jj, rfl, rfl, ?hh, ?aa, ?qq⟩; (case hh => walk_at "hp"); (case aa => rfl)))
local macro_rules | `(tactic| walk_at "cond") => `(tactic| first | exact ⟨_, rfl⟩ | exact Nat.le_of_lt (small1000 (Nat.le_of_ble_eq_true rfl)) | decide | omega | (dsimp only; omega) | exact ⟨by decide, by decide⟩ | exact Or.inr ⟨by decide, by decide⟩ | exact Or.inl ⟨by decide, by decide⟩ | exact ⟨by decide, by decide, by decide⟩ | exact ⟨by omega, by omega⟩ | exact ⟨by omega, by omega, by omega⟩ | (simp only [List.length_cons, List.length_nil, List.length_append, List.length_take, List.length_drop]; omega) | (refine ⟨?_, ?_, ?_⟩ <;> first | decide | omega | (simp only [List.length_cons, List.length_nil, List.length_append, List.length_take, List.length_drop, Option.getD_some, Option.getD_none]; omega)))
local macro_rules | `(tactic| walk_at "st") => `(tactic| repeat (first | refine ⟨_, rfl, ?_⟩ | refine ⟨_, _, rfl, rfl, ?_⟩ | walk_at "ixl" | walk_at "setl" | refine ⟨rfl, ?_⟩ | refine Or.inl ⟨_, rfl, ?_⟩ | refine And.intro (by walk_at "cond") ?_))
local macro_rules | `(tactic| walk_at "cls") => `(tactic| first | exact OC.cl (by assumption) | exact (‹Txt _ _›).o_Clock.cl | exact (‹Txt _ _›).o_LevelTable.cl | exact (‹Txt _ _›).o_LogRecord.cl | exact (‹Txt _ _›).o_Filter.cl | exact (‹Txt _ _›).o_Store.cl | exact (‹Txt _ _›).o_Written.cl | exact (‹Txt _ _›).o_Roster.cl | exact (‹Txt _ _›).o_Handler.cl | exact (‹Txt _ _›).o_NullHandler.cl | exact (‹Txt _ _›).o_Logger.cl | exact (‹Txt _ _›).o_LoggerTree.cl | exact (‹Txt _ _›).o_StreamHandler.cl | exact (‹Txt _ _›).o_Yard.cl)
local macro_rules | `(tactic| walk_at "na") => `(tactic| first | (refine na_of (by assumption) ?_; decide) | (refine na_of (‹Txt _ _›).o_Clock ?_; decide) | (refine na_of (‹Txt _ _›).o_LevelTable ?_; decide) | (refine na_of (‹Txt _ _›).o_LogRecord ?_; decide) | (refine na_of (‹Txt _ _›).o_Filter ?_; decide) | (refine na_of (‹Txt _ _›).o_Store ?_; decide) | (refine na_of (‹Txt _ _›).o_Written ?_; decide) | (refine na_of (‹Txt _ _›).o_Roster ?_; decide) | (refine na_of (‹Txt _ _›).o_Handler ?_; decide) | (refine na_of (‹Txt _ _›).o_NullHandler ?_; decide) | (refine na_of (‹Txt _ _›).o_Logger ?_; decide) | (refine na_of (‹Txt _ _›).o_LoggerTree ?_; decide) | (refine na_of (‹Txt _ _›).o_StreamHandler ?_; decide) | (refine na_of (‹Txt _ _›).o_Yard ?_; decide))
local macro_rules | `(tactic| walk_at "fld") => `(tactic| (refine' ⟨_, _, _, _, ?vv, rfl, ?hh, ?cc, ?nn, ?ll, ?qq⟩; (case hh => walk_at "hp"); (case cc => walk_at "cls"); (case nn => walk_at "na"); (case ll => exact rfl)))
local macro_rules | `(tactic| walk_at "sto") => `(tactic| (refine' ⟨_, _, _, _, rfl, ?hh, ?cc, ?nn, ?ll, ?qq⟩; (case hh => walk_at "hp"); (case cc => walk_at "cls"); (case nn => walk_at "na"); (case ll => first | exact Nat.le_of_ble_eq_true rfl | assumption)))
local macro_rules | `(tactic| walk_at "mth") => `(tactic| (refine' ⟨_, _, _, rfl, ?hh, ?ll, ?qq⟩; (case hh => walk_at "hp"); (case ll => exact rfl)))
local macro_rules | `(tactic| walk_at "sx") => `(tactic| repeat (first | refine ⟨_, rfl, ?_⟩ | refine ⟨_, _, rfl, rfl, ?_⟩ | walk_at "ixl" | walk_at "setl" | refine ⟨rfl, ?_⟩ | refine Or.inl ⟨_, rfl, ?_⟩ | walk_at "fld" | walk_at "sto" | walk_at "mth" | refine And.intro (by walk_at "cond") ?_))
/-! ### filters put, taken out, asked: loggers -/
def addL (bs : List Addr) (x : Addr) : List Addr := if x ∈ bs then bs else bs ++ [x]
theorem upd_id {H : Hp} {a : Addr} {o : HO} (h : H a = some o) : upd H a o = H := by
  funext b
  by_cases e : b = a
  · rw [e, upd_same, h]
  · rw [upd_ne e]
section
variable {P : Program} {w : World} {K : PySem.W.Frag} {mg : Str → Option Value} {base : Heap}
/-- what a filter list asks -/
structure FL (K : PySem.W.Frag) (H : Hp) (a : Addr) (bs : List Addr) : Prop where
  l : H a = some (.lst (bs.map V.ref))
  o : ∀ b ∈ bs, OQ.ObjA K H b
  z : bs.length ≤ 1000
def spAddFL (T : Txt K mg) : Sp := fun vs H Q _ => Hd (∃ (g dg a x : Addr) (fg : List (Str × V)) (bs : List Addr), vs = [.ref g, .ref x] ∧ H g = some (.ins T.C_Logger dg fg) ∧ fg.lookup ("filters" : Str) = some (.ref a) ∧ FL K H a bs ∧ OQ.ObjA K H x ∧ Q .non (upd H a (.lst ((addL bs x).map V.ref))))
theorem ok_addFL (T : Txt K mg) : FnOk P w K mg base CX0 1 T.a_Logger_addFilter T.fd_Logger_addFilter ["self", "one"] (spAddFL T) := by
  refine T.F_Logger_addFilter.ok sc_Logger_addFilter (fun vs H Q E h => ?_) (fun cdv A outer s H vs Q E hr h => ?_)
  · obtain ⟨g, dg, a, x, fg, bs, rfl, _⟩ := h.out
    rfl
  · obtain ⟨g, dg, a, x, fg, bs, rfl, hg, lf, L, ox, k⟩ := h.out
    have hu64 := hr.units
    refine ⟨_, (pss_one (ps_if (pt_cmpR (OQ.op_notInO hu64) (pv 1) (pe_fld (pv 0) rfl) rfl)
    (pss_one (ps_expr (pe_bm PySem.F.plainAttrs_list PySem.F.slot_list_append PySem.F.type_list_append mt_append (pe_fld (pv 0) rfl) (pa_cons (pv 1) pa_nil))))
    pss_nil)), ?_⟩
    walk_at "sx"
    refine ⟨g, T.C_Logger, dg, fg, _, rfl, hg, T.o_Logger.cl, T.o_Logger.na _ (by decide), lf, ?_⟩
    refine ⟨a, x, bs, rfl, rfl, SqL.of L.l, ox, L.o, ?_⟩
    refine ⟨_, rfl, ?_⟩
    unfold addL at k
    by_cases hx : x ∈ bs
    · rw [if_pos hx, upd_id L.l] at k
      refine if_false_of (by rw [decide_eq_true hx]; rfl) ?_
      exact k
    · rw [if_neg hx, List.map_append] at k
      refine if_true_of (by rw [decide_eq_false hx]; rfl) ?_
      walk_at "sx"
      refine ⟨g, T.C_Logger, dg, fg, _, rfl, hg, T.o_Logger.cl, T.o_Logger.na _ (by decide), lf, ?_⟩
      walk_at "sx"
      refine ⟨.inl ⟨rfl, _, SqL.of L.l⟩, ?_⟩
      walk_at "sx"
      exact ⟨a, _, _, rfl, rfl, L.l, by rw [List.length_map]; exact Nat.lt_of_le_of_lt L.z (by decide), k⟩
def spRemFL (T : Txt K mg) : Sp := fun vs H Q _ => Hd (∃ (g dg a x : Addr) (fg : List (Str × V)) (bs : List Addr), vs = [.ref g, .ref x] ∧ H g = some (.ins T.C_Logger dg fg) ∧ fg.lookup ("filters" : Str) = some (.ref a) ∧ FL K H a bs ∧ OQ.ObjA K H x ∧ Q .non (upd H a (.lst ((bs.erase x).map V.ref))))
theorem ok_remFL (T : Txt K mg) : FnOk P w K mg base CX0 1 T.a_Logger_removeFilter T.fd_Logger_removeFilter ["self", "one"] (spRemFL T) := by
  refine T.F_Logger_removeFilter.ok sc_Logger_removeFilter (fun vs H Q E h => ?_) (fun cdv A outer s H vs Q E hr h => ?_)
  · obtain ⟨g, dg, a, x, fg, bs, rfl, _⟩ := h.out
    rfl
  · obtain ⟨g, dg, a, x, fg, bs, rfl, hg, lf, L, ox, k⟩ := h.out
    have hu64 := hr.units
    refine ⟨_, (pss_one (ps_if (pt_cmpR (OQ.op_inO hu64) (pv 1) (pe_fld (pv 0) rfl) rfl)
    (pss_one (ps_expr (pe_bm PySem.F.plainAttrs_list PySem.F.slot_list_remove PySem.F.type_list_remove (OQ.mt_removeO hu64) (pe_fld (pv 0) rfl) (pa_cons (pv 1) pa_nil))))
    pss_nil)), ?_⟩
    walk_at "sx"
    refine ⟨g, T.C_Logger, dg, fg, _, rfl, hg, T.o_Logger.cl, T.o_Logger.na _ (by decide), lf, ?_⟩
    refine ⟨a, x, bs, rfl, rfl, SqL.of L.l, ox, L.o, ?_⟩
    refine ⟨_, rfl, ?_⟩
    by_cases hx : x ∈ bs
    · refine if_true_of (by rw [decide_eq_true hx]; rfl) ?_
      walk_at "sx"
      refine ⟨g, T.C_Logger, dg, fg, _, rfl, hg, T.o_Logger.cl, T.o_Logger.na _ (by decide), lf, ?_⟩
      walk_at "sx"
      refine ⟨.inl ⟨rfl, _, SqL.of L.l⟩, ?_⟩
      walk_at "sx"
      exact ⟨a, x, bs, rfl, rfl, L.l, hx, L.z, ox, L.o, k⟩
    · rw [List.erase_of_not_mem hx, upd_id L.l] at k
      refine if_false_of (by rw [decide_eq_false hx]; rfl) ?_
      exact k
def spFiltL (T : Txt K mg) : Sp := fun vs H Q _ => Hd (∃ (g dg a r dr : Addr) (fg fr : List (Str × V)) (n : List Nat) (fs : List (Addr × Addr × List Nat)), vs = [.ref g, .ref r] ∧ H g = some (.ins T.C_Logger dg fg) ∧ fg.lookup ("filters" : Str) = some (.ref a) ∧ H a = some (.lst (fs.map fun f => V.ref f.1)) ∧ (∀ f ∈ fs, H f.1 = some (.ins T.C_Filter f.2.1 (fFl f.2.2)) ∧ f.2.2.length ≤ 1000) ∧ H r = some (.ins T.C_LogRecord dr fr) ∧ fr.lookup ("name" : Str) = some (.str (SX.S n)) ∧
  Q (if thrB (fs.map (·.2.2)) n = true then .ref r else .non) H)
theorem ok_filtL (T : Txt K mg) : FnOk P w K mg base CX0 4 T.a_Logger_filtered T.fd_Logger_filtered ["self", "record"] (spFiltL T) := by
  have G_through_all : FnOk P w K mg base CX0 3 _ _ _ (spThrA T) := ok_thrA T
  refine T.F_Logger_filtered.ok sc_Logger_filtered (fun vs H Q E h => ?_) (fun cdv A outer s H vs Q E hr h => ?_)
  · obtain ⟨g, dg, a, r, dr, fg, fr, n, fs, rfl, _⟩ := h.out
    rfl
  · obtain ⟨g, dg, a, r, dr, fg, fr, n, fs, rfl, hg, lf, ha, hf, hr1, lr, k⟩ := h.out
    refine ⟨_, (pss_one (ps_ret (pe_call G_through_all (hr.mono (by first | decide | omega)) rfl T.D_through_all.g T.D_through_all.F.kp T.D_through_all.b .nil pass0 (pa_cons (pe_fld (pv 0) rfl) (pa_cons (pv 1) pa_nil))))), ?_⟩
    walk_at "sx"
    refine ⟨g, T.C_Logger, dg, fg, _, rfl, hg, T.o_Logger.cl, T.o_Logger.na _ (by decide), lf, ?_⟩
    walk_at "sx"
    exact .a ⟨a, r, dr, n, fr, fs, rfl, ha, hf, hr1, lr, k⟩
end
end My

namespace My
open PySem PySem.Spec PyProof.Rows L2 SuX LTr DN
local macro_rules | `(tactic| walk_at "hp") => `(tactic| first | assumption | exact upd_same | (refine Eq.trans (upd_ne (by first | assumption | (apply Ne.symm; assumption))) ?_; walk_at "hp"))
local macro_rules | `(tactic| walk_at "ixl") => `(tactic| (refine' ⟨_, ?xs, _, ?vv, rfl, rfl, SqL.of ?hh, ?aa, ?qq⟩; (case hh => walk_at "hp"); (case aa => rfl)))
local macro_rules | `(tactic| walk_at "setl") => `(tactic| (refine' ⟨_, ?xs, _, ?jj, rfl, rfl, ?hh, ?aa, ?qq⟩; (case hh => walk_at "hp"); (case aa => rfl)))
local macro_rules | `(tactic| walk_at "cond") => `(tactic| first | exact ⟨_, rfl⟩ | exact Nat.le_of_lt (small1000 (Nat.le_of_ble_eq_true rfl)) | decide | omega | (dsimp only; omega) | exact ⟨by decide, by decide⟩ | exact Or.inr ⟨by decide, by decide⟩ | exact Or.inl ⟨by decide, by decide⟩ | exact ⟨by decide, by decide, by decide⟩ | exact ⟨by omega, by omega⟩ | exact ⟨by omega, by omega, by omega⟩ | (simp only [List.length_cons, List.length_nil, List.length_append, List.length_take, List.length_drop]; omega) | (refine ⟨?_, ?_, ?_⟩ <;> first | decide | omega | (simp only [List.length_cons, List.length_nil, List.length_append, List.length_take, List.length_drop, Option.getD_some, Option.getD_none]; omega)))
local macro_rules | `(tactic| walk_at "st") => `(tactic| repeat (first | refine ⟨_, rfl, ?_⟩ | refine ⟨_, _, rfl, rfl, ?_⟩ | walk_at "ixl" | walk_at "setl" | refine ⟨rfl, ?_⟩ | refine Or.inl ⟨_, rfl, ?_⟩ | refine And.intro (by walk_at "cond") ?_))
local macro_rules | `(tactic| walk_at "cls") => `(tactic| first | exact OC.cl (by assumption) | exact (‹Txt _ _›).o_Clock.cl | exact (‹Txt _ _›).o_LevelTable.cl | exact (‹Txt _ _›).o_LogRecord.cl | exact (‹Txt _ _›).o_Filter.cl | exact (‹Txt _ _›).o_Store.cl | exact (‹Txt _ _›).o_Written.cl | exact (‹Txt _ _›).o_Roster.cl | exact (‹Txt _ _›).o_Handler.cl | exact (‹Txt _ _›).o_NullHandler.cl | exact (‹Txt _ _›).o_Logger.cl | exact (‹Txt _ _›).o_LoggerTree.cl | exact (‹Txt _ _›).o_StreamHandler.cl | exact (‹Txt _ _›).o_Yard.cl)
local macro_rules | `(tactic| walk_at "na") => `(tactic| first | (refine na_of (by assumption) ?_; decide) | (refine na_of (‹Txt _ _›).o_Clock ?_; decide) | (refine na_of (‹Txt _ _›).o_LevelTable ?_; decide) | (refine na_of (‹Txt _ _›).o_LogRecord ?_; decide) | (refine na_of (‹Txt _ _›).o_Filter ?_; decide) | (refine na_of (‹Txt _ _›).o_Store ?_; decide) | (refine na_of (‹Txt _ _›).o_Written ?_; decide) | (refine na_of (‹Txt _ _›).o_Roster ?_; decide) | (refine na_of (‹Txt _ _›).o_Handler ?_; decide) | (refine na_of (‹Txt _ _›).o_NullHandler ?_; decide) | (refine na_of (‹Txt _ _›).o_Logger ?_; decide) | (refine na_of (‹Txt _ _›).o_LoggerTree ?_; decide) | (refine na_of (‹Txt _ _›).o_StreamHandler ?_; decide) | (refine na_of (‹Txt _ _›).o_Yard ?_; decide))
local macro_rules | `(tactic| walk_at "fld") => `(tactic| (refine' ⟨_, _, _, _, ?vv, rfl, ?hh, ?cc, ?nn, ?ll, ?qq⟩; (case hh => walk_at "hp"); (case cc => walk_at "cls"); (case nn => walk_at "na"); (case ll => exact rfl)))
local macro_rules | `(tactic| walk_at "sto") => `(tactic| (refine' ⟨_, _, _, _, rfl, ?hh, ?cc, ?nn, ?ll, ?qq⟩; (case hh => walk_at "hp"); (case cc => walk_at "cls"); (case nn => walk_at "na"); (case ll => first | exact Nat.le_of_ble_eq_true rfl | assumption)))
local macro_rules | `(tactic| walk_at "mth") => `(tactic| (refine' ⟨_, _, _, rfl, ?hh, ?ll, ?qq⟩; (case hh => walk_at "hp"); (case ll => exact rfl)))
local macro_rules | `(tactic| walk_at "sx") => `(tactic| repeat (first | refine ⟨_, rfl, ?_⟩ | refine ⟨_, _, rfl, rfl, ?_⟩ | walk_at "ixl" | walk_at "setl" | refine ⟨rfl, ?_⟩ | refine Or.inl ⟨_, rfl, ?_⟩ | walk_at "fld" | walk_at "sto" | walk_at "mth" | refine And.intro (by walk_at "cond") ?_))
section
variable {P : Program} {w : World} {K : PySem.W.Frag} {mg : Str → Option Value} {base : Heap}
def spAddFH (T : Txt K mg) : Sp := fun vs H Q _ => Hd (∃ (g dg a x C : Addr) (fg : List (Str × V)) (bs : List Addr), vs = [.ref g, .ref x] ∧ H g = some (.ins C dg fg) ∧ OC K C hF ∧ fg.lookup ("filters" : Str) = some (.ref a) ∧ FL K H a bs ∧ OQ.ObjA K H x ∧ Q .non (upd H a (.lst ((addL bs x).map V.ref))))
theorem ok_addFH (T : Txt K mg) : FnOk P w K mg base CX0 1 T.a_Handler_addFilter T.fd_Handler_addFilter ["self", "one"] (spAddFH T) := by
  refine T.F_Handler_addFilter.ok sc_Handler_addFilter (fun vs H Q E h => ?_) (fun cdv A outer s H vs Q E hr h => ?_)
  · obtain ⟨g, dg, a, x, C, fg, bs, rfl, _⟩ := h.out
    rfl
  · obtain ⟨g, dg, a, x, C, fg, bs, rfl, hg, oC, lf, L, ox, k⟩ := h.out
    have hu64 := hr.units
    refine ⟨_, (pss_one (ps_if (pt_cmpR (OQ.op_notInO hu64) (pv 1) (pe_fld (pv 0) rfl) rfl)
    (pss_one (ps_expr (pe_bm PySem.F.plainAttrs_list PySem.F.slot_list_append PySem.F.type_list_append mt_append (pe_fld (pv 0) rfl) (pa_cons (pv 1) pa_nil))))
    pss_nil)), ?_⟩
    walk_at "sx"
    refine ⟨g, C, dg, fg, _, rfl, hg, oC.cl, oC.na _ (by decide), lf, ?_⟩
    refine ⟨a, x, bs, rfl, rfl, SqL.of L.l, ox, L.o, ?_⟩
    refine ⟨_, rfl, ?_⟩
    unfold addL at k
    by_cases hx : x ∈ bs
    · rw [if_pos hx, upd_id L.l] at k
      refine if_false_of (by rw [decide_eq_true hx]; rfl) ?_
      exact k
    · rw [if_neg hx, List.map_append] at k
      refine if_true_of (by rw [decide_eq_false hx]; rfl) ?_
      walk_at "sx"
      refine ⟨g, C, dg, fg, _, rfl, hg, oC.cl, oC.na _ (by decide), lf, ?_⟩
      walk_at "sx"
      refine ⟨.inl ⟨rfl, _, SqL.of L.l⟩, ?_⟩
      walk_at "sx"
      exact ⟨a, _, _, rfl, rfl, L.l, by rw [List.length_map]; exact Nat.lt_of_le_of_lt L.z (by decide), k⟩
def spRemFH (T : Txt K mg) : Sp := fun vs H Q _ => Hd (∃ (g dg a x C : Addr) (fg : List (Str × V)) (bs : List Addr), vs = [.ref g, .ref x] ∧ H g = some (.ins C dg fg) ∧ OC K C hF ∧ fg.lookup ("filters" : Str) = some (.ref a) ∧ FL K H a bs ∧ OQ.ObjA K H x ∧ Q .non (upd H a (.lst ((bs.erase x).map V.ref))))
theorem ok_remFH (T : Txt K mg) : FnOk P w K mg base CX0 1 T.a_Handler_removeFilter T.fd_Handler_removeFilter ["self", "one"] (spRemFH T) := by
  refine T.F_Handler_removeFilter.ok sc_Handler_removeFilter (fun vs H Q E h => ?_) (fun cdv A outer s H vs Q E hr h => ?_)
  · obtain ⟨g, dg, a, x, C, fg, bs, rfl, _⟩ := h.out
    rfl
  · obtain ⟨g, dg, a, x, C, fg, bs, rfl, hg, oC, lf, L, ox, k⟩ := h.out
    have hu64 := hr.units
    refine ⟨_, (pss_one (ps_if (pt_cmpR (OQ.op_inO hu64) (pv 1) (pe_fld (pv 0) rfl) rfl)
    (pss_one (ps_expr (pe_bm PySem.F.plainAttrs_list PySem.F.slot_list_remove PySem.F.type_list_remove (OQ.mt_removeO hu64) (pe_fld (pv 0) rfl) (pa_cons (pv 1) pa_nil))))
    pss_nil)), ?_⟩
    walk_at "sx"
    refine ⟨g, C, dg, fg, _, rfl, hg, oC.cl, oC.na _ (by decide), lf, ?_⟩
    refine ⟨a, x, bs, rfl, rfl, SqL.of L.l, ox, L.o, ?_⟩
    refine ⟨_, rfl, ?_⟩
    by_cases hx : x ∈ bs
    · refine if_true_of (by rw [decide_eq_true hx]; rfl) ?_
      walk_at "sx"
      refine ⟨g, C, dg, fg, _, rfl, hg, oC.cl, oC.na _ (by decide), lf, ?_⟩
      walk_at "sx"
      refine ⟨.inl ⟨rfl, _, SqL.of L.l⟩, ?_⟩
      walk_at "sx"
      exact ⟨a, x, bs, rfl, rfl, L.l, hx, L.z, ox, L.o, k⟩
    · rw [List.erase_of_not_mem hx, upd_id L.l] at k
      refine if_false_of (by rw [decide_eq_false hx]; rfl) ?_
      exact k
def spFiltH (T : Txt K mg) : Sp := fun vs H Q _ => Hd (∃ (g dg a r dr C : Addr) (fg fr : List (Str × V)) (n : List Nat) (fs : List (Addr × Addr × List Nat)), vs = [.ref g, .ref r] ∧ H g = some (.ins C dg fg) ∧ OC K C hF ∧ fg.lookup ("filters" : Str) = some (.ref a) ∧ H a = some (.lst (fs.map fun f => V.ref f.1)) ∧ (∀ f ∈ fs, H f.1 = some (.ins T.C_Filter f.2.1 (fFl f.2.2)) ∧ f.2.2.length ≤ 1000) ∧ H r = some (.ins T.C_LogRecord dr fr) ∧ fr.lookup ("name" : Str) = some (.str (SX.S n)) ∧
  Q (if thrB (fs.map (·.2.2)) n = true then .ref r else .non) H)
theorem ok_filtH (T : Txt K mg) : FnOk P w K mg base CX0 4 T.a_Handler_filtered T.fd_Handler_filtered ["self", "record"] (spFiltH T) := by
  have G_through_all : FnOk P w K mg base CX0 3 _ _ _ (spThrA T) := ok_thrA T
  refine T.F_Handler_filtered.ok sc_Handler_filtered (fun vs H Q E h => ?_) (fun cdv A outer s H vs Q E hr h => ?_)
  · obtain ⟨g, dg, a, r, dr, C, fg, fr, n, fs, rfl, _⟩ := h.out
    rfl
  · obtain ⟨g, dg, a, r, dr, C, fg, fr, n, fs, rfl, hg, oC, lf, ha, hf, hr1, lr, k⟩ := h.out
    refine ⟨_, (pss_one (ps_ret (pe_call G_through_all (hr.mono (by first | decide | omega)) rfl T.D_through_all.g T.D_through_all.F.kp T.D_through_all.b .nil pass0 (pa_cons (pe_fld (pv 0) rfl) (pa_cons (pv 1) pa_nil))))), ?_⟩
    walk_at "sx"
    refine ⟨g, C, dg, fg, _, rfl, hg, oC.cl, oC.na _ (by decide), lf, ?_⟩
    walk_at "sx"
    exact .a ⟨a, r, dr, n, fr, fs, rfl, ha, hf, hr1, lr, k⟩
end
end My

namespace My
open PySem PySem.Spec PyProof.Rows L2 SuX LTr DN
local macro_rules | `(tactic| walk_at "hp") => `(tactic| first | assumption | exact upd_same | (refine Eq.trans (upd_ne (by first | assumption | (apply Ne.symm; assumption))) ?_; walk_at "hp"))
local macro_rules | `(tactic| walk_at "ixl") => `(tactic| (refine' ⟨_, ?xs, _, ?vv, rfl, rfl, SqL.of ?hh, ?aa, ?qq⟩; (case hh => walk_at "hp"); (case aa => rfl)))
local macro_rules | `(tactic| walk_at "setl") => `(tactic| (refine' ⟨_, ?xs, _, ?jj, rfl, rfl, ?hh, ?aa, ?qq⟩; (case hh => walk_at "hp"); (case aa => rfl)))
local macro_rules | `(tactic| walk_at "cond") => `(tactic| first | exact ⟨_, rfl⟩ | exact Nat.le_of_lt (small1000 (Nat.le_of_ble_eq_true rfl)) | decide | omega | (dsimp only; omega) | exact ⟨by decide, by decide⟩ | exact Or.inr ⟨by decide, by decide⟩ | exact Or.inl ⟨by decide, by decide⟩ | exact ⟨by decide, by decide, by decide⟩ | exact ⟨by omega, by omega⟩ | exact ⟨by omega, by omega, by omega⟩ | (simp only [List.length_cons, List.length_nil, List.length_append, List.length_take, List.length_drop]; omega) | (refine ⟨?_, ?_, ?_⟩ <;> first | decide | omega | (simp only [List.length_cons, List.length_nil, List.length_append, List.length_take, List.length_drop, Option.getD_some, Option.getD_none]; omega)))
local macro_rules | `(tactic| walk_at "st") => `(tactic| repeat (first | refine ⟨_, rfl, ?_⟩ | refine ⟨_, _, rfl, rfl, ?_⟩ | walk_at "ixl" | walk_at "setl" | refine ⟨rfl, ?_⟩ | refine Or.inl ⟨_, rfl, ?_⟩ | refine And.intro (by walk_at "cond") ?_))
local macro_rules | `(tactic| walk_at "cls") => `(tactic| first | exact OC.cl (by assumption) | exact (‹Txt _ _›).o_Clock.cl | exact (‹Txt _ _›).o_LevelTable.cl | exact (‹Txt _ _›).o_LogRecord.cl | exact (‹Txt _ _›).o_Filter.cl | exact (‹Txt _ _›).o_Store.cl | exact (‹Txt _ _›).o_Written.cl | exact (‹Txt _ _›).o_Roster.cl | exact (‹Txt _ _›).o_Handler.cl | exact (‹Txt _ _›).o_NullHandler.cl | exact (‹Txt _ _›).o_Logger.cl | exact (‹Txt _ _›).o_LoggerTree.cl | exact (‹Txt _ _›).o_StreamHandler.cl | exact (‹Txt _ _›).o_Yard.cl)
local macro_rules | `(tactic| walk_at "na") => `(tactic| first | (refine na_of (by assumption) ?_; decide) | (refine na_of (‹Txt _ _›).o_Clock ?_; decide) | (refine na_of (‹Txt _ _›).o_LevelTable ?_; decide) | (refine na_of (‹Txt _ _›).o_LogRecord ?_; decide) | (refine na_of (‹Txt _ _›).o_Filter ?_; decide) | (refine na_of (‹Txt _ _›).o_Store ?_; decide) | (refine na_of (‹Txt _ _›).o_Written ?_; decide) | (refine na_of (‹Txt _ _›).o_Roster ?_; decide) | (refine na_of (‹Txt _ _›).o_Handler ?_; decide) | (refine na_of (‹Txt _ _›).o_NullHandler ?_; decide) | (refine na_of (‹Txt _ _›).o_Logger ?_; decide) | (refine na_of (‹Txt _ _›).o_LoggerTree ?_; decide) | (refine na_of (‹Txt _ _›).o_StreamHandler ?_; decide) | (refine na_of (‹Txt _ _›).o_Yard ?_; decide))
local macro_rules | `(tactic| walk_at "fld") => `(tactic| (refine' ⟨_, _, _, _, ?vv, rfl, ?hh, ?cc, ?nn, ?ll, ?qq⟩; (case hh => walk_at "hp"); (case cc => walk_at "cls"); (case nn => walk_at "na"); (case ll => exact rfl)))
local macro_rules | `(tactic| walk_at "sto") => `(tactic| (refine' ⟨_, _, _, _, rfl, ?hh, ?cc, ?nn, ?ll, ?qq⟩; (case hh => walk_at "hp"); (case cc => walk_at "cls"); (case nn => walk_at "na"); (case ll => first | exact Nat.le_of_ble_eq_true rfl | assumption)))
local macro_rules | `(tactic| walk_at "mth") => `(tactic| (refine' ⟨_, _, _, rfl, ?hh, ?ll, ?qq⟩; (case hh => walk_at "hp"); (case ll => exact rfl)))
local macro_rules | `(tactic| walk_at "sx") => `(tactic| repeat (first | refine ⟨_, rfl, ?_⟩ | refine ⟨_, _, rfl, rfl, ?_⟩ | walk_at "ixl" | walk_at "setl" | refine ⟨rfl, ?_⟩ | refine Or.inl ⟨_, rfl, ?_⟩ | walk_at "fld" | walk_at "sto" | walk_at "mth" | refine And.intro (by walk_at "cond") ?_))
/-! ### a handler of nothing -/
section
variable {P : Program} {w : World} {K : PySem.W.Frag} {mg : Str → Option Value} {base : Heap}
def spNull (T : Txt K mg) : Sp := fun vs H Q _ => Hd (∃ (x dx y CY dy r dr a b c : Addr) (fy : List (Str × V)) (hs : List V), vs = [.ref x, .ref y] ∧ H x = some (.ins T.C_NullHandler dx []) ∧ H y = some (.ins CY dy fy) ∧ Cls K CY ∧ NoAttr K CY ("roster" : Str) ∧ fy.lookup ("roster" : Str) = some (.ref r) ∧ x ≠ y ∧
  H r = some (.ins T.C_Roster dr (fRo a b c)) ∧ x ≠ r ∧ H a = some (.lst hs) ∧ hs.length < sizeLine ∧
  ∀ H' fl, H' x = some (.ins T.C_NullHandler dx (fHd y fl)) → H' fl = some (.lst []) → H fl = none → H' a = some (.lst (hs ++ [.ref x])) → SameY x a H H' → Q .non H')
theorem ok_null (T : Txt K mg) (Z : Dct P w K mg T) : FnOk P w K mg base CX0 3 T.a_NullHandler_init T.fd_NullHandler_init ["self", "yard"] (spNull T) := by
  have G_super : FnOk P w K mg base CX0 2 _ _ _ (spHandler T.C_Roster K) := ok_handler T
  refine T.F_NullHandler_init.ok0 (sf := "self") Z.top sc_NullHandler___init__ rfl rfl rfl rfl rfl (fun vs H Q E h => ?_) (fun cc cda A outer s H vs Q E hr h => ?_)
  · obtain ⟨x, dx, y, CY, dy, r, dr, a, b, c, fy, hs, rfl, _⟩ := h.out
    rfl
  · obtain ⟨x, dx, y, CY, dy, r, dr, a, b, c, fy, hs, rfl, hx, hy, cY, nY, ly, xy, hr1, xr, ha, hz, k⟩ := h.out
    refine ⟨_, fun SD => (SuX.pssA_one (SuX.psA_expr (SuX.peA_sup (i := 0) SD T.SM_NullHandler_init G_super (hr.mono (by first | decide | omega)) T.b_Handler_init .nil pass0 rfl (pa_cons (pv 1) pa_nil)))), ?_⟩
    walk_at "st"
    refine ⟨x, dx, _, rfl, hx, ?_⟩
    walk_at "st"
    exact .a ⟨x, dx, T.C_NullHandler, y, CY, dy, r, dr, a, b, c, fy, hs, rfl, hx, T.o_NullHandler, hy, cY, nY, ly, xy, hr1, xr, ha, hz, fun H1 fl x1 f1 f0 a1 s1 => k H1 fl x1 f1 f0 a1 s1⟩
def spAddFN (T : Txt K mg) : Sp := fun vs H Q _ => Hd (∃ (g dg a x : Addr) (fg : List (Str × V)) (bs : List Addr), vs = [.ref g, .ref x] ∧ H g = some (.ins T.C_NullHandler dg fg) ∧ fg.lookup ("filters" : Str) = some (.ref a) ∧ FL K H a bs ∧ OQ.ObjA K H x ∧ Q .non (upd H a (.lst ((addL bs x).map V.ref))))
theorem ok_addFN (T : Txt K mg) (Z : Dct P w K mg T) : FnOk P w K mg base CX0 2 T.a_NullHandler_addFilter T.fd_NullHandler_addFilter ["self", "one"] (spAddFN T) := by
  have G_super : FnOk P w K mg base CX0 1 _ _ _ (spAddFH T) := ok_addFH T
  refine T.F_NullHandler_addFilter.ok0 (sf := "self") Z.top sc_NullHandler_addFilter rfl rfl rfl rfl rfl (fun vs H Q E h => ?_) (fun cc cda A outer s H vs Q E hr h => ?_)
  · obtain ⟨g, dg, a, x, fg, bs, rfl, _⟩ := h.out
    rfl
  · obtain ⟨g, dg, a, x, fg, bs, rfl, hg, lf, L, ox, k⟩ := h.out
    refine ⟨_, fun SD => (SuX.pssA_one (SuX.psA_expr (SuX.peA_sup (i := 0) SD T.SM_NullHandler_addFilter G_super (hr.mono (by first | decide | omega)) T.b_Handler_addFilter .nil pass0 rfl (pa_cons (pv 1) pa_nil)))), ?_⟩
    walk_at "st"
    refine ⟨g, dg, fg, rfl, hg, ?_⟩
    walk_at "st"
    exact .a ⟨g, dg, a, x, T.C_NullHandler, fg, bs, rfl, hg, T.o_NullHandler, lf, L, ox, k⟩
def spRemFN (T : Txt K mg) : Sp := fun vs H Q _ => Hd (∃ (g dg a x : Addr) (fg : List (Str × V)) (bs : List Addr), vs = [.ref g, .ref x] ∧ H g = some (.ins T.C_NullHandler dg fg) ∧ fg.lookup ("filters" : Str) = some (.ref a) ∧ FL K H a bs ∧ OQ.ObjA K H x ∧ Q .non (upd H a (.lst ((bs.erase x).map V.ref))))
theorem ok_remFN (T : Txt K mg) (Z : Dct P w K mg T) : FnOk P w K mg base CX0 2 T.a_NullHandler_removeFilter T.fd_NullHandler_removeFilter ["self", "one"] (spRemFN T) := by
  have G_super : FnOk P w K mg base CX0 1 _ _ _ (spRemFH T) := ok_remFH T
  refine T.F_NullHandler_removeFilter.ok0 (sf := "self") Z.top sc_NullHandler_removeFilter rfl rfl rfl rfl rfl (fun vs H Q E h => ?_) (fun cc cda A outer s H vs Q E hr h => ?_)
  · obtain ⟨g, dg, a, x, fg, bs, rfl, _⟩ := h.out
    rfl
  · obtain ⟨g, dg, a, x, fg, bs, rfl, hg, lf, L, ox, k⟩ := h.out
    refine ⟨_, fun SD => (SuX.pssA_one (SuX.psA_expr (SuX.peA_sup (i := 0) SD T.SM_NullHandler_removeFilter G_super (hr.mono (by first | decide | omega)) T.b_Handler_removeFilter .nil pass0 rfl (pa_cons (pv 1) pa_nil)))), ?_⟩
    walk_at "st"
    refine ⟨g, dg, fg, rfl, hg, ?_⟩
    walk_at "st"
    exact .a ⟨g, dg, a, x, T.C_NullHandler, fg, bs, rfl, hg, T.o_NullHandler, lf, L, ox, k⟩
def spFiltN (T : Txt K mg) : Sp := fun vs H Q _ => Hd (∃ (g dg a r dr : Addr) (fg fr : List (Str × V)) (n : List Nat) (fs : List (Addr × Addr × List Nat)), vs = [.ref g, .ref r] ∧ H g = some (.ins T.C_NullHandler dg fg) ∧ fg.lookup ("filters" : Str) = some (.ref a) ∧ H a = some (.lst (fs.map fun f => V.ref f.1)) ∧ (∀ f ∈ fs, H f.1 = some (.ins T.C_Filter f.2.1 (fFl f.2.2)) ∧ f.2.2.length ≤ 1000) ∧ H r = some (.ins T.C_LogRecord dr fr) ∧ fr.lookup ("name" : Str) = some (.str (SX.S n)) ∧
  Q (if thrB (fs.map (·.2.2)) n = true then .ref r else .non) H)
theorem ok_filtN (T : Txt K mg) (Z : Dct P w K mg T) : FnOk P w K mg base CX0 5 T.a_NullHandler_filtered T.fd_NullHandler_filtered ["self", "record"] (spFiltN T) := by
  have G_super : FnOk P w K mg base CX0 4 _ _ _ (spFiltH T) := ok_filtH T
  refine T.F_NullHandler_filtered.ok0 (sf := "self") Z.top sc_NullHandler_filtered rfl rfl rfl rfl rfl (fun vs H Q E h => ?_) (fun cc cda A outer s H vs Q E hr h => ?_)
  · obtain ⟨g, dg, a, r, dr, fg, fr, n, fs, rfl, _⟩ := h.out
    rfl
  · obtain ⟨g, dg, a, r, dr, fg, fr, n, fs, rfl, hg, lf, ha, hf, hr1, lr, k⟩ := h.out
    refine ⟨_, fun SD => (SuX.pssA_one (SuX.psA_ret (SuX.peA_sup (i := 0) SD T.SM_NullHandler_filtered G_super (hr.mono (by first | decide | omega)) T.b_Handler_filtered .nil pass0 rfl (pa_cons (pv 1) pa_nil)))), ?_⟩
    walk_at "st"
    refine ⟨g, dg, fg, rfl, hg, ?_⟩
    walk_at "st"
    exact .a ⟨g, dg, a, r, dr, T.C_NullHandler, fg, fr, n, fs, rfl, hg, T.o_NullHandler, lf, ha, hf, hr1, lr, k⟩
end
end My

namespace My
open PySem PySem.Spec PyProof.Rows L2 SuX
local macro_rules | `(tactic| walk_at "hp") => `(tactic| first | assumption | exact upd_same | (refine Eq.trans (upd_ne (by first | assumption | (apply Ne.symm; assumption))) ?_; walk_at "hp"))
local macro_rules | `(tactic| walk_at "ixl") => `(tactic| (refine' ⟨_, ?xs, _, ?vv, rfl, rfl, SqL.of ?hh, ?aa, ?qq⟩; (case hh => walk_at "hp"); (case aa => rfl)))
local macro_rules | `(tactic| walk_at "setl") => `(tactic| (refine' ⟨_, ?xs, _, ?jj, rfl, rfl, ?hh, ?aa, ?qq⟩; (case hh => walk_at "hp"); (case aa => rfl)))
local macro_rules | `(tactic| walk_at "cond") => `(tactic| first | exact ⟨_, rfl⟩ | exact Nat.le_of_lt (small1000 (Nat.le_of_ble_eq_true rfl)) | decide | omega | (dsimp only; omega) | exact ⟨by decide, by decide⟩ | exact Or.inr ⟨by decide, by decide⟩ | exact Or.inl ⟨by decide, by decide⟩ | exact ⟨by decide, by decide, by decide⟩ | exact ⟨by omega, by omega⟩ | exact ⟨by omega, by omega, by omega⟩ | (simp only [List.length_cons, List.length_nil, List.length_append, List.length_take, List.length_drop]; omega) | (refine ⟨?_, ?_, ?_⟩ <;> first | decide | omega | (simp only [List.length_cons, List.length_nil, List.length_append, List.length_take, List.length_drop, Option.getD_some, Option.getD_none]; omega)))
local macro_rules | `(tactic| walk_at "st") => `(tactic| repeat (first | refine ⟨_, rfl, ?_⟩ | refine ⟨_, _, rfl, rfl, ?_⟩ | walk_at "ixl" | walk_at "setl" | refine ⟨rfl, ?_⟩ | refine Or.inl ⟨_, rfl, ?_⟩ | refine And.intro (by walk_at "cond") ?_))
theorem ty_lst {K : PySem.W.Frag} {H : Hp} {a : Addr} {xs : List V} (r : Rd H a (.lst xs)) : TyX K H (.ref a) (.type "list") := by
  rcases r with r | ⟨u, r⟩
  · exact .base (.lst r)
  · exact .base (.frz r)
/-- the comprehensions of truths: all of them true -/
structure TruP (H : Hp) (D0 : Addr) (i : Nat) (H3 : Hp) : Prop where
  at_ : H3 D0 = some (.lst ((List.replicate i true).map V.bl))
  sm : Same H H3
theorem TruP.zero {H : Hp} {D0 : Addr} (hD : H D0 = none) : TruP H D0 0 (upd H D0 (.lst [])) := ⟨upd_same, same_put (Same.refl _) hD⟩
theorem TruP.next {H H3 H4 : Hp} {D0 : Addr} {i : Nat} (c : TruP H D0 i H3) (hD : H D0 = none) (hi : i < 1000) (sm : Same H3 H4) :
    ∃ acc, H4 D0 = some (.lst acc) ∧ acc.length < sizeLine ∧ TruP H D0 (i + 1) (upd H4 D0 (.lst (acc ++ [V.bl true]))) := by
  refine ⟨_, sm _ _ c.at_, by rw [List.length_map, List.length_replicate]; exact small1000 (by omega), ⟨?_, same_put (c.sm.trans sm) hD⟩⟩
  rw [upd_same, List.replicate_succ', List.map_append]
  rfl
theorem all_true (i : Nat) : (List.replicate i true).all id = true := by simp
section
variable {P : Program} {w : World} {K : PySem.W.Frag} {mg : Str → Option Value} {base : Heap}
def spNone : Sp := fun _ _ _ _ => Hd False
/-- ints, truths -/
def spSame1 : Sp := fun vs H Q _ => Hd (∃ v, vs = [v, v] ∧ ((∃ i, v = .int i) ∨ ∃ b, v = .bl b) ∧ ∀ H', Same H H' → Q (.bl true) H')
/-- lists of them -/
def spSame2 : Sp := fun vs H Q _ => Hd (∃ (a b : Addr) (xs : List V), vs = [.ref a, .ref b] ∧ H a = some (.lst xs) ∧ H b = some (.lst xs) ∧ xs.length ≤ 500 ∧ (∀ v ∈ xs, (∃ i, v = .int i) ∨ ∃ b, v = .bl b) ∧ ∀ H', Same H H' → Q (.bl true) H')
theorem ok_same1 (T : Txt K mg) (G__law_same : FnOk P w K mg base CX0 1 T.f__law_same T.fd__law_same ["_law_found", "_law_due"] spNone) : FnOk P w K mg base CX0 2 T.f__law_same T.fd__law_same ["_law_found", "_law_due"] spSame1 := by
  refine T.D__law_same.F.ok sc__law_same (fun vs H Q E h => ?_) (fun cdv A outer s H vs Q E hr h => ?_)
  · obtain ⟨v, rfl, _⟩ := h.out
    rfl
  · obtain ⟨v, rfl, c, k⟩ := h.out
    have hu := hu_of hr
    have hu64 := hr.units
    refine ⟨_, (pss_cons (ps_if (pt_val (pe_callB call_isiT (by rfl) T.B.n_isinstance (by decide +kernel) (pa_cons (pv 1) (pa_cons (pe_tup (pa_cons (pe_bltn (v := .ty "list") (u := .type "list") (by rfl) T.B.n_list (by decide +kernel) rfl) (pa_cons (pe_bltn (v := .ty "tuple") (u := .type "tuple") (by rfl) T.B.n_tuple (by decide +kernel) rfl) pa_nil))) pa_nil))))
    (pss_cons (ps_if (PW.pt (pw_or (pt_cmpR op_ne (pe_callB call_isi (by rfl) T.B.n_isinstance (by decide +kernel) (pa_cons (pv 0) (pa_cons (pe_bltn (v := .ty "list") (u := .type "list") (by rfl) T.B.n_list (by decide +kernel) rfl) pa_nil))) (pe_callB call_isi (by rfl) T.B.n_isinstance (by decide +kernel) (pa_cons (pv 1) (pa_cons (pe_bltn (v := .ty "list") (u := .type "list") (by rfl) T.B.n_list (by decide +kernel) rfl) pa_nil))) (nomark _)) (pw_or1 (pt_cmpR op_ne (pe_callB call_isi (by rfl) T.B.n_isinstance (by decide +kernel) (pa_cons (pv 0) (pa_cons (pe_bltn (v := .ty "tuple") (u := .type "tuple") (by rfl) T.B.n_tuple (by decide +kernel) rfl) pa_nil))) (pe_callB call_isi (by rfl) T.B.n_isinstance (by decide +kernel) (pa_cons (pv 1) (pa_cons (pe_bltn (v := .ty "tuple") (u := .type "tuple") (by rfl) T.B.n_tuple (by decide +kernel) rfl) pa_nil))) (nomark _)))))
    (pss_one (ps_ret pe_bl))
    pss_nil)
  (pss_one (ps_ret (pe_and (pe_cmpR op_eq (pe_callB call_len_seq (by rfl) T.B.n_len (by decide +kernel) (pa_cons (pv 0) pa_nil)) (pe_callB call_len_seq (by rfl) T.B.n_len (by decide +kernel) (pa_cons (pv 1) pa_nil)) (nomark _)) (pe_one (pe_callB (cr_all rfl) (by rfl) T.B.n_all (by decide +kernel) (pa_cons (pe_lc (own := [("_law_one", 2), ("_law_two", 3)]) (g := gTup K 2 (gCons (gName 2) (gCons (gName 3) gNil))) rfl sc__law_same.nd (RZ.pi_zipA (by rfl) T.B.n_zip (pa_cons (pv 0) (pa_cons (pv 1) pa_nil))) (blkOk_by (N := ["_law_found", "_law_due", "_law_one", "_law_two"]) (sc := defScope s__law_same) (by decide +kernel)) (fun _ _ _ _ _ => (pg_tup rfl (pgs_cons (pg_name (i := 2) sc__law_same.nd rfl (by first | exact Or.inl rfl | exact Or.inr rfl)) (pgs_cons (pg_name (i := 3) sc__law_same.nd rfl (by first | exact Or.inl rfl | exact Or.inr rfl)) pgs_nil)))) (fun _ _ _ _ _ => pts_nil) (fun _ _ _ _ _ => (pe_call G__law_same (hr.mono (by first | decide | omega)) rfl T.D__law_same.g T.D__law_same.F.kp T.D__law_same.b .nil pass0 (pa_cons (pv 2) (pa_cons (pv 3) pa_nil))))) pa_nil)))))))
    pss_nil)
  (pss_cons (ps_if (pt_val (pe_callB call_isiT (by rfl) T.B.n_isinstance (by decide +kernel) (pa_cons (pv 1) (pa_cons (pe_tup (pa_cons (pe_bltn (v := .ty "bool") (u := .type "bool") (by rfl) T.B.n_bool (by decide +kernel) rfl) (pa_cons (pe_bltn (v := .ty "int") (u := .type "int") (by rfl) T.B.n_int (by decide +kernel) rfl) pa_nil))) pa_nil))))
    (pss_one (ps_ret (pe_and (pe_callB call_isi (by rfl) T.B.n_isinstance (by decide +kernel) (pa_cons (pv 0) (pa_cons (pe_bltn (v := .ty "int") (u := .type "int") (by rfl) T.B.n_int (by decide +kernel) rfl) pa_nil))) (pe_and (pe_cmpR op_eq (pe_callB call_isi (by rfl) T.B.n_isinstance (by decide +kernel) (pa_cons (pv 0) (pa_cons (pe_bltn (v := .ty "bool") (u := .type "bool") (by rfl) T.B.n_bool (by decide +kernel) rfl) pa_nil))) (pe_callB call_isi (by rfl) T.B.n_isinstance (by decide +kernel) (pa_cons (pv 1) (pa_cons (pe_bltn (v := .ty "bool") (u := .type "bool") (by rfl) T.B.n_bool (by decide +kernel) rfl) pa_nil))) (nomark _)) (pe_one (pe_cmpR op_eq (pv 0) (pv 1) (nomark _)))))))
    pss_nil)
  (pss_one (ps_ret (pe_and (pe_cmpR op_isN (pe_callB call_isiT (by rfl) T.B.n_isinstance (by decide +kernel) (pa_cons (pv 0) (pa_cons (pe_tup (pa_cons (pe_bltn (v := .ty "bool") (u := .type "bool") (by rfl) T.B.n_bool (by decide +kernel) rfl) (pa_cons (pe_bltn (v := .ty "int") (u := .type "int") (by rfl) T.B.n_int (by decide +kernel) rfl) (pa_cons (pe_bltn (v := .ty "list") (u := .type "list") (by rfl) T.B.n_list (by decide +kernel) rfl) (pa_cons (pe_bltn (v := .ty "tuple") (u := .type "tuple") (by rfl) T.B.n_tuple (by decide +kernel) rfl) pa_nil))))) pa_nil))) pe_bl (nomark _)) (pe_one (pe_cmpR op_eq (pv 0) (pv 1) (nomark _)))))))), ?_⟩
    walk_at "st"
    intro t ht
    have st := same_new (o := .tup [.ty "list", .ty "tuple"]) ht
    rcases c with ⟨i, rfl⟩ | ⟨b, rfl⟩
    · refine ⟨_, t, _, _, _, false, rfl, upd_same, (.cons (.ty "list") (.cons (.ty "tuple") .nil)), (.base (.int i)), (kitAny_cons (b := false) (kit_ty (by decide +kernel)) (fun _ => (kitAny_cons (b := false) (kit_ty (by decide +kernel)) (fun _ => kitAny_nil) (fun h => nomatch h))) (fun h => nomatch h)), ?_⟩
      walk_at "st"
      intro u hu2
      have su := same_new (o := .tup [.ty "bool", .ty "int"]) hu2
      refine ⟨_, u, _, _, _, true, rfl, upd_same, (.cons (.ty "bool") (.cons (.ty "int") .nil)), (.base (.int i)), (kitAny_cons (b := false) (kit_ty (by decide +kernel)) (fun _ => (kitAny_cons (b := true) (kit_ty (by decide +kernel)) (fun h => nomatch h) (fun _ => rfl))) (fun h => nomatch h)), ?_⟩
      walk_at "st"
      refine ⟨_, .ty "int", _, _, true, rfl, .ty "int", (.base (.int i)), kit_ty (by decide +kernel), ?_⟩
      walk_at "st"
      refine ⟨_, .ty "bool", _, _, false, rfl, .ty "bool", (.base (.int i)), kit_ty (by decide +kernel), ?_⟩
      walk_at "st"
      refine ⟨_, .ty "bool", _, _, false, rfl, .ty "bool", (.base (.int i)), kit_ty (by decide +kernel), ?_⟩
      walk_at "st"
      have e : decide (V.int i = V.int i) = true := decide_eq_true rfl
      show Q (V.bl (decide (V.int i = V.int i))) _
      rw [e]
      exact k _ (st.trans su)
    · refine ⟨_, t, _, _, _, false, rfl, upd_same, (.cons (.ty "list") (.cons (.ty "tuple") .nil)), (.base (.bl b)), (kitAny_cons (b := false) (kit_ty (by decide +kernel)) (fun _ => (kitAny_cons (b := false) (kit_ty (by decide +kernel)) (fun _ => kitAny_nil) (fun h => nomatch h))) (fun h => nomatch h)), ?_⟩
      walk_at "st"
      intro u hu2
      have su := same_new (o := .tup [.ty "bool", .ty "int"]) hu2
      refine ⟨_, u, _, _, _, true, rfl, upd_same, (.cons (.ty "bool") (.cons (.ty "int") .nil)), (.base (.bl b)), (kitAny_cons (b := true) (kit_ty (by decide +kernel)) (fun h => nomatch h) (fun _ => rfl)), ?_⟩
      walk_at "st"
      refine ⟨_, .ty "int", _, _, true, rfl, .ty "int", (.base (.bl b)), kit_ty (by decide +kernel), ?_⟩
      walk_at "st"
      refine ⟨_, .ty "bool", _, _, true, rfl, .ty "bool", (.base (.bl b)), kit_ty (by decide +kernel), ?_⟩
      walk_at "st"
      refine ⟨_, .ty "bool", _, _, true, rfl, .ty "bool", (.base (.bl b)), kit_ty (by decide +kernel), ?_⟩
      walk_at "st"
      have e : decide (V.bl b = V.bl b) = true := decide_eq_true rfl
      show Q (V.bl (decide (V.bl b = V.bl b))) _
      rw [e]
      exact k _ (st.trans su)
theorem ok_same2 (T : Txt K mg) (G__law_same : FnOk P w K mg base CX0 2 T.f__law_same T.fd__law_same ["_law_found", "_law_due"] spSame1) : FnOk P w K mg base CX0 3 T.f__law_same T.fd__law_same ["_law_found", "_law_due"] spSame2 := by
  refine T.D__law_same.F.ok sc__law_same (fun vs H Q E h => ?_) (fun cdv A outer s H vs Q E hr h => ?_)
  · obtain ⟨a, b, xs, rfl, _⟩ := h.out
    rfl
  · obtain ⟨a, b, xs, rfl, h1, g1, zl, hs, k⟩ := h.out
    have hu := hu_of hr
    have hu64 := hr.units
    refine ⟨_, (pss_cons (ps_if (pt_val (pe_callB call_isiT (by rfl) T.B.n_isinstance (by decide +kernel) (pa_cons (pv 1) (pa_cons (pe_tup (pa_cons (pe_bltn (v := .ty "list") (u := .type "list") (by rfl) T.B.n_list (by decide +kernel) rfl) (pa_cons (pe_bltn (v := .ty "tuple") (u := .type "tuple") (by rfl) T.B.n_tuple (by decide +kernel) rfl) pa_nil))) pa_nil))))
    (pss_cons (ps_if (PW.pt (pw_or (pt_cmpR op_ne (pe_callB call_isi (by rfl) T.B.n_isinstance (by decide +kernel) (pa_cons (pv 0) (pa_cons (pe_bltn (v := .ty "list") (u := .type "list") (by rfl) T.B.n_list (by decide +kernel) rfl) pa_nil))) (pe_callB call_isi (by rfl) T.B.n_isinstance (by decide +kernel) (pa_cons (pv 1) (pa_cons (pe_bltn (v := .ty "list") (u := .type "list") (by rfl) T.B.n_list (by decide +kernel) rfl) pa_nil))) (nomark _)) (pw_or1 (pt_cmpR op_ne (pe_callB call_isi (by rfl) T.B.n_isinstance (by decide +kernel) (pa_cons (pv 0) (pa_cons (pe_bltn (v := .ty "tuple") (u := .type "tuple") (by rfl) T.B.n_tuple (by decide +kernel) rfl) pa_nil))) (pe_callB call_isi (by rfl) T.B.n_isinstance (by decide +kernel) (pa_cons (pv 1) (pa_cons (pe_bltn (v := .ty "tuple") (u := .type "tuple") (by rfl) T.B.n_tuple (by decide +kernel) rfl) pa_nil))) (nomark _)))))
    (pss_one (ps_ret pe_bl))
    pss_nil)
  (pss_one (ps_ret (pe_and (pe_cmpR op_eq (pe_callB call_len_seq (by rfl) T.B.n_len (by decide +kernel) (pa_cons (pv 0) pa_nil)) (pe_callB call_len_seq (by rfl) T.B.n_len (by decide +kernel) (pa_cons (pv 1) pa_nil)) (nomark _)) (pe_one (pe_callB (cr_all rfl) (by rfl) T.B.n_all (by decide +kernel) (pa_cons (pe_lc (own := [("_law_one", 2), ("_law_two", 3)]) (g := gTup K 2 (gCons (gName 2) (gCons (gName 3) gNil))) rfl sc__law_same.nd (RZ.pi_zipA (by rfl) T.B.n_zip (pa_cons (pv 0) (pa_cons (pv 1) pa_nil))) (blkOk_by (N := ["_law_found", "_law_due", "_law_one", "_law_two"]) (sc := defScope s__law_same) (by decide +kernel)) (fun _ _ _ _ _ => (pg_tup rfl (pgs_cons (pg_name (i := 2) sc__law_same.nd rfl (by first | exact Or.inl rfl | exact Or.inr rfl)) (pgs_cons (pg_name (i := 3) sc__law_same.nd rfl (by first | exact Or.inl rfl | exact Or.inr rfl)) pgs_nil)))) (fun _ _ _ _ _ => pts_nil) (fun _ _ _ _ _ => (pe_call G__law_same (hr.mono (by first | decide | omega)) rfl T.D__law_same.g T.D__law_same.F.kp T.D__law_same.b .nil pass0 (pa_cons (pv 2) (pa_cons (pv 3) pa_nil))))) pa_nil)))))))
    pss_nil)
  (pss_cons (ps_if (pt_val (pe_callB call_isiT (by rfl) T.B.n_isinstance (by decide +kernel) (pa_cons (pv 1) (pa_cons (pe_tup (pa_cons (pe_bltn (v := .ty "bool") (u := .type "bool") (by rfl) T.B.n_bool (by decide +kernel) rfl) (pa_cons (pe_bltn (v := .ty "int") (u := .type "int") (by rfl) T.B.n_int (by decide +kernel) rfl) pa_nil))) pa_nil))))
    (pss_one (ps_ret (pe_and (pe_callB call_isi (by rfl) T.B.n_isinstance (by decide +kernel) (pa_cons (pv 0) (pa_cons (pe_bltn (v := .ty "int") (u := .type "int") (by rfl) T.B.n_int (by decide +kernel) rfl) pa_nil))) (pe_and (pe_cmpR op_eq (pe_callB call_isi (by rfl) T.B.n_isinstance (by decide +kernel) (pa_cons (pv 0) (pa_cons (pe_bltn (v := .ty "bool") (u := .type "bool") (by rfl) T.B.n_bool (by decide +kernel) rfl) pa_nil))) (pe_callB call_isi (by rfl) T.B.n_isinstance (by decide +kernel) (pa_cons (pv 1) (pa_cons (pe_bltn (v := .ty "bool") (u := .type "bool") (by rfl) T.B.n_bool (by decide +kernel) rfl) pa_nil))) (nomark _)) (pe_one (pe_cmpR op_eq (pv 0) (pv 1) (nomark _)))))))
    pss_nil)
  (pss_one (ps_ret (pe_and (pe_cmpR op_isN (pe_callB call_isiT (by rfl) T.B.n_isinstance (by decide +kernel) (pa_cons (pv 0) (pa_cons (pe_tup (pa_cons (pe_bltn (v := .ty "bool") (u := .type "bool") (by rfl) T.B.n_bool (by decide +kernel) rfl) (pa_cons (pe_bltn (v := .ty "int") (u := .type "int") (by rfl) T.B.n_int (by decide +kernel) rfl) (pa_cons (pe_bltn (v := .ty "list") (u := .type "list") (by rfl) T.B.n_list (by decide +kernel) rfl) (pa_cons (pe_bltn (v := .ty "tuple") (u := .type "tuple") (by rfl) T.B.n_tuple (by decide +kernel) rfl) pa_nil))))) pa_nil))) pe_bl (nomark _)) (pe_one (pe_cmpR op_eq (pv 0) (pv 1) (nomark _)))))))), ?_⟩
    walk_at "st"
    intro t ht
    have st := same_new (o := .tup [.ty "list", .ty "tuple"]) ht
    have q1 : Rd (upd H t (.tup [.ty "list", .ty "tuple"])) a (.lst xs) := .inl (st _ _ h1)
    have q2 : Rd (upd H t (.tup [.ty "list", .ty "tuple"])) b (.lst xs) := .inl (st _ _ g1)
    refine ⟨_, t, _, _, _, true, rfl, upd_same, (.cons (.ty "list") (.cons (.ty "tuple") .nil)), (ty_lst q2), (kitAny_cons (b := true) (kit_ty (by decide +kernel)) (fun h => nomatch h) (fun _ => rfl)), ?_⟩
    walk_at "st"
    refine ⟨_, .ty "list", _, _, true, rfl, .ty "list", (ty_lst q1), kit_ty (by decide +kernel), ?_⟩
    walk_at "st"
    refine ⟨_, .ty "list", _, _, true, rfl, .ty "list", (ty_lst q2), kit_ty (by decide +kernel), ?_⟩
    walk_at "st"
    refine ⟨_, .ty "tuple", _, _, false, rfl, .ty "tuple", (ty_lst q1), kit_ty (by decide +kernel), ?_⟩
    walk_at "st"
    refine ⟨_, .ty "tuple", _, _, false, rfl, .ty "tuple", (ty_lst q2), kit_ty (by decide +kernel), ?_⟩
    walk_at "st"
    refine ⟨a, xs, rfl, .inl (.inl q1), ?_⟩
    walk_at "st"
    refine ⟨b, xs, rfl, .inl (.inl q2), ?_⟩
    walk_at "st"
    refine if_true_of (decide_eq_true rfl) ?_
    walk_at "st"
    generalize upd H t (.tup [.ty "list", .ty "tuple"]) = H1 at st q1 q2 ⊢
    refine ⟨a, b, xs, xs, rfl, .inl ⟨.inl q1, .inl q2, fun D0 hD => ?_⟩⟩
    refine lc_it (n := xs.length) (walk_zip (xs := xs) (ys := xs) (by omega)) (TruP H1 D0) (.zero hD) (fun i H _ c => ⟨.inl (same_rd c.sm q1), .inl (same_rd c.sm q2)⟩) ?_ ?_
    · rintro i x H3 H4 hi c ⟨T0, x1, y1, rfl, hT, rfl, e1, e2⟩
      have s3 := c.sm.trans (same_new (o := .tup [x1, y1]) hT)
      obtain rfl : x1 = y1 := Option.some.inj (e1.symm.trans e2)
      refine ⟨T0, [x1, x1], rfl, SqT.of upd_same, rfl, _, _, rfl, _, _, rfl, rfl, rfl, ?_⟩
      walk_at "st"
      exact .a ⟨x1, rfl, hs _ (List.mem_of_getElem? e1), fun H5 s5 => c.next hD (by omega) ((same_new hT).trans s5)⟩
    · intro H3 c
      walk_at "st"
      refine ⟨D0, _, rfl, SqL.of c.at_, ?_⟩
      rw [all_true]
      exact k _ (st.trans c.sm)
theorem ok_same (T : Txt K mg) : FnOk P w K mg base CX0 2 T.f__law_same T.fd__law_same ["_law_found", "_law_due"] spSame1 :=
  ok_same1 T (T.D__law_same.F.ok (k := 0) sc__law_same (fun _ _ _ _ h => h.out.elim) fun _ _ _ _ _ _ _ _ _ h => h.out.elim)
theorem ok_sameL (T : Txt K mg) : FnOk P w K mg base CX0 3 T.f__law_same T.fd__law_same ["_law_found", "_law_due"] spSame2 := ok_same2 T (ok_same T)
end
end My

namespace My
open PySem PySem.Spec PyProof.Rows L2 SuX LTr DN
local macro_rules | `(tactic| walk_at "hp") => `(tactic| first | assumption | exact upd_same | (refine Eq.trans (upd_ne (by first | assumption | (apply Ne.symm; assumption))) ?_; walk_at "hp"))
local macro_rules | `(tactic| walk_at "ixl") => `(tactic| (refine' ⟨_, ?xs, _, ?vv, rfl, rfl, SqL.of ?hh, ?aa, ?qq⟩; (case hh => walk_at "hp"); (case aa => rfl)))
local macro_rules | `(tactic| walk_at "setl") => `(tactic| (refine' ⟨_, ?xs, _, ?jj, rfl, rfl, ?hh, ?aa, ?qq⟩; (case hh => walk_at "hp"); (case aa => rfl)))
local macro_rules | `(tactic| walk_at "cond") => `(tactic| first | exact ⟨_, rfl⟩ | exact Nat.le_of_lt (small1000 (Nat.le_of_ble_eq_true rfl)) | decide | omega | (dsimp only; omega) | exact ⟨by decide, by decide⟩ | exact Or.inr ⟨by decide, by decide⟩ | exact Or.inl ⟨by decide, by decide⟩ | exact ⟨by decide, by decide, by decide⟩ | exact ⟨by omega, by omega⟩ | exact ⟨by omega, by omega, by omega⟩ | (simp only [List.length_cons, List.length_nil, List.length_append, List.length_take, List.length_drop]; omega) | (refine ⟨?_, ?_, ?_⟩ <;> first | decide | omega | (simp only [List.length_cons, List.length_nil, List.length_append, List.length_take, List.length_drop, Option.getD_some, Option.getD_none]; omega)))
local macro_rules | `(tactic| walk_at "st") => `(tactic| repeat (first | refine ⟨_, rfl, ?_⟩ | refine ⟨_, _, rfl, rfl, ?_⟩ | walk_at "ixl" | walk_at "setl" | refine ⟨rfl, ?_⟩ | refine Or.inl ⟨_, rfl, ?_⟩ | refine And.intro (by walk_at "cond") ?_))
local macro_rules | `(tactic| walk_at "cls") => `(tactic| first | exact OC.cl (by assumption) | exact (‹Txt _ _›).o_Clock.cl | exact (‹Txt _ _›).o_LevelTable.cl | exact (‹Txt _ _›).o_LogRecord.cl | exact (‹Txt _ _›).o_Filter.cl | exact (‹Txt _ _›).o_Store.cl | exact (‹Txt _ _›).o_Written.cl | exact (‹Txt _ _›).o_Roster.cl | exact (‹Txt _ _›).o_Handler.cl | exact (‹Txt _ _›).o_NullHandler.cl | exact (‹Txt _ _›).o_Logger.cl | exact (‹Txt _ _›).o_LoggerTree.cl | exact (‹Txt _ _›).o_StreamHandler.cl | exact (‹Txt _ _›).o_Yard.cl)
local macro_rules | `(tactic| walk_at "na") => `(tactic| first | (refine na_of (by assumption) ?_; decide) | (refine na_of (‹Txt _ _›).o_Clock ?_; decide) | (refine na_of (‹Txt _ _›).o_LevelTable ?_; decide) | (refine na_of (‹Txt _ _›).o_LogRecord ?_; decide) | (refine na_of (‹Txt _ _›).o_Filter ?_; decide) | (refine na_of (‹Txt _ _›).o_Store ?_; decide) | (refine na_of (‹Txt _ _›).o_Written ?_; decide) | (refine na_of (‹Txt _ _›).o_Roster ?_; decide) | (refine na_of (‹Txt _ _›).o_Handler ?_; decide) | (refine na_of (‹Txt _ _›).o_NullHandler ?_; decide) | (refine na_of (‹Txt _ _›).o_Logger ?_; decide) | (refine na_of (‹Txt _ _›).o_LoggerTree ?_; decide) | (refine na_of (‹Txt _ _›).o_StreamHandler ?_; decide) | (refine na_of (‹Txt _ _›).o_Yard ?_; decide))
local macro_rules | `(tactic| walk_at "fld") => `(tactic| (refine' ⟨_, _, _, _, ?vv, rfl, ?hh, ?cc, ?nn, ?ll, ?qq⟩; (case hh => walk_at "hp"); (case cc => walk_at "cls"); (case nn => walk_at "na"); (case ll => exact rfl)))
local macro_rules | `(tactic| walk_at "sto") => `(tactic| (refine' ⟨_, _, _, _, rfl, ?hh, ?cc, ?nn, ?ll, ?qq⟩; (case hh => walk_at "hp"); (case cc => walk_at "cls"); (case nn => walk_at "na"); (case ll => first | exact Nat.le_of_ble_eq_true rfl | assumption)))
local macro_rules | `(tactic| walk_at "mth") => `(tactic| (refine' ⟨_, _, _, rfl, ?hh, ?ll, ?qq⟩; (case hh => walk_at "hp"); (case ll => exact rfl)))
local macro_rules | `(tactic| walk_at "sx") => `(tactic| repeat (first | refine ⟨_, rfl, ?_⟩ | refine ⟨_, _, rfl, rfl, ?_⟩ | walk_at "ixl" | walk_at "setl" | refine ⟨rfl, ?_⟩ | refine Or.inl ⟨_, rfl, ?_⟩ | walk_at "fld" | walk_at "sto" | walk_at "mth" | refine And.intro (by walk_at "cond") ?_))
theorem len_dot5 : ∀ {ps : Nm}, (∀ x ∈ ps, x.length ≤ 4) → (dot ps).length ≤ 5 * ps.length
  | [], _ => Nat.le_refl _
  | [p], h => by
    have := h p List.mem_cons_self
    rw [dot_one, List.length_singleton]
    omega
  | p :: q :: r, h => by
    have i := len_dot5 (ps := q :: r) fun x hx => h x (List.mem_cons_of_mem _ hx)
    have := h p List.mem_cons_self
    have e1 : (p ++ 46 :: dot (q :: r)).length = p.length + ((dot (q :: r)).length + 1) := by rw [List.length_append, List.length_cons]
    have e2 : (p :: q :: r).length = (q :: r).length + 1 := rfl
    rw [dot_cons p (by simp), e1, e2]
    omega
section
variable {P : Program} {w : World} {K : PySem.W.Frag} {mg : Str → Option Value} {base : Heap}
def spOdd : Sp := fun vs H Q _ => Hd (∃ (p q : Addr) (n : Int), vs = [.ref p] ∧ Stm H p q n ∧ n + 8 ≤ 100000 ∧
  ∀ (l : List Nat) (n' : Int) (H' : Hp), l.length ≤ 40 → n' ≤ n + 6 → Stm H' p q n' → Xt H H' p q → Q (.str (SX.S l)) H')
theorem ok_odd (T : Txt K mg) : FnOk P w K mg base CX0 4 T.f__law_odd_name T.fd__law_odd_name ["_law_s"] spOdd := by
  have G__law_draw : FnOk P w K mg base CX0 1 _ _ _ spDraw := ok_draw T
  have G__law_pick : FnOk P w K mg base CX0 2 _ _ _ spPick := ok_pick T
  have G__law_name : FnOk P w K mg base CX0 3 _ _ _ spName := ok_name T
  refine T.D__law_odd_name.F.ok sc__law_odd_name (fun vs H Q E h => ?_) (fun cdv A outer s H vs Q E hr h => ?_)
  · obtain ⟨p, q, n, rfl, _⟩ := h.out
    rfl
  · obtain ⟨p, q, n, rfl, S0, hn, k⟩ := h.out
    refine ⟨_, (pss_cons (ps_set (i := 1) sc__law_odd_name.nd rfl (by first | exact Or.inl rfl | exact Or.inr rfl) (pe_call G__law_name (hr.mono (by first | decide | omega)) rfl T.D__law_name.g T.D__law_name.F.kp T.D__law_name.b .nil pass0 (pa_cons (pv 0) (pa_cons pe_int pa_nil))))
  (pss_cons (ps_set (i := 2) sc__law_odd_name.nd rfl (by first | exact Or.inl rfl | exact Or.inr rfl) (pe_lst (pa_cons (SL.pe_strL [] (by decide +kernel)) (pa_cons (SL.pe_strL [114, 111, 111, 116] (by decide +kernel)) (pa_cons (SL.pe_strL [114, 111, 111, 116, 46, 97] (by decide +kernel)) (pa_cons (pe_op SL.op_addL (pv 1) (SL.pe_strL [46] (by decide +kernel))) (pa_cons (pe_op SL.op_addL (SL.pe_strL [46] (by decide +kernel)) (pv 1)) (pa_cons (pe_op SL.op_addL (pv 1) (SL.pe_strL [46, 46, 98] (by decide +kernel))) (pa_cons (pe_op SL.op_addL (pv 1) (SL.pe_strL [98] (by decide +kernel))) (pa_cons (pe_op SL.op_addL (pv 1) (SL.pe_strL [32] (by decide +kernel))) (pa_cons (SL.pe_strL [32] (by decide +kernel)) (pa_cons (SL.pe_strL [46] (by decide +kernel)) pa_nil))))))))))))
  (pss_cons (ps_set (i := 2) sc__law_odd_name.nd rfl (by first | exact Or.inl rfl | exact Or.inr rfl) (pe_op op_cat (pv 2) (pe_lst (pa_cons (SL.pe_strL [97, 46, 66] (by decide +kernel)) (pa_cons (pe_op SL.op_addL (pv 1) (SL.pe_strL [46, 98, 46, 99] (by decide +kernel))) pa_nil)))))
  (pss_one (ps_ret (pe_ifExp (pt_cmpR op_eq (pe_call G__law_draw (hr.mono (by first | decide | omega)) rfl T.D__law_draw.g T.D__law_draw.F.kp T.D__law_draw.b .nil pass0 (pa_cons (pv 0) (pa_cons pe_int pa_nil))) pe_int (nomark _)) (pv 1) (pe_call G__law_pick (hr.mono (by first | decide | omega)) rfl T.D__law_pick.g T.D__law_pick.F.kp T.D__law_pick.b .nil pass0 (pa_cons (pv 0) (pa_cons (pv 2) pa_nil))))))))), ?_⟩
    walk_at "sx"
    refine .a ⟨p, q, n, 3, rfl, S0, by omega, by decide, by decide, fun ps n1 H1 ps0 psP psl hn1 S1 X1 => ?_⟩
    have zl : (dot ps).length ≤ 15 := by
      have h1 : ∀ x ∈ PARTS, x.length ≤ 4 := by decide
      have := len_dot5 fun x hx => h1 x (psP x hx)
      omega
    have z1 : ∀ a b : List Nat, a.length ≤ 30 → b.length ≤ 30 → a.length + b.length ≤ 100000 := fun a b h1 h2 => by omega
    walk_at "sx"
    intro p1 hp1
    obtain ⟨d, ed⟩ : ∃ d, d = dot ps := ⟨_, rfl⟩
    rw [← ed] at zl ⊢
    have s1 : Same H1 (upd H1 p1 (.lst (([[], [114, 111, 111, 116], [114, 111, 111, 116, 46, 97], d ++ [46], [46] ++ d, d ++ [46, 46, 98], d ++ [98], d ++ [32], [32], [46]] : List (List Nat)).map fun l => V.str (SX.S l)))) := same_new hp1
    have a1 : upd H1 p1 (.lst (([[], [114, 111, 111, 116], [114, 111, 111, 116, 46, 97], d ++ [46], [46] ++ d, d ++ [46, 46, 98], d ++ [98], d ++ [32], [32], [46]] : List (List Nat)).map fun l => V.str (SX.S l))) p1 = _ := upd_same
    generalize hG : upd H1 p1 _ = H2
    have hG : upd H1 p1 (.lst (([[], [114, 111, 111, 116], [114, 111, 111, 116, 46, 97], d ++ [46], [46] ++ d, d ++ [46, 46, 98], d ++ [98], d ++ [32], [32], [46]] : List (List Nat)).map fun l => V.str (SX.S l))) = H2 := hG
    rw [hG] at s1 a1
    clear hG
    walk_at "sx"
    intro p2 hp2
    have s2 : Same H2 (upd H2 p2 (.lst (([[97, 46, 66], d ++ [46, 98, 46, 99]] : List (List Nat)).map fun l => V.str (SX.S l)))) := same_new hp2
    have a2 : upd H2 p2 (.lst (([[97, 46, 66], d ++ [46, 98, 46, 99]] : List (List Nat)).map fun l => V.str (SX.S l))) p2 = _ := upd_same
    generalize hG : upd H2 p2 _ = H3
    have hG : upd H2 p2 (.lst (([[97, 46, 66], d ++ [46, 98, 46, 99]] : List (List Nat)).map fun l => V.str (SX.S l))) = H3 := hG
    rw [hG] at s2 a2
    clear hG
    refine ⟨p1, p2, _, _, rfl, rfl, s2 _ _ a1, a2, Nat.le_of_ble_eq_true rfl, fun p3 hp3 => ?_⟩
    rw [← List.map_append]
    obtain ⟨ls, els⟩ : ∃ ls : List (List Nat), ls = [[], [114, 111, 111, 116], [114, 111, 111, 116, 46, 97], d ++ [46], [46] ++ d, d ++ [46, 46, 98], d ++ [98], d ++ [32], [32], [46]] ++ [[97, 46, 66], d ++ [46, 98, 46, 99]] := ⟨_, rfl⟩
    rw [← els]
    have zls : ls.length = 12 := by rw [els]; rfl
    have zz : ∀ l ∈ ls, l.length ≤ 40 := by
      intro l hl
      rw [els] at hl
      simp only [List.cons_append, List.nil_append, List.mem_cons, List.not_mem_nil, or_false] at hl
      rcases hl with rfl | rfl | rfl | rfl | rfl | rfl | rfl | rfl | rfl | rfl | rfl | rfl <;> simp <;> omega
    have S3 := (S1.same s1).same s2
    have o4 := off_at (o := .lst (ls.map fun l => V.str (SX.S l))) S3 hp3
    have S4 : Stm (upd H3 p3 (.lst (ls.map fun l => V.str (SX.S l)))) p q n1 := S3.same (same_new hp3)
    have X4 : Xt H (upd H3 p3 (.lst (ls.map fun l => V.str (SX.S l)))) p q := X1.trans (Xt.same (fun b u e => same_new hp3 _ _ (s2 _ _ (s1 _ _ e))))
    generalize upd H3 p3 (.lst (ls.map fun l => V.str (SX.S l))) = H4 at o4 S4 X4 ⊢
    walk_at "sx"
    refine .a ⟨p, q, n1, 2, rfl, S4, by omega, by decide, by decide, fun e n5 H5 e0 e1 hn5 S5 fr5 => ?_⟩
    have X5 := X4.trans (.of (n := n1) S5 fr5)
    walk_at "sx"
    by_cases he : e = 0
    · refine if_true_of (decide_eq_true (congrArg V.int he)) ?_
      walk_at "sx"
      exact k d n5 H5 (by omega) (by omega) S5 X5
    · refine if_false_of (decide_eq_false fun z => he (V.int.inj z)) ?_
      walk_at "sx"
      refine .a ⟨p, q, p3, n5, ls.map fun l => V.str (SX.S l), rfl, S5, by omega, ?_, by rw [List.length_map]; omega, by rw [List.length_map]; omega, fun v n6 H6 hv hn6 S6 fr6 => ?_⟩
      · exact fr5 _ _ o4
      obtain ⟨l, hl, rfl⟩ := List.mem_map.mp hv
      exact k l n6 H6 (zz l hl) (by omega) S6 (X5.trans (.of (n := n5) S6 fr6))
end
end My

namespace SuX
open PySem PySem.Spec PySem.Calls PyProof.Rows L2
/-! calls of one form that may go to one of two classes; o.m(k = v, ..) -/
theorem pe_two {X : Cx} {e : Expr} {t u : TE} (h : PE X e t) (g : PE X e u) : PE X e (fun σ H Q => t σ H Q ∨ u σ H Q) := ⟨fun pins s σ H Q I hw => hw.elim (h.run pins s σ H Q I) (g.run pins s σ H Q I)⟩
def tMethK (C : Addr) (m : Str) (n : Nat) (sp : Sp) (gV : List V → List V → List V) (E : XK) (ta : TE) (tk : TA) : TE := fun σ H Q => ta σ H fun x H1 => ∃ a dx fs, x = .ref a ∧ H1 a = some (.ins C dx fs) ∧ fs.lookup m = none ∧ tk σ H1 fun zs H2 => zs.length = n ∧ sp (gV [.ref a] zs) H2 Q E
section
variable {X : Cx} {CX : CXT} {k : Nat} {f C : Addr} {fd : FuncData} {ps ks : List Str} {sp : Sp} {E : XK} {m : Str} {apos pos : Pos} {o : Expr} {kws : List Keyword} {ta : TE} {tk : TA} {g : List Value → List Value → List Value} {gV : List V → List V → List V}
theorem run_fnKn {n : Nat} {pins : List (Addr × Obj)} {σ : L2.St} {H : Hp} {s : Shared} {Q : VK} {us ws : List Value} {vs zs : List V} (F : FnOk X.prog X.w X.K X.mg X.base CX k f fd ps sp) (hr : Room k X.A) (hb : KBn X.K fd ps n ks g gV) (hx : Passes CX X E)
    (I : Inv X pins σ H s) (r : Vals vs us) (rz : Vals zs ws) (l1 : us.length = n) (l2 : ws.length = ks.length) (h : sp (gV vs zs) H Q E) : wpAny (model X.prog X.w) X.A (call (.ref f) us (ks.zip ws)) (EP X pins σ Q) X.xe s := by
  have r2 := hb.rel r rz
  refine wpAny_call (codeAny_mono (F.run X.A X.stack s H ⟨us, ks.zip ws⟩ (g us ws) (gV vs zs) Q E hr I.env0 (hb.to s us ws I.kIn l1 l2) r2 h) fun r s' hq => ?_)
  cases r with
  | error e => exact hx pins σ H s e s' I hq
  | ok fl =>
    cases fl with
    | ret u => exact I.after hq
    | next => exact False.elim hq
    | brk => exact False.elim hq
    | cont => exact False.elim hq
theorem pe_methK0 {pl : Sem Bool} (he : PE X o ta) (c : Cls X.K C) (hm : Meth X.K C m f) (F : FnOk X.prog X.w X.K X.mg X.base CX k f fd ps sp) (hr : Room k X.A) (hb : KBn X.K fd ps 1 ks g gV) (hx : Passes CX X E) (hkw : PK X kws tk)
    (hall : (backToKw pos (keywordEach kws X.env)).all (·.1.isSome) = true := by rfl) (hks : (backToKw pos (keywordEach kws X.env)).filterMap (·.1) = ks := by rfl)
    (hpl : ((backTo pos (starEach [] X.env)).any (·.1) || (backToKw pos (keywordEach kws X.env)).any (·.1.isNone)) = false := by rfl)
    (ht : eval (.Call (.Attribute o m apos) [] kws pos) X.env = (do
      let ov ← eval o X.env
      standAt apos.atName
      let (f, first) ← holding [ov] (getMethod ov m pl)
      callWith pos f first (backTo pos (starEach [] X.env)) (backToKw pos (keywordEach kws X.env))) := by rfl) :
    PE X (.Call (.Attribute o m apos) [] kws pos) (tMethK C m ks.length sp gV E ta tk) := by
  refine ⟨fun pins s σ H Q I h => ?_⟩
  refine PySem.W.methodCall_KW (pl := pl) (thn (he.run pins s σ H _ I h) fun u s1 ⟨x, H1, I1, rx, a, dx, fs, ex, ea, l, q⟩ => ?_) ht
  subst ex
  obtain rfl : u = Value.ref a := rx
  refine getmeth_ok I1 ea c hm l ?_
  refine PySem.W.callWith_KW0 (first := [.ref a]) (h₀ := X.base) I.ok.mod.kin hm.kp hall ?_ hpl
  refine thn (hkw.run pos pins s1 σ H1 _ I1 q) fun ws s2 ⟨zs, H2, I2, rz, l2, q2⟩ => ⟨I2.kIn, ?_⟩
  rw [hks]
  exact run_fnKn (us := [.ref a]) (vs := [.ref a]) F hr hb hx I2 (.cons rfl .nil) rz rfl (rz.length.symm.trans l2) q2
end
theorem kbn_of {K : PySem.W.Frag} {x qual : Str} {st : Stmt} {f : Addr} {fd : FuncData} {ps ks : List Str} {n : Nat} (F : Fun K x qual st f fd) (g : {α : Type} → List α → List α → List α)
    (hrel : ∀ {vs zs : List V} {us ws : List Value}, Vals vs us → Vals zs ws → Vals (g vs zs) (g us ws))
    (h : ∀ (kV doc pm : Value) (an : Option Addr) (cdv ct : Value) (us ws : List Value), us.length = n → ws.length = ks.length → bindArgs (PySem.W.fnOf x qual (defArgs st) (defBody st) (defScope st) .none kV doc pm an cdv ct) ⟨us, ks.zip ws⟩ = pure (ps.zip (g us ws))) : KBn K fd ps n ks (fun us ws => g us ws) (fun vs zs => g vs zs) := by
  obtain ⟨oc, od, kV, doc, pm, an, cdv, ct, osl, rfl, lk, hcd⟩ := F.ex
  refine ⟨fun s us ws X l1 l2 => ?_, hrel⟩
  refine BindsTo.of_looks fun M => ?_
  rw [h kV doc pm an cdv ct us ws l1 l2]
  exact .of_pure rfl
end SuX

namespace My
open PySem PySem.Spec PyProof.Rows L2 SuX LTr DN
local macro_rules | `(tactic| walk_at "hp") => `(tactic| first | assumption | exact upd_same | (refine Eq.trans (upd_ne (by first | assumption | (apply Ne.symm; assumption))) ?_; walk_at "hp"))
local macro_rules | `(tactic| walk_at "ixl") => `(tactic| (refine' ⟨_, ?xs, _, ?vv, rfl, rfl, SqL.of ?hh, ?aa, ?qq⟩; (case hh => walk_at "hp"); (case aa => rfl)))
local macro_rules | `(tactic| walk_at "setl") => `(tactic| (refine' ⟨_, ?xs, _, ?jj, rfl, rfl, ?hh, ?aa, ?qq⟩; (case hh => walk_at "hp"); (case aa => rfl)))
local macro_rules | `(tactic| walk_at "cond") => `(tactic| first | exact ⟨_, rfl⟩ | exact Nat.le_of_lt (small1000 (Nat.le_of_ble_eq_true rfl)) | decide | omega | (dsimp only; omega) | exact ⟨by decide, by decide⟩ | exact Or.inr ⟨by decide, by decide⟩ | exact Or.inl ⟨by decide, by decide⟩ | exact ⟨by decide, by decide, by decide⟩ | exact ⟨by omega, by omega⟩ | exact ⟨by omega, by omega, by omega⟩ | (simp only [List.length_cons, List.length_nil, List.length_append, List.length_take, List.length_drop]; omega) | (refine ⟨?_, ?_, ?_⟩ <;> first | decide | omega | (simp only [List.length_cons, List.length_nil, List.length_append, List.length_take, List.length_drop, Option.getD_some, Option.getD_none]; omega)))
local macro_rules | `(tactic| walk_at "st") => `(tactic| repeat (first | refine ⟨_, rfl, ?_⟩ | refine ⟨_, _, rfl, rfl, ?_⟩ | walk_at "ixl" | walk_at "setl" | refine ⟨rfl, ?_⟩ | refine Or.inl ⟨_, rfl, ?_⟩ | refine And.intro (by walk_at "cond") ?_))
local macro_rules | `(tactic| walk_at "cls") => `(tactic| first | exact OC.cl (by assumption) | exact (‹Txt _ _›).o_Clock.cl | exact (‹Txt _ _›).o_LevelTable.cl | exact (‹Txt _ _›).o_LogRecord.cl | exact (‹Txt _ _›).o_Filter.cl | exact (‹Txt _ _›).o_Store.cl | exact (‹Txt _ _›).o_Written.cl | exact (‹Txt _ _›).o_Roster.cl | exact (‹Txt _ _›).o_Handler.cl | exact (‹Txt _ _›).o_NullHandler.cl | exact (‹Txt _ _›).o_Logger.cl | exact (‹Txt _ _›).o_LoggerTree.cl | exact (‹Txt _ _›).o_StreamHandler.cl | exact (‹Txt _ _›).o_Yard.cl)
local macro_rules | `(tactic| walk_at "na") => `(tactic| first | (refine na_of (by assumption) ?_; decide) | (refine na_of (‹Txt _ _›).o_Clock ?_; decide) | (refine na_of (‹Txt _ _›).o_LevelTable ?_; decide) | (refine na_of (‹Txt _ _›).o_LogRecord ?_; decide) | (refine na_of (‹Txt _ _›).o_Filter ?_; decide) | (refine na_of (‹Txt _ _›).o_Store ?_; decide) | (refine na_of (‹Txt _ _›).o_Written ?_; decide) | (refine na_of (‹Txt _ _›).o_Roster ?_; decide) | (refine na_of (‹Txt _ _›).o_Handler ?_; decide) | (refine na_of (‹Txt _ _›).o_NullHandler ?_; decide) | (refine na_of (‹Txt _ _›).o_Logger ?_; decide) | (refine na_of (‹Txt _ _›).o_LoggerTree ?_; decide) | (refine na_of (‹Txt _ _›).o_StreamHandler ?_; decide) | (refine na_of (‹Txt _ _›).o_Yard ?_; decide))
local macro_rules | `(tactic| walk_at "fld") => `(tactic| (refine' ⟨_, _, _, _, ?vv, rfl, ?hh, ?cc, ?nn, ?ll, ?qq⟩; (case hh => walk_at "hp"); (case cc => walk_at "cls"); (case nn => walk_at "na"); (case ll => exact rfl)))
local macro_rules | `(tactic| walk_at "sto") => `(tactic| (refine' ⟨_, _, _, _, rfl, ?hh, ?cc, ?nn, ?ll, ?qq⟩; (case hh => walk_at "hp"); (case cc => walk_at "cls"); (case nn => walk_at "na"); (case ll => first | exact Nat.le_of_ble_eq_true rfl | assumption)))
local macro_rules | `(tactic| walk_at "mth") => `(tactic| (refine' ⟨_, _, _, rfl, ?hh, ?ll, ?qq⟩; (case hh => walk_at "hp"); (case ll => exact rfl)))
local macro_rules | `(tactic| walk_at "sx") => `(tactic| repeat (first | refine ⟨_, rfl, ?_⟩ | refine ⟨_, _, rfl, rfl, ?_⟩ | walk_at "ixl" | walk_at "setl" | refine ⟨rfl, ?_⟩ | refine Or.inl ⟨_, rfl, ?_⟩ | walk_at "fld" | walk_at "sto" | walk_at "mth" | refine And.intro (by walk_at "cond") ?_))
theorem passes_no {X : Cx} : Passes (L2.CX X.prog X.w) X (fun _ _ _ => False) := fun _ _ _ _ _ _ _ h => by
  obtain ⟨_, _, _, _, _, _, _, _, _, _, _, _, z⟩ := h
  exact z.elim
theorem due_eq (l n : List Nat) : decide ((n ++ [46]).take (l.length + 1) = l ++ [46]) = (decide (n = l) || decide (n.take (l.length + 1) = l ++ [46])) := by
  rw [Bool.eq_iff_iff]
  simp only [Bool.or_eq_true, decide_eq_true_eq]
  constructor
  · intro h
    by_cases h1 : l.length + 1 ≤ n.length
    · rw [List.take_append_of_le_length h1] at h
      exact .inr h
    · have h2 : n ++ [46] = l ++ [46] := by
        rw [List.take_of_length_le (by rw [List.length_append, List.length_singleton]; omega)] at h
        exact h
      exact .inl (List.append_cancel_right h2)
  · rintro (rfl | h)
    · rw [List.take_of_length_le (by rw [List.length_append, List.length_singleton]; omega)]
    · have h1 : l.length + 1 ≤ n.length := by
        have := congrArg List.length h
        rw [List.length_take, List.length_append, List.length_singleton] at this
        omega
      rw [List.take_append_of_le_length h1]
      exact h
theorem cut_take (a : List Nat) (k : Nat) : SL.cutL a none (some ((k : Int) + 1)) = a.take (k + 1) := by
  show List.drop 0 (List.take ((k : Int) + 1).toNat a) = _
  rw [List.drop_zero, show ((k : Int) + 1).toNat = k + 1 by omega]
def taOf (y : Addr) (Y : YA) : TA := ⟨Y.tr, Y.dtr, y, Y.lv, Y.ck, Y.lr, Y.nm, Y.rt, Y.drt, Y.rh, Y.rf, 0, 30, true, false⟩
theorem tree0 {K : PySem.W.Frag} {mg : Str → Option Value} {T : Txt K mg} {H0 H : Hp} {y : Addr} {v : V} {Y : YA} (tk : TK H0 y (YL T y v Y) H) : TreeAt T H (taOf y Y) [] := by
  have a := fun (i : Nat) (e : Addr × HO) (h : (YL T y v Y)[i]? = some e) => tk.at_ e (List.mem_of_getElem? h)
  exact ⟨a 14 _ rfl, a 15 _ rfl, a 16 _ rfl, fun L hL => absurd hL List.not_mem_nil, fun L hL => absurd hL List.not_mem_nil, ⟨List.nodup_nil, List.nodup_nil, fun L hL => absurd hL List.not_mem_nil, fun L hL => absurd hL List.not_mem_nil⟩, Nat.zero_le _⟩
theorem if_te {c : Bool} {ta tb : TE} {σ : L2.St} {H : Hp} {Q : VK} (Mid : V → Hp → Prop) (hQ : ∀ v H', Mid v H' → Q v H') (h1 : c = true → ∀ R : VK, (∀ v H', Mid v H' → R v H') → ta σ H R) (h2 : c = false → ∀ R : VK, (∀ v H', Mid v H' → R v H') → tb σ H R) :
    if c = true then ta σ H Q else tb σ H Q := by
  cases c with
  | true => exact h1 rfl Q hQ
  | false => exact h2 rfl Q hQ
theorem for_tupH {K : PySem.W.Frag} {a : Addr} {xs : List V} {g : TG} {tb : TS} {D : Ends} {σ : L2.St} {H : Hp} (W : Nat → L2.St → Hp → Prop) (hst : ∀ i σ H, W i σ H → H a = some (.tup xs)) (h0 : W 0 σ H) (hend : ∀ σ H, W xs.length σ H → D.nx σ H)
    (hs : ∀ (R : L2.St → Hp → Prop) (i : Nat) σ H x, W i σ H → xs[i]? = some x → ∀ N : L2.St → Hp → Prop, N = (fun σ' H' => Hd (W (i + 1) σ' H')) → g x σ H fun σ2 H2 => tb { D with nx := N, ct := N, bk := D.nx } σ2 H2) :
    ∃ W : Nat → Nat → L2.St → Hp → Prop, (∃ m, W 0 m σ H) ∧ ∀ i m σ H, W i m σ H →
      ((Itt K a).stop i H ∧ D.nx σ H) ∨ ((Itt K a).go i H ∧ ∃ N : L2.St → Hp → Prop, (∀ σ' H', N σ' H' → ∃ m', m' < m ∧ W (i + 1) m' σ' H') ∧ ∀ x H', (Itt K a).yld i H x H' → g x σ H' fun σ2 H2 => tb { D with nx := N, ct := N, bk := D.nx } σ2 H2) := by
  refine ⟨fun i m σ H => W i σ H ∧ m = xs.length - i ∧ i ≤ xs.length, ⟨_, h0, rfl, Nat.zero_le _⟩, ?_⟩
  rintro i m σ H ⟨hw, rfl, hi⟩
  have hl := SqT.of (K := K) (hst i σ H hw)
  by_cases hlt : i < xs.length
  · refine .inr ⟨⟨xs, xs[i], hl, List.getElem?_eq_getElem hlt⟩, fun σ' H' => Hd (W (i + 1) σ' H'), fun σ' H' z => ⟨xs.length - (i + 1), by omega, z.out, rfl, by omega⟩, ?_⟩
    rintro x H' ⟨rfl, hx⟩
    exact hs D.nx i σ H' x hw (hx xs hl) _ rfl
  · have e : i = xs.length := by omega
    subst e
    exact .inl ⟨⟨xs, hl, Nat.le_refl _⟩, hend σ H hw⟩
theorem upd_back {H : Hp} {a : Addr} {o o' : HO} (h : H a = some o) : upd (upd H a o') a o = H := by
  funext b
  by_cases e : b = a
  · rw [e, upd_same, h]
  · rw [upd_ne e, upd_ne e]
theorem or_te {c : Bool} {tb : TE} {σ : L2.St} {H : Hp} {Q : VK} (b2 : Bool) (h2 : ∀ R : VK, R (.bl b2) H → tb σ H R) (h : Q (.bl (c || b2)) H) : if c = true then Q (.bl true) H else tb σ H Q := by
  cases c with
  | true => exact h
  | false => exact h2 _ h
/-- what stands through the law's turns -/
structure J17 {K : PySem.W.Frag} {mg : Str → Option Value} (T : Txt K mg) (H : Hp) (p q : Addr) (n : Int) (g dg a1 : Addr) (fg : List (Str × V)) (h dh a2 y dy : Addr) (Y : YA) (v : V) : Prop where
  st : Stm H p q n
  hg : H g = some (.ins T.C_Logger dg fg)
  h1 : H a1 = some (.lst [])
  hh : H h = some (.ins T.C_NullHandler dh (fHd y a2))
  h2 : H a2 = some (.lst [])
  hy : H y = some (.ins T.C_Yard dy (fYd Y))
  ck : H Y.ck = some (.ins T.C_Clock Y.dck [("shown", v)])
  lv : H Y.lv = some (.ins T.C_LevelTable Y.dlv (fLv Y.n1 Y.n2))
  n1 : H Y.n1 = some (.dK firstNames)
  n2 : H Y.n2 = some (.dK firstNumbers)
  np : (a1 ≠ p ∧ a1 ≠ q) ∧ a2 ≠ p ∧ a2 ≠ q
section
variable {K : PySem.W.Frag} {mg : Str → Option Value} {T : Txt K mg} {H H' : Hp} {p q : Addr} {n n' : Int} {g dg a1 : Addr} {fg : List (Str × V)} {h dh a2 y dy : Addr} {Y : YA} {v : V}
theorem J17.xt (l : J17 T H p q n g dg a1 fg h dh a2 y dy Y v) (S' : Stm H' p q n') (x : Xt H H' p q) : J17 T H' p q n' g dg a1 fg h dh a2 y dy Y v := by
  obtain ⟨⟨cs, a, c, SA⟩, _, _⟩ := l.st
  have ip : ∀ b C d fs, H b = some (.ins C d fs) → H' b = some (.ins C d fs) := fun b C d fs e => x.at e (fun z => by rw [z, SA.hp] at e; cases e) fun z => by rw [z, SA.hq] at e; cases e
  have kp : ∀ b k, H b = some (.dK k) → H' b = some (.dK k) := fun b k e => x.at e (fun z => by rw [z, SA.hp] at e; cases e) fun z => by rw [z, SA.hq] at e; cases e
  exact ⟨S', ip _ _ _ _ l.hg, x.at l.h1 l.np.1.1 l.np.1.2, ip _ _ _ _ l.hh, x.at l.h2 l.np.2.1 l.np.2.2, ip _ _ _ _ l.hy, ip _ _ _ _ l.ck, ip _ _ _ _ l.lv, kp _ _ l.n1, kp _ _ l.n2, l.np⟩
theorem J17.same (l : J17 T H p q n g dg a1 fg h dh a2 y dy Y v) (s : Same H H') : J17 T H' p q n g dg a1 fg h dh a2 y dy Y v := l.xt (l.st.same s) (Xt.same s)
theorem FrS.same0 (s : FrS [] H H') : Same H H' := fun b u e => s b u List.not_mem_nil e
end
section
variable {P : Program} {w : World} {K : PySem.W.Frag} {mg : Str → Option Value} {base : Heap}
def spLaw (K : PySem.W.Frag) (PP PD : Addr) : Sp := fun vs H Q _ => Hd (∃ (a : Addr) (cs : List Int), vs = [.ref a] ∧ SqL K H a (cs.map V.int) ∧ GxR.TabG H PP ∧ GxR.TabG H PD ∧ ∀ H', Q (.bl true) H')
theorem ok_law (T : Txt K mg) (Z : Dct P w K mg T) (TP : GxR.TabB base mg T.cP T.PP) (TD : GxR.TabB base mg T.cD T.PD) : FnOk P w K mg base CX0 9 T.f_law T.fd_law ["_law_script"] (spLaw K T.PP T.PD) := by
  have G__law_draw : FnOk P w K mg base CX0 1 _ _ _ spDraw := ok_draw T
  have G__law_pick : FnOk P w K mg base CX0 2 _ _ _ spPick := ok_pick T
  have G__law_odd_name : FnOk P w K mg base CX0 4 _ _ _ spOdd := ok_odd T
  have G__law_same : FnOk P w K mg base CX0 2 _ _ _ spSame1 := ok_same T
  have G_Yard : FnOk P w K mg base CX0 5 _ _ _ (spYard T) := ok_yard T Z
  have G_NullHandler : FnOk P w K mg base CX0 3 _ _ _ (spNull T) := ok_null T Z
  have G_Filter : FnOk P w K mg base CX0 1 _ _ _ (spFilter T.C_Filter) := ok_filter T
  have G_Filter_passes : FnOk P w K mg base CX0 1 _ _ _ (spPasses T.C_Filter T.C_LogRecord) := ok_passes T
  have G_Yard_getLogger : FnOk P w K mg base (L2.CX P w) 8 _ _ _ (spGetY T) := ok_getY T TP TD
  have G_Yard_make_record : FnOk P w K mg base (L2.CX P w) 6 _ _ _ (spYMade T) := ok_ymade T
  have G_Logger_addFilter : FnOk P w K mg base CX0 1 _ _ _ (spAddFL T) := ok_addFL T
  have G_Logger_removeFilter : FnOk P w K mg base CX0 1 _ _ _ (spRemFL T) := ok_remFL T
  have G_Logger_filtered : FnOk P w K mg base CX0 4 _ _ _ (spFiltL T) := ok_filtL T
  have G_NullHandler_addFilter : FnOk P w K mg base CX0 2 _ _ _ (spAddFN T) := ok_addFN T Z
  have G_NullHandler_removeFilter : FnOk P w K mg base CX0 2 _ _ _ (spRemFN T) := ok_remFN T Z
  have G_NullHandler_filtered : FnOk P w K mg base CX0 5 _ _ _ (spFiltN T) := ok_filtN T Z
  obtain ⟨dsY, hdY, hbY⟩ := T.dd_Yard_init
  obtain ⟨dsM, hdM, hbM⟩ := T.dd_Yard_make_record
  obtain ⟨dsF, hdF, hbF⟩ := T.dd_Filter_init
  refine T.D_law.F.ok sc_law (fun vs H Q E h => ?_) (fun cdv A outer s H vs Q E hr h => ?_)
  · obtain ⟨a, cs, rfl, _⟩ := h.out
    rfl
  · obtain ⟨a, cs, rfl, ha, tP, tD, k⟩ := h.out
    have hu := hu_of hr
    have hu64 := hr.units
    refine ⟨_, (pss_cons (ps_set (i := 1) sc_law.nd rfl (by first | exact Or.inl rfl | exact Or.inr rfl) (pe_lst (pa_cons (pe_callTy call_list_of (by rfl) T.B.n_list (by decide +kernel) (pa_cons (pv 0) pa_nil)) (pa_cons pe_int (pa_cons pe_int (pa_cons pe_int pa_nil))))))
  (pss_cons (ps_set (i := 2) sc_law.nd rfl (by first | exact Or.inl rfl | exact Or.inr rfl) (pe_make0 T.M_Yard G_Yard (hr.mono (by first | decide | omega)) rfl T.g_Yard hbY hdY pass0))
  (pss_cons (ps_par (i := 3) (j := 4) rfl sc_law.nd rfl rfl (by decide) rfl rfl (pa_cons (pe_meth (pv 2) T.o_Yard.cl T.Me_Yard_getLogger G_Yard_getLogger (hr.mono (by first | decide | omega)) T.b_Yard_getLogger .nil passes_no (pa_cons (SL.pe_strL [120] (by decide +kernel)) pa_nil)) (pa_cons (pe_make T.M_NullHandler G_NullHandler (hr.mono (by first | decide | omega)) rfl T.g_NullHandler T.b_NullHandler_init .nil pass0 (pa_cons (pv 2) pa_nil)) pa_nil)) rfl)
  (pss_cons (ps_for PassesOwn.never rfl (pi_range1 rfl T.B.n_range (pa_cons pe_int pa_nil)) (pg_name (i := 5) sc_law.nd rfl (by first | exact Or.inl rfl | exact Or.inr rfl))
    (pss_cons (ps_par (i := 6) (j := 7) rfl sc_law.nd rfl rfl (by decide) rfl rfl (pa_cons (pe_call G__law_odd_name (hr.mono (by first | decide | omega)) rfl T.D__law_odd_name.g T.D__law_odd_name.F.kp T.D__law_odd_name.b .nil pass0 (pa_cons (pv 1) pa_nil)) (pa_cons (pe_call G__law_odd_name (hr.mono (by first | decide | omega)) rfl T.D__law_odd_name.g T.D__law_odd_name.F.kp T.D__law_odd_name.b .nil pass0 (pa_cons (pv 1) pa_nil)) pa_nil)) rfl)
  (pss_cons (ps_set (i := 7) sc_law.nd rfl (by first | exact Or.inl rfl | exact Or.inr rfl) (pe_ifExp (pt_cmpR op_eq (pe_call G__law_draw (hr.mono (by first | decide | omega)) rfl T.D__law_draw.g T.D__law_draw.F.kp T.D__law_draw.b .nil pass0 (pa_cons (pv 1) (pa_cons pe_int pa_nil))) pe_int (nomark _)) (pe_op SL.op_addL (pv 6) (pe_call G__law_pick (hr.mono (by first | decide | omega)) rfl T.D__law_pick.g T.D__law_pick.F.kp T.D__law_pick.b .nil pass0 (pa_cons (pv 1) (pa_cons (pe_lst (pa_cons (SL.pe_strL [] (by decide +kernel)) (pa_cons (SL.pe_strL [46] (by decide +kernel)) (pa_cons (SL.pe_strL [46, 97] (by decide +kernel)) (pa_cons (SL.pe_strL [97] (by decide +kernel)) (pa_cons (SL.pe_strL [46, 97, 46, 98] (by decide +kernel)) pa_nil)))))) pa_nil)))) (pv 7)))
  (pss_cons (ps_par (i := 8) (j := 9) rfl sc_law.nd rfl rfl (by decide) rfl rfl (pa_cons (pe_make T.M_Filter G_Filter (hr.mono (by first | decide | omega)) rfl T.g_Filter T.b_Filter_init .nil pass0 (pa_cons (pv 6) pa_nil)) (pa_cons (pe_meth (pv 2) T.o_Yard.cl T.Me_Yard_make_record G_Yard_make_record (hr.mono (by first | decide | omega)) hbM hdM passes_no (pa_cons (pv 7) (pa_cons pe_int (pa_cons (SL.pe_strL [109] (by decide +kernel)) pa_nil)))) pa_nil)) rfl)
  (pss_cons (ps_set (i := 10) sc_law.nd rfl (by first | exact Or.inl rfl | exact Or.inr rfl) (pe_or (pe_cmpR SL.op_eqL (pv 6) (SL.pe_strL [] (by decide +kernel)) (nomark _)) (pe_one (pe_cmpR SL.op_eqL (pe_slice SL.sl_L (pe_op SL.op_addL (pv 7) (SL.pe_strL [46] (by decide +kernel))) po_none (po_some (pe_op op_add (pe_callB SL.call_lenL (by rfl) T.B.n_len (by decide +kernel) (pa_cons (pv 6) pa_nil)) pe_int))) (pe_op SL.op_addL (pv 6) (SL.pe_strL [46] (by decide +kernel))) (nomark _)))))
  (pss_cons (ps_if (PW.pt (pw_or (pt_not (pt_val (pe_call G__law_same (hr.mono (by first | decide | omega)) rfl T.D__law_same.g T.D__law_same.F.kp T.D__law_same.b .nil pass0 (pa_cons (pe_meth (pv 8) T.o_Filter.cl T.Me_Filter_passes G_Filter_passes (hr.mono (by first | decide | omega)) T.b_Filter_passes .nil pass0 (pa_cons (pv 9) pa_nil)) (pa_cons (pv 10) pa_nil))))) (pw_or1 (pt_cmpR SL.op_neL (pe_fld (pv 8) rfl) (pv 6) (nomark _)))))
    (pss_one (ps_ret pe_bl))
    pss_nil)
  (pss_cons (ps_for PassesOwn.never rfl (pi_tup (pe_tup (pa_cons (pv 3) (pa_cons (pv 4) pa_nil)))) (pg_name (i := 11) sc_law.nd rfl (by first | exact Or.inl rfl | exact Or.inr rfl))
    (pss_cons (ps_expr (pe_two (pe_meth (pv 11) T.o_Logger.cl T.Me_Logger_addFilter G_Logger_addFilter (hr.mono (by first | decide | omega)) T.b_Logger_addFilter .nil pass0 (pa_cons (pv 8) pa_nil)) (pe_meth (pv 11) T.o_NullHandler.cl T.Me_NullHandler_addFilter G_NullHandler_addFilter (hr.mono (by first | decide | omega)) T.b_NullHandler_addFilter .nil pass0 (pa_cons (pv 8) pa_nil))))
  (pss_cons (ps_set (i := 12) sc_law.nd rfl (by first | exact Or.inl rfl | exact Or.inr rfl) (pe_two (pe_meth (pv 11) T.o_Logger.cl T.Me_Logger_filtered G_Logger_filtered (hr.mono (by first | decide | omega)) T.b_Logger_filtered .nil pass0 (pa_cons (pv 9) pa_nil)) (pe_meth (pv 11) T.o_NullHandler.cl T.Me_NullHandler_filtered G_NullHandler_filtered (hr.mono (by first | decide | omega)) T.b_NullHandler_filtered .nil pass0 (pa_cons (pv 9) pa_nil))))
  (pss_cons (ps_expr (pe_two (pe_meth (pv 11) T.o_Logger.cl T.Me_Logger_removeFilter G_Logger_removeFilter (hr.mono (by first | decide | omega)) T.b_Logger_removeFilter .nil pass0 (pa_cons (pv 8) pa_nil)) (pe_meth (pv 11) T.o_NullHandler.cl T.Me_NullHandler_removeFilter G_NullHandler_removeFilter (hr.mono (by first | decide | omega)) T.b_NullHandler_removeFilter .nil pass0 (pa_cons (pv 8) pa_nil))))
  (pss_one (ps_if (PW.pt (pw_or (pt_cmpR (OQ.op_neO hu64) (pv 12) (pe_ifExp (pt_val (pv 10)) (pv 9) pe_non) (nomark _)) (pw_or1 (pt_cmpR (OQ.op_neO hu64) (pe_two (pe_meth (pv 11) T.o_Logger.cl T.Me_Logger_filtered G_Logger_filtered (hr.mono (by first | decide | omega)) T.b_Logger_filtered .nil pass0 (pa_cons (pv 9) pa_nil)) (pe_meth (pv 11) T.o_NullHandler.cl T.Me_NullHandler_filtered G_NullHandler_filtered (hr.mono (by first | decide | omega)) T.b_NullHandler_filtered .nil pass0 (pa_cons (pv 9) pa_nil))) (pv 9) (nomark _)))))
    (pss_one (ps_ret pe_bl))
    pss_nil))))))
  (pss_one (ps_if (PW.pt (pw_or (pt_cmpR op_notBl (pe_meth (pe_make0 T.M_Filter G_Filter (hr.mono (by first | decide | omega)) rfl T.g_Filter hbF hdF pass0) T.o_Filter.cl T.Me_Filter_passes G_Filter_passes (hr.mono (by first | decide | omega)) T.b_Filter_passes .nil pass0 (pa_cons (pv 9) pa_nil)) pe_bl (nomark _)) (pw_or1 (pt_cmpR SL.op_neL (pe_fld (pv 9) rfl) (pv 7) (nomark _)))))
    (pss_one (ps_ret pe_bl))
    pss_nil)))))))))
  (pss_one (ps_ret (pe_cmpR SL.op_eqL (pe_fld (pe_make0 T.M_Filter G_Filter (hr.mono (by first | decide | omega)) rfl T.g_Filter hbF hdF pass0) rfl) (SL.pe_strL [] (by decide +kernel)) (nomark _)))))))), ?_⟩
    walk_at "sx"
    refine ⟨a, cs.map V.int, rfl, .inl ha, fun q hq => ?_⟩
    walk_at "sx"
    intro p hp
    have qp : q ≠ p := fun z => by rw [z, upd_same] at hp; cases hp
    have e1 : upd (upd H q (.lst (cs.map V.int))) p (.lst [.ref q, .int 0, .int 0, .int 0]) p = some (.lst [.ref q, .int 0, .int 0, .int 0]) := upd_same
    have e2 : upd (upd H q (.lst (cs.map V.int))) p (.lst [.ref q, .int 0, .int 0, .int 0]) q = some (.lst (cs.map V.int)) := by rw [upd_ne qp]; exact upd_same
    have s01 : Same H (upd (upd H q (.lst (cs.map V.int))) p (.lst [.ref q, .int 0, .int 0, .int 0])) := fun b u e => same_new hp _ _ (same_new hq _ _ e)
    generalize upd (upd H q (.lst (cs.map V.int))) p (.lst [.ref q, .int 0, .int 0, .int 0]) = H1 at e1 e2 s01 ⊢
    have S1 : Stm H1 p q 0 := ⟨⟨cs, 0, 0, ⟨e1, e2, by decide, by decide, by decide⟩⟩, by decide, by decide⟩
    have tP1 := (Same.t s01).tab tP
    have tD1 := (Same.t s01).tab tD
    walk_at "sx"
    intro y dy c1 c2 c3
    refine .a ⟨y, dy, .int 0, rfl, upd_same, fun H2 Y tk hy => ?_⟩
    have lf : ∀ b u, H1 b = some u → H2 b = some u := fun b u e => tk.same _ _ (neN e c1) (mkH_old c1 c2 e)
    refine ⟨rfl, ?_⟩
    walk_at "sx"
    have at' := fun (i : Nat) (e : Addr × HO) (h : (YL T y (.int 0) Y)[i]? = some e) => tk.at_ e (List.mem_of_getElem? h)
    have sp2 : Stm H2 p q 0 := S1.same lf
    have tP2 := (Same.t lf).tab tP1
    have tD2 := (Same.t lf).tab tD1
    refine .a ⟨taOf y Y, [], [[120]], dy, fYd Y, rfl, hy, rfl, tree0 tk, by decide, ⟨by decide, by decide, by decide⟩, by decide, tP2, tD2, fun H3 S' t' c hm => ?_⟩
    have hnm : H2 Y.nm = some (.dK []) := at' 15 _ rfl
    rcases c with ⟨rfl, _⟩ | ⟨_, fr3, L, rfl, N⟩
    · exact absurd hm List.not_mem_nil
    have k3 : ∀ b o, H2 b = some o → noT o = true → o ≠ .dK [] → H3 b = some o := fun b o e e2 e3 => fr3.st b o (fun z => by
      rcases List.mem_cons.mp z with z | z
      · rw [z] at e
        exact e3 (Option.some.inj (e.symm.trans hnm))
      · exact absurd z List.not_mem_nil) e e2
    have eadr : adr (taOf y Y).rt ([] ++ [L]) [[120]] = L.a := by
      rw [← N.nm]
      exact adr_new (S := []) List.not_mem_nil
    rw [eadr]
    have hg3 := t'.lg L (List.mem_append_right _ List.mem_cons_self)
    have st3 : Stm H3 p q 0 := by
      obtain ⟨⟨cs', a', c', SA⟩, n0, n1⟩ := sp2
      exact ⟨⟨cs', a', c', ⟨k3 _ _ SA.hp rfl (fun z => nomatch z), k3 _ _ SA.hq rfl (fun z => nomatch z), SA.a0, SA.c0, SA.c1⟩⟩, n0, n1⟩
    have hy3 := k3 _ _ hy rfl fun z => nomatch z
    have ro3 := k3 _ _ (at' 8 _ rfl) rfl fun z => nomatch z
    have hl3 := k3 _ _ (at' 13 _ rfl) rfl fun z => nomatch z
    have ck3 := k3 _ _ (at' 0 _ rfl) rfl fun z => nomatch z
    have lv3 := k3 _ _ (at' 1 _ rfl) rfl fun z => nomatch z
    have n13 := k3 _ _ (at' 2 _ rfl) rfl fun z => by injection z with z; exact absurd (congrArg List.length z) (by decide)
    have n23 := k3 _ _ (at' 3 _ rfl) rfl fun z => by injection z with z; exact absurd (congrArg List.length z) (by decide)
    have hf3 := N.hf
    walk_at "sx"
    intro h dh x1 x2 x3
    have old : ∀ b u, H3 b = some u → mkH H3 T.C_NullHandler h dh b = some u := fun b u e => mkH_old x1 x2 e
    refine .a ⟨h, dh, y, T.C_Yard, dy, Y.ro, Y.dro, Y.hl, Y.ld, Y.fl, fYd Y, [.ref Y.lr], rfl, upd_same, old _ _ hy3, T.o_Yard.cl, T.o_Yard.na _ (by decide), rfl, (neN hy3 x1).symm, old _ _ ro3, (neN ro3 x1).symm, old _ _ hl3, (show 1 < sizeLine by decide), fun H4 a2 g1 g2 g3 _ g5 => ?_⟩
    refine ⟨rfl, ?_⟩
    have k4 : ∀ b o, H3 b = some o → o ≠ .lst [.ref Y.lr] → H4 b = some o := fun b o e e2 => g5 _ _ (neN e x1) (fun z => by rw [z, hl3] at e; exact e2 (Option.some.inj e).symm) (old _ _ e)
    have a24 : a2 ≠ L.f := fun z => by
      have e := old _ _ hf3
      rw [← z] at e
      have := e.symm.trans g3
      cases this
    have J4 : J17 T H4 p q 0 L.a L.d L.f (fLgr (taOf y Y) L (.ref (parA (taOf y Y).rt ([] ++ [L]) L.nm))) h dh a2 y dy Y (.int 0) := by
      have nl : ∀ b, H1 b = none → b ≠ p ∧ b ≠ q := fun b e => ⟨fun z => (by rw [z, e1] at e; cases e), fun z => (by rw [z, e2] at e; cases e)⟩
      have st4 : Stm H4 p q 0 := by
        obtain ⟨⟨cs', a', c', SA⟩, n0, n1⟩ := st3
        refine ⟨⟨cs', a', c', ⟨k4 _ _ SA.hp (fun z => ?_), k4 _ _ SA.hq (fun z => ?_), SA.a0, SA.c0, SA.c1⟩⟩, n0, n1⟩
        · injection z with z
          exact absurd (congrArg List.length z) (by simp)
        · injection z with z
          cases cs' with
          | nil => cases z
          | cons b r => cases z
      refine ⟨st4, k4 _ _ hg3 (fun z => nomatch z), k4 _ _ hf3 (fun z => by injection z with z; cases z), g1, g2, k4 _ _ hy3 (fun z => nomatch z), k4 _ _ ck3 (fun z => nomatch z), k4 _ _ lv3 (fun z => nomatch z), k4 _ _ n13 (fun z => nomatch z), k4 _ _ n23 (fun z => nomatch z), nl _ ?_, nl _ ?_⟩
      · exact Same.free lf N.f0
      · have h3 := (mkH_none g3).2.2
        exact Same.free lf (fr3.free (fun b hb _ => by
          rcases List.mem_cons.mp hb with z | z
          · rw [z, t'.nd]; exact fun z => nomatch z
          · exact absurd z List.not_mem_nil) h3)
    obtain ⟨fg, efg, lfg, no1, no2, no3⟩ : ∃ fg, fg = fLgr (taOf y Y) L (.ref (parA (taOf y Y).rt ([] ++ [L]) L.nm)) ∧ fg.lookup ("filters" : Str) = some (.ref L.f) ∧ fg.lookup ("addFilter" : Str) = none ∧ fg.lookup ("removeFilter" : Str) = none ∧ fg.lookup ("filtered" : Str) = none := ⟨_, rfl, rfl, rfl, rfl, rfl⟩
    rw [← efg] at J4
    clear hg3 st3 hy3 ro3 hl3 ck3 lv3 n13 n23 hf3 k3 k4 old g1 g2 g3 g5 tk at' t' fr3 efg eadr
    generalize L.a = g at J4 ⊢
    generalize L.d = dg at J4
    generalize L.f = a1 at J4 lfg a24
    walk_at "sx"
    refine ⟨_, _, rfl, ?_⟩
    walk_at "sx"
    refine for_rng (fun i σ Hx => ∃ n' o5 o6 o7 o8 o9 o10 o11 o12, σ = [some (.ref a), some (.ref p), some (.ref y), some (.ref g), some (.ref h), o5, o6, o7, o8, o9, o10, o11, o12] ∧ J17 T Hx p q n' g dg a1 fg h dh a2 y dy Y (.int 0) ∧ n' ≤ 14 * (i : Int)) ?_ ?_ ?_
    · exact ⟨0, _, _, _, _, _, _, _, _, rfl, J4, by omega⟩
    · rintro σ Hx ⟨n', o5, o6, o7, o8, o9, o10, o11, o12, rfl, Jx, ln⟩
      walk_at "sx"
      intro f df f1 f2 f3
      refine .a ⟨f, df, [], rfl, upd_same, ?_⟩
      refine ⟨rfl, ?_⟩
      walk_at "sx"
      rw [decide_eq_true rfl]
      exact k _
    · rintro R i σ Hx hi ⟨n', o5, o6, o7, o8, o9, o10, o11, o12, rfl, Jx, ln⟩ N hN
      walk_at "sx"
      refine .a ⟨p, q, n', rfl, Jx.st, by omega, fun nm n1 H1' z1 hn1 S1' X1 => ?_⟩
      have J1 := Jx.xt S1' X1
      clear Jx
      walk_at "sx"
      refine .a ⟨p, q, n1, rfl, J1.st, by omega, fun ot n2 H2' z2 hn2 S2' X2 => ?_⟩
      have J2 := J1.xt S2' X2
      clear J1
      walk_at "sx"
      refine ⟨_, _, rfl, ?_⟩
      walk_at "sx"
      refine .a ⟨p, q, n2, 3, rfl, J2.st, by omega, by decide, by decide, fun e n3 H3' e0 e1' hn3 S3' fr3' => ?_⟩
      have J3 := J2.xt S3' (.of (n := n2) S3' fr3')
      clear J2
      walk_at "sx"
      refine if_te (fun v H' => Hd (∃ (l : List Nat) (n4 : Int), v = .str (SX.S l) ∧ l.length ≤ 50 ∧ J17 T H' p q n4 g dg a1 fg h dh a2 y dy Y (.int 0) ∧ n4 ≤ n3 + 1)) ?_ ?_ ?_
      · intro v H4' h4
        obtain ⟨ot2, n4, rfl, z4, J4, ln4⟩ := h4.out
        clear J3
        walk_at "sx"
        intro f df f1 f2 f3
        refine .a ⟨f, df, nm, rfl, upd_same, ?_⟩
        refine ⟨rfl, ?_⟩
        have sF : Same H4' (upd (mkH H4' T.C_Filter f df) f (.ins T.C_Filter df (fFl nm))) := fun b u e => (upd_ne (neN e f1)).trans (mkH_old f1 f2 e)
        have hf5 : upd (mkH H4' T.C_Filter f df) f (.ins T.C_Filter df (fFl nm)) f = some (.ins T.C_Filter df (fFl nm)) := upd_same
        generalize hG : upd _ f (.ins T.C_Filter df (fFl nm)) = H5'
        have hG : upd (mkH H4' T.C_Filter f df) f (.ins T.C_Filter df (fFl nm)) = H5' := hG
        rw [hG] at sF hf5
        clear hG
        have J5 := J4.same sF
        clear J4
        have hy5 := J5.hy
        walk_at "sx"
        refine .a ⟨y, dy, T.aGT_Yard_make_record, Y, .int 0, .str (SX.S ot2), .int 10, 10, [68, 69, 66, 85, 71], [109], firstNames, firstNumbers, rfl, hy5, J5.ck, J5.lv, J5.n1, J5.n2, .inl rfl, by decide +kernel, by decide +kernel, rfl, fun H' _ => T.gt_Yard_make_record H', fun H6' r dr g0 e0 hr6 hg6 r0 fr6 => ?_⟩
        have J6 := J5.same (FrS.same0 fr6)
        have hf6 := FrS.same0 fr6 _ _ hf5
        clear J5 hy5 hg6 hf5
        refine ⟨_, _, rfl, ?_⟩
        have lr6 : (fLr (.str (SX.S ot2)) (.int 10) (.str (SX.S [68, 69, 66, 85, 71])) [109] g0 (.int 0) e0).lookup ("name" : Str) = some (.str (SX.S ot2)) := rfl
        generalize fLr (.str (SX.S ot2)) (.int 10) (.str (SX.S [68, 69, 66, 85, 71])) [109] g0 (.int 0) e0 = fr at hr6 lr6
        walk_at "sx"
        refine or_te (decide ((ot2 ++ [46]).take (nm.length + 1) = nm ++ [46])) (fun R2 hR2 => ?_) ?_
        · walk_at "sx"
          rw [cut_take]
          exact hR2
        rw [due_eq, show (decide (nm = []) || (decide (ot2 = nm) || decide (ot2.take (nm.length + 1) = nm ++ [46]))) = passB nm ot2 from rfl]
        walk_at "sx"
        refine .a ⟨f, df, r, dr, nm, ot2, fr, rfl, hf6, hr6, lr6, by omega, ?_⟩
        walk_at "sx"
        refine .a ⟨.bl (passB nm ot2), rfl, .inr ⟨_, rfl⟩, fun H7' s7 => ?_⟩
        have J7 := J6.same s7
        have hf7 := s7 _ _ hf6
        have hr7 := s7 _ _ hr6
        clear J6 hf6 hr6
        refine ⟨true, rfl, ?_⟩
        refine if_false_of rfl ?_
        walk_at "sx"
        refine if_false_of (by rw [decide_eq_true rfl]; rfl) ?_
        walk_at "sx"
        intro tt htt
        have J8 := J7.same (same_new (o := .tup [.ref g, .ref h]) htt)
        have hf8 := same_new (o := .tup [.ref g, .ref h]) htt _ _ hf7
        have hr8 := same_new (o := .tup [.ref g, .ref h]) htt _ _ hr7
        have ht8 : upd H7' tt (.tup [.ref g, .ref h]) tt = some (.tup [.ref g, .ref h]) := upd_same
        generalize upd H7' tt (.tup [.ref g, .ref h]) = H8' at J8 hf8 hr8 ht8 ⊢
        clear J7 hf7 hr7
        refine ⟨tt, rfl, ⟨_, SqT.of ht8⟩, ?_⟩
        have oF : OQ.ObjA K H8' f := ⟨_, _, _, hf8, T.cmp_Filter⟩
        have oR : OQ.ObjA K H8' r := ⟨_, _, _, hr8, T.cmp_LogRecord⟩
        have eB : thrB [nm] ot2 = passB nm ot2 := Bool.and_true _
        refine for_tupH (xs := [.ref g, .ref h]) (fun i' σ H' => H' = H8' ∧ ∃ o11 o12, σ = [some (.ref a), some (.ref p), some (.ref y), some (.ref g), some (.ref h), some (.int (0 + (i : Int))), some (.str (SX.S nm)), some (.str (SX.S ot2)), some (.ref f), some (.ref r), some (.bl (passB nm ot2)), o11, o12]) ?_ ⟨rfl, _, _, rfl⟩ ?_ ?_
        · rintro i' σ H' ⟨rfl, _⟩
          exact ht8
        · rintro σ H' ⟨rfl, o11, o12, rfl⟩
          walk_at "sx"
          intro f' df' f1' f2' f3'
          refine .a ⟨f', df', [], rfl, upd_same, ?_⟩
          refine ⟨rfl, ?_⟩
          have sF' : Same H' (upd (mkH H' T.C_Filter f' df') f' (.ins T.C_Filter df' (fFl []))) := fun b u e => (upd_ne (neN e f1')).trans (mkH_old f1' f2' e)
          have hf' : upd (mkH H' T.C_Filter f' df') f' (.ins T.C_Filter df' (fFl [])) f' = some (.ins T.C_Filter df' (fFl [])) := upd_same
          generalize hG : upd _ f' (.ins T.C_Filter df' (fFl [])) = H9'
          have hG : upd (mkH H' T.C_Filter f' df') f' (.ins T.C_Filter df' (fFl [])) = H9' := hG
          rw [hG] at sF' hf'
          clear hG
          have J9 := J8.same sF'
          have hr9 := sF' _ _ hr8
          walk_at "sx"
          refine .a ⟨f', df', r, dr, [], ot2, fr, rfl, hf', hr9, lr6, by decide, ?_⟩
          walk_at "sx"
          refine ⟨r, T.C_LogRecord, dr, fr, _, rfl, hr9, T.o_LogRecord.cl, T.o_LogRecord.na _ (by decide), lr6, ?_⟩
          walk_at "sx"
          refine if_false_of (by rw [decide_eq_true rfl]; rfl) ?_
          rw [hN]
          exact .a ⟨n4, _, _, _, _, _, _, _, _, rfl, J9, by omega⟩
        · rintro R2 i' σ H' x ⟨rfl, o11, o12, rfl⟩ hx N2 hN2
          have hx : i' = 0 ∧ x = .ref g ∨ i' = 1 ∧ x = .ref h := by
            match i', hx with
            | 0, hx => cases hx; exact .inl ⟨rfl, rfl⟩
            | 1, hx => cases hx; exact .inr ⟨rfl, rfl⟩
            | _ + 2, hx => cases hx
          rcases hx with ⟨rfl, rfl⟩ | ⟨rfl, rfl⟩
          · refine .inl ?_
            walk_at "sx"
            refine ⟨g, dg, fg, rfl, J8.hg, no1, ?_⟩
            walk_at "sx"
            refine .a ⟨g, dg, a1, f, fg, [], rfl, J8.hg, lfg, ⟨J8.h1, fun _ h => absurd h List.not_mem_nil, by decide⟩, oF, ?_⟩
            rw [show addL [] f = [f] by unfold addL; rw [if_neg List.not_mem_nil]; rfl]
            have ga : ∀ b C d fs, H' b = some (.ins C d fs) → upd H' a1 (.lst [.ref f]) b = some (.ins C d fs) := fun b C d fs e => (upd_ne fun z => by rw [z, J8.h1] at e; cases e).trans e
            have hg9 := ga _ _ _ _ J8.hg
            have hf9 := ga _ _ _ _ hf8
            have hr9 := ga _ _ _ _ hr8
            have ha9 : upd H' a1 (.lst [.ref f]) a1 = some (.lst [.ref f]) := upd_same
            have oF9 : OQ.ObjA K (upd H' a1 (.lst [.ref f])) f := ⟨_, _, _, hf9, T.cmp_Filter⟩
            have eb9 : upd (upd H' a1 (.lst [.ref f])) a1 (.lst []) = H' := upd_back J8.h1
            rw [show ([f].map V.ref) = [V.ref f] from rfl]
            generalize upd H' a1 (.lst [.ref f]) = H9' at hg9 hf9 hr9 ha9 oF9 eb9 ⊢
            clear ga
            refine .inl ?_
            walk_at "sx"
            refine ⟨g, dg, fg, rfl, hg9, no3, ?_⟩
            walk_at "sx"
            refine .a ⟨g, dg, a1, r, dr, fg, fr, ot2, [(f, df, nm)], rfl, hg9, lfg, ha9, fun x hx => ?_, hr9, lr6, ?_⟩
            · rw [List.mem_singleton.mp hx]
              exact ⟨hf9, show nm.length ≤ 1000 by omega⟩
            rw [show thrB ([(f, df, nm)].map (·.2.2)) ot2 = passB nm ot2 from eB]
            refine .inl ?_
            walk_at "sx"
            refine ⟨g, dg, fg, rfl, hg9, no2, ?_⟩
            walk_at "sx"
            refine .a ⟨g, dg, a1, f, fg, [f], rfl, hg9, lfg, ⟨ha9, fun b hb => by rw [List.mem_singleton.mp hb]; exact oF9, by simp⟩, oF9, ?_⟩
            rw [show (([f].erase f).map V.ref) = [] by rw [List.erase_cons_head]; rfl, eb9]
            walk_at "sx"
            cases hp : passB nm ot2 with
            | true =>
              walk_at "sx"
              refine .inr ⟨r, r, rfl, rfl, oR, oR, ?_⟩
              refine ⟨_, rfl, if_false_of (by rw [decide_eq_true rfl]; rfl) ?_⟩
              refine .inl ?_
              walk_at "sx"
              refine ⟨g, dg, fg, rfl, J8.hg, no3, ?_⟩
              walk_at "sx"
              refine .a ⟨g, dg, a1, r, dr, fg, fr, ot2, [], rfl, J8.hg, lfg, J8.h1, fun _ h => absurd h List.not_mem_nil, hr8, lr6, ?_⟩
              walk_at "sx"
              refine .inr ⟨r, r, rfl, rfl, oR, oR, ?_⟩
              refine ⟨_, rfl, if_false_of (by rw [decide_eq_true rfl]; rfl) ?_⟩
              rw [hN2]
              exact .a ⟨rfl, some (.ref g), some (.ref r), by rw [hp]; rfl⟩
            | false =>
              walk_at "sx"
              refine .inl ⟨rfl, rfl, ?_⟩
              refine ⟨_, rfl, if_false_of rfl ?_⟩
              refine .inl ?_
              walk_at "sx"
              refine ⟨g, dg, fg, rfl, J8.hg, no3, ?_⟩
              walk_at "sx"
              refine .a ⟨g, dg, a1, r, dr, fg, fr, ot2, [], rfl, J8.hg, lfg, J8.h1, fun _ h => absurd h List.not_mem_nil, hr8, lr6, ?_⟩
              walk_at "sx"
              refine .inr ⟨r, r, rfl, rfl, oR, oR, ?_⟩
              refine ⟨_, rfl, if_false_of (by rw [decide_eq_true rfl]; rfl) ?_⟩
              rw [hN2]
              exact .a ⟨rfl, some (.ref g), some .non, by rw [hp]; rfl⟩
          · refine .inr ?_
            walk_at "sx"
            refine ⟨h, dh, (fHd y a2), rfl, J8.hh, rfl, ?_⟩
            walk_at "sx"
            refine .a ⟨h, dh, a2, f, (fHd y a2), [], rfl, J8.hh, rfl, ⟨J8.h2, fun _ h => absurd h List.not_mem_nil, by decide⟩, oF, ?_⟩
            rw [show addL [] f = [f] by unfold addL; rw [if_neg List.not_mem_nil]; rfl]
            have ga : ∀ b C d fs, H' b = some (.ins C d fs) → upd H' a2 (.lst [.ref f]) b = some (.ins C d fs) := fun b C d fs e => (upd_ne fun z => by rw [z, J8.h2] at e; cases e).trans e
            have hg9 := ga _ _ _ _ J8.hh
            have hf9 := ga _ _ _ _ hf8
            have hr9 := ga _ _ _ _ hr8
            have ha9 : upd H' a2 (.lst [.ref f]) a2 = some (.lst [.ref f]) := upd_same
            have oF9 : OQ.ObjA K (upd H' a2 (.lst [.ref f])) f := ⟨_, _, _, hf9, T.cmp_Filter⟩
            have eb9 : upd (upd H' a2 (.lst [.ref f])) a2 (.lst []) = H' := upd_back J8.h2
            rw [show ([f].map V.ref) = [V.ref f] from rfl]
            generalize upd H' a2 (.lst [.ref f]) = H9' at hg9 hf9 hr9 ha9 oF9 eb9 ⊢
            clear ga
            refine .inr ?_
            walk_at "sx"
            refine .a ⟨h, dh, a2, r, dr, (fHd y a2), fr, ot2, [(f, df, nm)], rfl, hg9, rfl, ha9, fun x hx => ?_, hr9, lr6, ?_⟩
            · rw [List.mem_singleton.mp hx]
              exact ⟨hf9, show nm.length ≤ 1000 by omega⟩
            rw [show thrB ([(f, df, nm)].map (·.2.2)) ot2 = passB nm ot2 from eB]
            refine .inr ?_
            walk_at "sx"
            refine .a ⟨h, dh, a2, f, (fHd y a2), [f], rfl, hg9, rfl, ⟨ha9, fun b hb => by rw [List.mem_singleton.mp hb]; exact oF9, by simp⟩, oF9, ?_⟩
            rw [show (([f].erase f).map V.ref) = [] by rw [List.erase_cons_head]; rfl, eb9]
            walk_at "sx"
            cases hp : passB nm ot2 with
            | true =>
              walk_at "sx"
              refine .inr ⟨r, r, rfl, rfl, oR, oR, ?_⟩
              refine ⟨_, rfl, if_false_of (by rw [decide_eq_true rfl]; rfl) ?_⟩
              refine .inr ?_
              walk_at "sx"
              refine ⟨h, dh, (fHd y a2), rfl, J8.hh, rfl, ?_⟩
              walk_at "sx"
              refine .a ⟨h, dh, a2, r, dr, (fHd y a2), fr, ot2, [], rfl, J8.hh, rfl, J8.h2, fun _ h => absurd h List.not_mem_nil, hr8, lr6, ?_⟩
              walk_at "sx"
              refine .inr ⟨r, r, rfl, rfl, oR, oR, ?_⟩
              refine ⟨_, rfl, if_false_of (by rw [decide_eq_true rfl]; rfl) ?_⟩
              rw [hN2]
              exact .a ⟨rfl, some (.ref h), some (.ref r), by rw [hp]; rfl⟩
            | false =>
              walk_at "sx"
              refine .inl ⟨rfl, rfl, ?_⟩
              refine ⟨_, rfl, if_false_of rfl ?_⟩
              refine .inr ?_
              walk_at "sx"
              refine ⟨h, dh, (fHd y a2), rfl, J8.hh, rfl, ?_⟩
              walk_at "sx"
              refine .a ⟨h, dh, a2, r, dr, (fHd y a2), fr, ot2, [], rfl, J8.hh, rfl, J8.h2, fun _ h => absurd h List.not_mem_nil, hr8, lr6, ?_⟩
              walk_at "sx"
              refine .inr ⟨r, r, rfl, rfl, oR, oR, ?_⟩
              refine ⟨_, rfl, if_false_of (by rw [decide_eq_true rfl]; rfl) ?_⟩
              rw [hN2]
              exact .a ⟨rfl, some (.ref h), some .non, by rw [hp]; rfl⟩
      · intro _ R1 hR1
        walk_at "sx"
        intro pl hpl
        have o4 := off_at (o := .lst (([[], [46], [46, 97], [97], [46, 97, 46, 98]] : List (List Nat)).map fun l => V.str (SX.S l))) J3.st hpl
        have J4 := J3.same (same_new (o := .lst (([[], [46], [46, 97], [97], [46, 97, 46, 98]] : List (List Nat)).map fun l => V.str (SX.S l))) hpl)
        generalize hG : upd H3' pl _ = H4'
        have hG : upd H3' pl (.lst (([[], [46], [46, 97], [97], [46, 97, 46, 98]] : List (List Nat)).map fun l => V.str (SX.S l))) = H4' := hG
        rw [hG] at o4 J4
        clear hG
        walk_at "sx"
        refine .a ⟨p, q, pl, n3, _, rfl, J4.st, by omega, o4, by decide, by decide, fun v n5 H5' hv hn5 S5' fr5' => ?_⟩
        obtain ⟨l, hl, rfl⟩ := List.mem_map.mp hv
        have zl : l.length ≤ 4 := by
          have : ∀ l ∈ ([[], [46], [46, 97], [97], [46, 97, 46, 98]] : List (List Nat)), l.length ≤ 4 := by decide
          exact this l hl
        walk_at "sx"
        exact hR1 _ _ (.a ⟨nm ++ l, n5, rfl, by rw [List.length_append]; omega, J4.xt S5' (.of (n := n3) S5' fr5'), by omega⟩)
      · intro _ R1 hR1
        walk_at "sx"
        exact hR1 _ _ (.a ⟨ot, n3, rfl, by omega, J3, by omega⟩)
end
end My

namespace My
open PySem PySem.Spec PyProof.Rows L2 SuX _root_.He HdF
theorem oneF_name : OneF "name" := ⟨by intros; rfl, by intros; rfl, by decide +kernel, by decide +kernel, by intros; rfl, by intros; rfl, by intros; rfl, by intros; rfl⟩
def theFile : Str := PySem.Challenge.pw_recordyard_k17_filters_by_names.main.file
def dd__wall : _root_.He.DefD := ⟨("_wall", none), "_wall", "_wall", defArgs s__wall, defBody s__wall, defScope s__wall, [], []⟩
def dd_is_integer : _root_.He.DefD := ⟨("is_integer", none), "is_integer", "is_integer", defArgs s_is_integer, defBody s_is_integer, defScope s_is_integer, [], []⟩
def dd_is_word_sign : _root_.He.DefD := ⟨("is_word_sign", none), "is_word_sign", "is_word_sign", defArgs s_is_word_sign, defBody s_is_word_sign, defScope s_is_word_sign, [], []⟩
def dd_is_part : _root_.He.DefD := ⟨("is_part", none), "is_part", "is_part", defArgs s_is_part, defBody s_is_part, defScope s_is_part, [], []⟩
def dd_is_dotted : _root_.He.DefD := ⟨("is_dotted", none), "is_dotted", "is_dotted", defArgs s_is_dotted, defBody s_is_dotted, defScope s_is_dotted, [], []⟩
def dd_is_logger_name : _root_.He.DefD := ⟨("is_logger_name", none), "is_logger_name", "is_logger_name", defArgs s_is_logger_name, defBody s_is_logger_name, defScope s_is_logger_name, [], []⟩
def dd_own_copy : _root_.He.DefD := ⟨("own_copy", none), "own_copy", "own_copy", defArgs s_own_copy, defBody s_own_copy, defScope s_own_copy, [], []⟩
def dd_filled : _root_.He.DefD := ⟨("filled", none), "filled", "filled", defArgs s_filled, defBody s_filled, defScope s_filled, [], []⟩
def dd_made_record : _root_.He.DefD := ⟨("made_record", none), "made_record", "made_record", defArgs s_made_record, defBody s_made_record, defScope s_made_record, [.adr (dflAt ("made_record", none) 0), .non], []⟩
def dd_through_one : _root_.He.DefD := ⟨("through_one", none), "through_one", "through_one", defArgs s_through_one, defBody s_through_one, defScope s_through_one, [], []⟩
def dd_through_all : _root_.He.DefD := ⟨("through_all", none), "through_all", "through_all", defArgs s_through_all, defBody s_through_all, defScope s_through_all, [], []⟩
def dd__law_draw : _root_.He.DefD := ⟨("_law_draw", none), "_law_draw", "_law_draw", defArgs s__law_draw, defBody s__law_draw, defScope s__law_draw, [], []⟩
def dd__law_pick : _root_.He.DefD := ⟨("_law_pick", none), "_law_pick", "_law_pick", defArgs s__law_pick, defBody s__law_pick, defScope s__law_pick, [], []⟩
def dd__law_same : _root_.He.DefD := ⟨("_law_same", none), "_law_same", "_law_same", defArgs s__law_same, defBody s__law_same, defScope s__law_same, [], []⟩
def dd__law_name : _root_.He.DefD := ⟨("_law_name", none), "_law_name", "_law_name", defArgs s__law_name, defBody s__law_name, defScope s__law_name, [], []⟩
def dd__law_odd_name : _root_.He.DefD := ⟨("_law_odd_name", none), "_law_odd_name", "_law_odd_name", defArgs s__law_odd_name, defBody s__law_odd_name, defScope s__law_odd_name, [], []⟩
def dd_law : _root_.He.DefD := ⟨("law", none), "law", "law", defArgs s_law, defBody s_law, defScope s_law, [], []⟩
def dd_Clock___init__ : _root_.He.DefD := ⟨("Clock", some "__init__"), "__init__", "Clock.__init__", defArgs s_Clock___init__, defBody s_Clock___init__, defScope s_Clock___init__, [], []⟩
def dd_Clock_now : _root_.He.DefD := ⟨("Clock", some "now"), "now", "Clock.now", defArgs s_Clock_now, defBody s_Clock_now, defScope s_Clock_now, [], []⟩
def dd_LevelTable___init__ : _root_.He.DefD := ⟨("LevelTable", some "__init__"), "__init__", "LevelTable.__init__", defArgs s_LevelTable___init__, defBody s_LevelTable___init__, defScope s_LevelTable___init__, [], []⟩
def dd_LevelTable_knows : _root_.He.DefD := ⟨("LevelTable", some "knows"), "knows", "LevelTable.knows", defArgs s_LevelTable_knows, defBody s_LevelTable_knows, defScope s_LevelTable_knows, [], []⟩
def dd_LevelTable_number : _root_.He.DefD := ⟨("LevelTable", some "number"), "number", "LevelTable.number", defArgs s_LevelTable_number, defBody s_LevelTable_number, defScope s_LevelTable_number, [], []⟩
def dd_LevelTable_level_name : _root_.He.DefD := ⟨("LevelTable", some "level_name"), "level_name", "LevelTable.level_name", defArgs s_LevelTable_level_name, defBody s_LevelTable_level_name, defScope s_LevelTable_level_name, [], []⟩
def dd_LogRecord___init__ : _root_.He.DefD := ⟨("LogRecord", some "__init__"), "__init__", "LogRecord.__init__", defArgs s_LogRecord___init__, defBody s_LogRecord___init__, defScope s_LogRecord___init__, [], []⟩
def dd_Filter___init__ : _root_.He.DefD := ⟨("Filter", some "__init__"), "__init__", "Filter.__init__", defArgs s_Filter___init__, defBody s_Filter___init__, defScope s_Filter___init__, [.str (SX.S [])], []⟩
def dd_Filter_passes : _root_.He.DefD := ⟨("Filter", some "passes"), "passes", "Filter.passes", defArgs s_Filter_passes, defBody s_Filter_passes, defScope s_Filter_passes, [], []⟩
def dd_Store___init__ : _root_.He.DefD := ⟨("Store", some "__init__"), "__init__", "Store.__init__", defArgs s_Store___init__, defBody s_Store___init__, defScope s_Store___init__, [], []⟩
def dd_Written___init__ : _root_.He.DefD := ⟨("Written", some "__init__"), "__init__", "Written.__init__", defArgs s_Written___init__, defBody s_Written___init__, defScope s_Written___init__, [], []⟩
def dd_Roster___init__ : _root_.He.DefD := ⟨("Roster", some "__init__"), "__init__", "Roster.__init__", defArgs s_Roster___init__, defBody s_Roster___init__, defScope s_Roster___init__, [], []⟩
def dd_Roster_enter : _root_.He.DefD := ⟨("Roster", some "enter"), "enter", "Roster.enter", defArgs s_Roster_enter, defBody s_Roster_enter, defScope s_Roster_enter, [], []⟩
def dd_Handler___init__ : _root_.He.DefD := ⟨("Handler", some "__init__"), "__init__", "Handler.__init__", defArgs s_Handler___init__, defBody s_Handler___init__, defScope s_Handler___init__, [], []⟩
def dd_Handler_addFilter : _root_.He.DefD := ⟨("Handler", some "addFilter"), "addFilter", "Handler.addFilter", defArgs s_Handler_addFilter, defBody s_Handler_addFilter, defScope s_Handler_addFilter, [], []⟩
def dd_Handler_removeFilter : _root_.He.DefD := ⟨("Handler", some "removeFilter"), "removeFilter", "Handler.removeFilter", defArgs s_Handler_removeFilter, defBody s_Handler_removeFilter, defScope s_Handler_removeFilter, [], []⟩
def dd_Handler_filtered : _root_.He.DefD := ⟨("Handler", some "filtered"), "filtered", "Handler.filtered", defArgs s_Handler_filtered, defBody s_Handler_filtered, defScope s_Handler_filtered, [], []⟩
def se_NullHandler___init__ : SupE := ⟨"NullHandler", "__init__", "NullHandler.__init__", s_NullHandler___init__, []⟩
def se_NullHandler_addFilter : SupE := ⟨"NullHandler", "addFilter", "NullHandler.addFilter", s_NullHandler_addFilter, []⟩
def se_NullHandler_removeFilter : SupE := ⟨"NullHandler", "removeFilter", "NullHandler.removeFilter", s_NullHandler_removeFilter, []⟩
def se_NullHandler_filtered : SupE := ⟨"NullHandler", "filtered", "NullHandler.filtered", s_NullHandler_filtered, []⟩
def dd_Logger___init__ : _root_.He.DefD := ⟨("Logger", some "__init__"), "__init__", "Logger.__init__", defArgs s_Logger___init__, defBody s_Logger___init__, defScope s_Logger___init__, [], []⟩
def dd_Logger_addFilter : _root_.He.DefD := ⟨("Logger", some "addFilter"), "addFilter", "Logger.addFilter", defArgs s_Logger_addFilter, defBody s_Logger_addFilter, defScope s_Logger_addFilter, [], []⟩
def dd_Logger_removeFilter : _root_.He.DefD := ⟨("Logger", some "removeFilter"), "removeFilter", "Logger.removeFilter", defArgs s_Logger_removeFilter, defBody s_Logger_removeFilter, defScope s_Logger_removeFilter, [], []⟩
def dd_Logger_filtered : _root_.He.DefD := ⟨("Logger", some "filtered"), "filtered", "Logger.filtered", defArgs s_Logger_filtered, defBody s_Logger_filtered, defScope s_Logger_filtered, [], []⟩
def dd_LoggerTree___init__ : _root_.He.DefD := ⟨("LoggerTree", some "__init__"), "__init__", "LoggerTree.__init__", defArgs s_LoggerTree___init__, defBody s_LoggerTree___init__, defScope s_LoggerTree___init__, [], []⟩
def dd_LoggerTree_getLogger : _root_.He.DefD := ⟨("LoggerTree", some "getLogger"), "getLogger", "LoggerTree.getLogger", defArgs s_LoggerTree_getLogger, defBody s_LoggerTree_getLogger, defScope s_LoggerTree_getLogger, [.str (SX.S [])], []⟩
def dd_LoggerTree_grow : _root_.He.DefD := ⟨("LoggerTree", some "grow"), "grow", "LoggerTree.grow", defArgs s_LoggerTree_grow, defBody s_LoggerTree_grow, defScope s_LoggerTree_grow, [], []⟩
def dd_LoggerTree_nearest : _root_.He.DefD := ⟨("LoggerTree", some "nearest"), "nearest", "LoggerTree.nearest", defArgs s_LoggerTree_nearest, defBody s_LoggerTree_nearest, defScope s_LoggerTree_nearest, [], []⟩
def dd_LoggerTree_made : _root_.He.DefD := ⟨("LoggerTree", some "made"), "made", "LoggerTree.made", defArgs s_LoggerTree_made, defBody s_LoggerTree_made, defScope s_LoggerTree_made, [], []⟩
def dd_LoggerTree_loggers : _root_.He.DefD := ⟨("LoggerTree", some "loggers"), "loggers", "LoggerTree.loggers", defArgs s_LoggerTree_loggers, defBody s_LoggerTree_loggers, defScope s_LoggerTree_loggers, [], []⟩
def se_StreamHandler___init__ : SupE := ⟨"StreamHandler", "__init__", "StreamHandler.__init__", s_StreamHandler___init__, [.str (SX.S [115, 116, 100, 101, 114, 114])]⟩
def dd_Yard___init__ : _root_.He.DefD := ⟨("Yard", some "__init__"), "__init__", "Yard.__init__", defArgs s_Yard___init__, defBody s_Yard___init__, defScope s_Yard___init__, [.int 0], []⟩
def dd_Yard_getLogger : _root_.He.DefD := ⟨("Yard", some "getLogger"), "getLogger", "Yard.getLogger", defArgs s_Yard_getLogger, defBody s_Yard_getLogger, defScope s_Yard_getLogger, [.str (SX.S [])], []⟩
def dd_Yard_make_record : _root_.He.DefD := ⟨("Yard", some "make_record"), "make_record", "Yard.make_record", defArgs s_Yard_make_record, defBody s_Yard_make_record, defScope s_Yard_make_record, [.adr (dflAt ("Yard", some "make_record") 0), .non], []⟩
def fsL0 : List (PySem.W.Frag → Bool) := [(Fa.free "all").ok, (Fa.free "bool").ok, (Fa.free "dict").ok, (Fa.free "int").ok, (Fa.free "isinstance").ok, (Fa.free "len").ok, (Fa.free "list").ok, (Fa.free "range").ok, (Fa.free "sorted").ok, (Fa.free "str").ok, (Fa.free "super").ok, (Fa.free "tuple").ok, (Fa.free "zip").ok, (fun K => _root_.He.DefD.ok K dd__wall), (Fa.glo "_wall").ok, (fun K => _root_.He.DefD.ok K dd_is_integer), (Fa.glo "is_integer").ok, (fun K => _root_.He.DefD.ok K dd_is_word_sign), (Fa.glo "is_word_sign").ok, (fun K => _root_.He.DefD.ok K dd_is_part), (Fa.glo "is_part").ok, (fun K => _root_.He.DefD.ok K dd_is_dotted), (Fa.glo "is_dotted").ok, (fun K => _root_.He.DefD.ok K dd_is_logger_name), (Fa.glo "is_logger_name").ok, (fun K => _root_.He.DefD.ok K dd_own_copy), (Fa.glo "own_copy").ok, (fun K => _root_.He.DefD.ok K dd_filled), (Fa.glo "filled").ok, (fun K => _root_.He.DefD.ok K dd_made_record)]
def fsL1 : List (PySem.W.Frag → Bool) := [(Fa.glo "made_record").ok, (fun K => _root_.He.DefD.ok K dd_through_one), (Fa.glo "through_one").ok, (fun K => _root_.He.DefD.ok K dd_through_all), (Fa.glo "through_all").ok, (fun K => _root_.He.DefD.ok K dd__law_draw), (Fa.glo "_law_draw").ok, (fun K => _root_.He.DefD.ok K dd__law_pick), (Fa.glo "_law_pick").ok, (fun K => _root_.He.DefD.ok K dd__law_same), (Fa.glo "_law_same").ok, (fun K => _root_.He.DefD.ok K dd__law_name), (Fa.glo "_law_name").ok, (fun K => _root_.He.DefD.ok K dd__law_odd_name), (Fa.glo "_law_odd_name").ok, (fun K => _root_.He.DefD.ok K dd_law), (Fa.glo "law").ok, (Fa.glo "Clock").ok, ocB "Clock" ["shown"], (fun K => _root_.He.DefD.ok K dd_Clock___init__), mkB "Clock", (fun K => _root_.He.DefD.ok K dd_Clock_now), metB "Clock" "Clock" "now", (Fa.glo "LevelTable").ok, ocB "LevelTable" ["names", "numbers"], (fun K => _root_.He.DefD.ok K dd_LevelTable___init__), mkB "LevelTable", (fun K => _root_.He.DefD.ok K dd_LevelTable_knows), metB "LevelTable" "LevelTable" "knows", (fun K => _root_.He.DefD.ok K dd_LevelTable_number)]
def fsL2 : List (PySem.W.Frag → Bool) := [metB "LevelTable" "LevelTable" "number", (fun K => _root_.He.DefD.ok K dd_LevelTable_level_name), metB "LevelTable" "LevelTable" "level_name", (Fa.glo "LogRecord").ok, ocB "LogRecord" ["name", "levelno", "levelname", "msg", "given", "created", "extra"], (fun K => _root_.He.DefD.ok K dd_LogRecord___init__), mkB "LogRecord", (Fa.glo "Filter").ok, ocB "Filter" ["name"], (fun K => _root_.He.DefD.ok K dd_Filter___init__), mkB "Filter", (fun K => _root_.He.DefD.ok K dd_Filter_passes), metB "Filter" "Filter" "passes", (Fa.glo "Store").ok, ocB "Store" ["clock", "kept"], (fun K => _root_.He.DefD.ok K dd_Store___init__), mkB "Store", (Fa.glo "Written").ok, ocB "Written" ["parts", "size", "time"], (fun K => _root_.He.DefD.ok K dd_Written___init__), mkB "Written", (Fa.glo "Roster").ok, ocB "Roster" ["handlers", "leading", "failed"], (fun K => _root_.He.DefD.ok K dd_Roster___init__), mkB "Roster", (fun K => _root_.He.DefD.ok K dd_Roster_enter), metB "Roster" "Roster" "enter", (Fa.glo "Handler").ok, ocB "Handler" [], (fun K => _root_.He.DefD.ok K dd_Handler___init__)]
def fsL3 : List (PySem.W.Frag → Bool) := [mkB "Handler", (fun K => _root_.He.DefD.ok K dd_Handler_addFilter), metB "Handler" "Handler" "addFilter", (fun K => _root_.He.DefD.ok K dd_Handler_removeFilter), metB "Handler" "Handler" "removeFilter", (fun K => _root_.He.DefD.ok K dd_Handler_filtered), metB "Handler" "Handler" "filtered", (Fa.glo "NullHandler").ok, ocB "NullHandler" ["yard", "level", "formatter", "filters", "name", "terminator", "closed"], se_NullHandler___init__.ok theFile, mkB "NullHandler", se_NullHandler_addFilter.ok theFile, metB "NullHandler" "NullHandler" "addFilter", se_NullHandler_removeFilter.ok theFile, metB "NullHandler" "NullHandler" "removeFilter", se_NullHandler_filtered.ok theFile, metB "NullHandler" "NullHandler" "filtered", (Fa.glo "Logger").ok, ocB "Logger" ["tree", "yard", "name", "level", "propagate", "disabled", "handlers", "filters", "parent"], (fun K => _root_.He.DefD.ok K dd_Logger___init__), mkB "Logger", (fun K => _root_.He.DefD.ok K dd_Logger_addFilter), metB "Logger" "Logger" "addFilter", (fun K => _root_.He.DefD.ok K dd_Logger_removeFilter), metB "Logger" "Logger" "removeFilter", (fun K => _root_.He.DefD.ok K dd_Logger_filtered), metB "Logger" "Logger" "filtered", (Fa.glo "LoggerTree").ok, ocB "LoggerTree" ["yard", "levels", "clock", "last_resort", "barred", "named", "root"], (fun K => _root_.He.DefD.ok K dd_LoggerTree___init__)]
def fsL4 : List (PySem.W.Frag → Bool) := [mkB "LoggerTree", (fun K => _root_.He.DefD.ok K dd_LoggerTree_getLogger), metB "LoggerTree" "LoggerTree" "getLogger", (fun K => _root_.He.DefD.ok K dd_LoggerTree_grow), metB "LoggerTree" "LoggerTree" "grow", (fun K => _root_.He.DefD.ok K dd_LoggerTree_nearest), metB "LoggerTree" "LoggerTree" "nearest", (fun K => _root_.He.DefD.ok K dd_LoggerTree_made), metB "LoggerTree" "LoggerTree" "made", (fun K => _root_.He.DefD.ok K dd_LoggerTree_loggers), metB "LoggerTree" "LoggerTree" "loggers", (Fa.glo "StreamHandler").ok, ocB "StreamHandler" ["yard", "level", "formatter", "filters", "name", "terminator", "closed", "stream"], se_StreamHandler___init__.ok theFile, mkB "StreamHandler", (Fa.glo "Yard").ok, ocB "Yard" ["clock", "levels", "stream_store", "file_store", "roster", "tree", "root"], (fun K => _root_.He.DefD.ok K dd_Yard___init__), mkB "Yard", (fun K => _root_.He.DefD.ok K dd_Yard_getLogger), metB "Yard" "Yard" "getLogger", (fun K => _root_.He.DefD.ok K dd_Yard_make_record), metB "Yard" "Yard" "make_record", tup0B (dflAt ("Yard", some "make_record") 0), supB "NullHandler" "NullHandler" "Handler" "__init__", supB "NullHandler" "NullHandler" "Handler" "addFilter", supB "NullHandler" "NullHandler" "Handler" "removeFilter", supB "NullHandler" "NullHandler" "Handler" "filtered", (fun K => OQ.cmpB K (ga K "Filter")), (fun K => OQ.tyB K (ga K "Filter"))]
def fsL5 : List (PySem.W.Frag → Bool) := [(fun K => OQ.cmpB K (ga K "LogRecord")), errB "BadExtra" "name", (Fa.glo "KEPT_NAMES").ok, (fun K => tupB K "KEPT_NAMES" (keptNames.map fun l => Dv.str (SX.S l))), errB "BadLevel" "level", errB "BadName" "name", (Fa.glo "FIRST_NAMES").ok, (Fa.glo "FIRST_NUMBERS").ok, (Fa.int "NOTSET" 0).ok, (Fa.int "WARNING" 30).ok, (Fa.str "LETTERS" (SX.S [97, 98, 99, 100, 101, 102, 103, 104, 105, 106, 107, 108, 109, 110, 111, 112, 113, 114, 115, 116, 117, 118, 119, 120, 121, 122, 65, 66, 67, 68, 69, 70, 71, 72, 73, 74, 75, 76, 77, 78, 79, 80, 81, 82, 83, 84, 85, 86, 87, 88, 89, 90])).ok, (Fa.str "DIGITS" (SX.S [48, 49, 50, 51, 52, 53, 54, 55, 56, 57])).ok, (Fa.glo "ROOT_NAMES").ok, (fun K => tupB K "ROOT_NAMES" [.str (SX.S []), .str (SX.S [114, 111, 111, 116])]), (fun K => OQ.cmpB K (ga K "Logger")), supB "StreamHandler" "StreamHandler" "Handler" "__init__", dicB (fun K => ga K "FIRST_NAMES") (fun _ => (firstNames).map (·.2)), dicB (fun K => ga K "FIRST_NUMBERS") (fun _ => (firstNumbers).map (·.2))]
def fsL : List (PySem.W.Frag → Bool) := fsL0 ++ fsL1 ++ fsL2 ++ fsL3 ++ fsL4 ++ fsL5
def fwL0 : List ((Str × Option Str) × FnW) := [(dd__wall.at_, dd__wall.val), (dd_is_integer.at_, dd_is_integer.val), (dd_is_word_sign.at_, dd_is_word_sign.val), (dd_is_part.at_, dd_is_part.val), (dd_is_dotted.at_, dd_is_dotted.val), (dd_is_logger_name.at_, dd_is_logger_name.val), (dd_own_copy.at_, dd_own_copy.val), (dd_filled.at_, dd_filled.val), (dd_made_record.at_, dd_made_record.val), (dd_through_one.at_, dd_through_one.val), (dd_through_all.at_, dd_through_all.val), (dd__law_draw.at_, dd__law_draw.val), (dd__law_pick.at_, dd__law_pick.val), (dd__law_same.at_, dd__law_same.val), (dd__law_name.at_, dd__law_name.val), (dd__law_odd_name.at_, dd__law_odd_name.val), (dd_law.at_, dd_law.val), (dd_Clock___init__.at_, dd_Clock___init__.val), (dd_Clock_now.at_, dd_Clock_now.val), (dd_LevelTable___init__.at_, dd_LevelTable___init__.val), (dd_LevelTable_knows.at_, dd_LevelTable_knows.val), (dd_LevelTable_number.at_, dd_LevelTable_number.val), (dd_LevelTable_level_name.at_, dd_LevelTable_level_name.val), (dd_LogRecord___init__.at_, dd_LogRecord___init__.val), (dd_Filter___init__.at_, dd_Filter___init__.val), (dd_Filter_passes.at_, dd_Filter_passes.val), (dd_Store___init__.at_, dd_Store___init__.val), (dd_Written___init__.at_, dd_Written___init__.val), (dd_Roster___init__.at_, dd_Roster___init__.val), (dd_Roster_enter.at_, dd_Roster_enter.val)]
def fwL1 : List ((Str × Option Str) × FnW) := [(dd_Handler___init__.at_, dd_Handler___init__.val), (dd_Handler_addFilter.at_, dd_Handler_addFilter.val), (dd_Handler_removeFilter.at_, dd_Handler_removeFilter.val), (dd_Handler_filtered.at_, dd_Handler_filtered.val), (dd_Logger___init__.at_, dd_Logger___init__.val), (dd_Logger_addFilter.at_, dd_Logger_addFilter.val), (dd_Logger_removeFilter.at_, dd_Logger_removeFilter.val), (dd_Logger_filtered.at_, dd_Logger_filtered.val), (dd_LoggerTree___init__.at_, dd_LoggerTree___init__.val), (dd_LoggerTree_getLogger.at_, dd_LoggerTree_getLogger.val), (dd_LoggerTree_grow.at_, dd_LoggerTree_grow.val), (dd_LoggerTree_nearest.at_, dd_LoggerTree_nearest.val), (dd_LoggerTree_made.at_, dd_LoggerTree_made.val), (dd_LoggerTree_loggers.at_, dd_LoggerTree_loggers.val), (dd_Yard___init__.at_, dd_Yard___init__.val), (dd_Yard_getLogger.at_, dd_Yard_getLogger.val), (dd_Yard_make_record.at_, dd_Yard_make_record.val), (("BadExtra", some "__init__"), errW "BadExtra" "name" ⟨17, 17, 17, 21⟩ ⟨17, 23, 17, 27⟩ ⟨18, 8, 18, 12⟩ ⟨18, 8, 18, 17⟩ ⟨18, 20, 18, 24⟩ ⟨18, 8, 18, 24⟩), (("BadLevel", some "__init__"), errW "BadLevel" "level" ⟨9, 17, 9, 21⟩ ⟨9, 23, 9, 28⟩ ⟨10, 8, 10, 12⟩ ⟨10, 8, 10, 18⟩ ⟨10, 21, 10, 26⟩ ⟨10, 8, 10, 26⟩), (("BadName", some "__init__"), errW "BadName" "name" ⟨13, 17, 13, 21⟩ ⟨13, 23, 13, 27⟩ ⟨14, 8, 14, 12⟩ ⟨14, 8, 14, 17⟩ ⟨14, 20, 14, 24⟩ ⟨14, 8, 14, 24⟩)]
def fwL : List ((Str × Option Str) × FnW) := fwL0 ++ fwL1
def swL0 : List (SupE) := [se_NullHandler___init__, se_NullHandler_addFilter, se_NullHandler_removeFilter, se_NullHandler_filtered, se_StreamHandler___init__]
def swL : List (SupE) := swL0
def dwL0 : List (Str × List Key) := [("FIRST_NAMES", (firstNames).map (·.1)), ("FIRST_NUMBERS", (firstNumbers).map (·.1))]
def dwL : List (Str × List Key) := dwL0
def FF : Fs := ⟨fsL, fwL, swL, dwL⟩
def tfL : List Defn := [("is_part", none), ("is_dotted", none)]
theorem tb2 {base : Heap} {mg : Str → Option Value} {c Q : Addr} (t : LamX.TabB base mg c Q) : GxR.TabB base mg c Q := ⟨t.code, t.bm, t.gP⟩
theorem facts {P : Program} {w : World} {K : PySem.W.Frag} {h : Heap} {mg : Str → Option Value} {fa : Addr} (X : K.In h) (G : h.Ns mainGlobals mg) (hfa : mg ("law" : Str) = some (.ref fa)) (c : SaysF FF w K) (hPf : ((P.main.file : Str) == theFile) = true) (hPt : (P.main.scope.names.lookup ("super" : Str)).isSome = false) :
    ∃ fd : FuncData, (∀ (s : Shared) (v : Value), BindsTo s fd ⟨[v], []⟩ [("_law_script", v)]) ∧ ∀ base : Heap, K.In base → base.Ns mainGlobals mg → (∀ p ∈ tfL.map (cT K), LamX.TabB base mg p.1 p.2) → FnOk P w K mg base CX0 9 fa fd ["_law_script"] (spLaw K (He.cT K ("is_part", none)).2 (He.cT K ("is_dotted", none)).2) := by
  obtain ⟨fd__wall, F__wall⟩ := _root_.He.DefD.funD (d := dd__wall) (c.fnw 0 rfl) (c.fact 13 rfl)
  have F__wall : FunD K "_wall" "_wall" (defArgs s__wall) (defBody s__wall) (defScope s__wall) [] [] (fAd K ("_wall", none)) fd__wall := F__wall
  have B__wall : Binds K fd__wall ["k"] [] := FunD.bindsN F__wall fun _ _ _ _ _ _ us hl => match us, hl with | [_], _ => rfl
  obtain ⟨fd_is_integer, F_is_integer⟩ := _root_.He.DefD.funD (d := dd_is_integer) (c.fnw 1 rfl) (c.fact 15 rfl)
  have F_is_integer : FunD K "is_integer" "is_integer" (defArgs s_is_integer) (defBody s_is_integer) (defScope s_is_integer) [] [] (fAd K ("is_integer", none)) fd_is_integer := F_is_integer
  have B_is_integer : Binds K fd_is_integer ["thing"] [] := FunD.bindsN F_is_integer fun _ _ _ _ _ _ us hl => match us, hl with | [_], _ => rfl
  obtain ⟨fd_is_word_sign, F_is_word_sign⟩ := _root_.He.DefD.funD (d := dd_is_word_sign) (c.fnw 2 rfl) (c.fact 17 rfl)
  have F_is_word_sign : FunD K "is_word_sign" "is_word_sign" (defArgs s_is_word_sign) (defBody s_is_word_sign) (defScope s_is_word_sign) [] [] (fAd K ("is_word_sign", none)) fd_is_word_sign := F_is_word_sign
  have B_is_word_sign : Binds K fd_is_word_sign ["sign"] [] := FunD.bindsN F_is_word_sign fun _ _ _ _ _ _ us hl => match us, hl with | [_], _ => rfl
  obtain ⟨fd_is_part, F_is_part⟩ := _root_.He.DefD.funD (d := dd_is_part) (c.fnw 3 rfl) (c.fact 19 rfl)
  have F_is_part : FunD K "is_part" "is_part" (defArgs s_is_part) (defBody s_is_part) (defScope s_is_part) [] [] (fAd K ("is_part", none)) fd_is_part := F_is_part
  have B_is_part : Binds K fd_is_part ["text"] [] := FunD.bindsN F_is_part fun _ _ _ _ _ _ us hl => match us, hl with | [_], _ => rfl
  obtain ⟨fd_is_dotted, F_is_dotted⟩ := _root_.He.DefD.funD (d := dd_is_dotted) (c.fnw 4 rfl) (c.fact 21 rfl)
  have F_is_dotted : FunD K "is_dotted" "is_dotted" (defArgs s_is_dotted) (defBody s_is_dotted) (defScope s_is_dotted) [] [] (fAd K ("is_dotted", none)) fd_is_dotted := F_is_dotted
  have B_is_dotted : Binds K fd_is_dotted ["thing"] [] := FunD.bindsN F_is_dotted fun _ _ _ _ _ _ us hl => match us, hl with | [_], _ => rfl
  obtain ⟨fd_is_logger_name, F_is_logger_name⟩ := _root_.He.DefD.funD (d := dd_is_logger_name) (c.fnw 5 rfl) (c.fact 23 rfl)
  have F_is_logger_name : FunD K "is_logger_name" "is_logger_name" (defArgs s_is_logger_name) (defBody s_is_logger_name) (defScope s_is_logger_name) [] [] (fAd K ("is_logger_name", none)) fd_is_logger_name := F_is_logger_name
  have B_is_logger_name : Binds K fd_is_logger_name ["thing"] [] := FunD.bindsN F_is_logger_name fun _ _ _ _ _ _ us hl => match us, hl with | [_], _ => rfl
  obtain ⟨fd_own_copy, F_own_copy⟩ := _root_.He.DefD.funD (d := dd_own_copy) (c.fnw 6 rfl) (c.fact 25 rfl)
  have F_own_copy : FunD K "own_copy" "own_copy" (defArgs s_own_copy) (defBody s_own_copy) (defScope s_own_copy) [] [] (fAd K ("own_copy", none)) fd_own_copy := F_own_copy
  have B_own_copy : Binds K fd_own_copy ["thing"] [] := FunD.bindsN F_own_copy fun _ _ _ _ _ _ us hl => match us, hl with | [_], _ => rfl
  obtain ⟨fd_filled, F_filled⟩ := _root_.He.DefD.funD (d := dd_filled) (c.fnw 7 rfl) (c.fact 27 rfl)
  have F_filled : FunD K "filled" "filled" (defArgs s_filled) (defBody s_filled) (defScope s_filled) [] [] (fAd K ("filled", none)) fd_filled := F_filled
  have B_filled : Binds K fd_filled ["msg", "given"] [] := FunD.bindsN F_filled fun _ _ _ _ _ _ us hl => match us, hl with | [_, _], _ => rfl
  obtain ⟨fd_made_record, F_made_record⟩ := _root_.He.DefD.funD (d := dd_made_record) (c.fnw 8 rfl) (c.fact 29 rfl)
  have F_made_record : FunD K "made_record" "made_record" (defArgs s_made_record) (defBody s_made_record) (defScope s_made_record) [.ref (dflAt ("made_record", none) 0 K), .non] [] (fAd K ("made_record", none)) fd_made_record := F_made_record
  have B_made_record : Binds K fd_made_record ["levels", "created", "name", "level", "msg", "args", "extra"] [] := nil_of (FunD.binds1 F_made_record 7 2 (List.cons_ne_nil _ _) rfl (fun _ _ _ _ _ _ _ us its h1 h2 => match us, its, h1, h2 with | [_, _, _, _, _, _, _], [_, _], _, _ => ⟨_, rfl, rfl⟩))
  obtain ⟨fd_through_one, F_through_one⟩ := _root_.He.DefD.funD (d := dd_through_one) (c.fnw 9 rfl) (c.fact 31 rfl)
  have F_through_one : FunD K "through_one" "through_one" (defArgs s_through_one) (defBody s_through_one) (defScope s_through_one) [] [] (fAd K ("through_one", none)) fd_through_one := F_through_one
  have B_through_one : Binds K fd_through_one ["one", "record"] [] := FunD.bindsN F_through_one fun _ _ _ _ _ _ us hl => match us, hl with | [_, _], _ => rfl
  obtain ⟨fd_through_all, F_through_all⟩ := _root_.He.DefD.funD (d := dd_through_all) (c.fnw 10 rfl) (c.fact 33 rfl)
  have F_through_all : FunD K "through_all" "through_all" (defArgs s_through_all) (defBody s_through_all) (defScope s_through_all) [] [] (fAd K ("through_all", none)) fd_through_all := F_through_all
  have B_through_all : Binds K fd_through_all ["filters", "record"] [] := FunD.bindsN F_through_all fun _ _ _ _ _ _ us hl => match us, hl with | [_, _], _ => rfl
  obtain ⟨fd__law_draw, F__law_draw⟩ := _root_.He.DefD.funD (d := dd__law_draw) (c.fnw 11 rfl) (c.fact 35 rfl)
  have F__law_draw : FunD K "_law_draw" "_law_draw" (defArgs s__law_draw) (defBody s__law_draw) (defScope s__law_draw) [] [] (fAd K ("_law_draw", none)) fd__law_draw := F__law_draw
  have B__law_draw : Binds K fd__law_draw ["_law_s", "_law_many"] [] := FunD.bindsN F__law_draw fun _ _ _ _ _ _ us hl => match us, hl with | [_, _], _ => rfl
  obtain ⟨fd__law_pick, F__law_pick⟩ := _root_.He.DefD.funD (d := dd__law_pick) (c.fnw 12 rfl) (c.fact 37 rfl)
  have F__law_pick : FunD K "_law_pick" "_law_pick" (defArgs s__law_pick) (defBody s__law_pick) (defScope s__law_pick) [] [] (fAd K ("_law_pick", none)) fd__law_pick := F__law_pick
  have B__law_pick : Binds K fd__law_pick ["_law_s", "_law_some"] [] := FunD.bindsN F__law_pick fun _ _ _ _ _ _ us hl => match us, hl with | [_, _], _ => rfl
  obtain ⟨fd__law_same, F__law_same⟩ := _root_.He.DefD.funD (d := dd__law_same) (c.fnw 13 rfl) (c.fact 39 rfl)
  have F__law_same : FunD K "_law_same" "_law_same" (defArgs s__law_same) (defBody s__law_same) (defScope s__law_same) [] [] (fAd K ("_law_same", none)) fd__law_same := F__law_same
  have B__law_same : Binds K fd__law_same ["_law_found", "_law_due"] [] := FunD.bindsN F__law_same fun _ _ _ _ _ _ us hl => match us, hl with | [_, _], _ => rfl
  obtain ⟨fd__law_name, F__law_name⟩ := _root_.He.DefD.funD (d := dd__law_name) (c.fnw 14 rfl) (c.fact 41 rfl)
  have F__law_name : FunD K "_law_name" "_law_name" (defArgs s__law_name) (defBody s__law_name) (defScope s__law_name) [] [] (fAd K ("_law_name", none)) fd__law_name := F__law_name
  have B__law_name : Binds K fd__law_name ["_law_s", "_law_most"] [] := FunD.bindsN F__law_name fun _ _ _ _ _ _ us hl => match us, hl with | [_, _], _ => rfl
  obtain ⟨fd__law_odd_name, F__law_odd_name⟩ := _root_.He.DefD.funD (d := dd__law_odd_name) (c.fnw 15 rfl) (c.fact 43 rfl)
  have F__law_odd_name : FunD K "_law_odd_name" "_law_odd_name" (defArgs s__law_odd_name) (defBody s__law_odd_name) (defScope s__law_odd_name) [] [] (fAd K ("_law_odd_name", none)) fd__law_odd_name := F__law_odd_name
  have B__law_odd_name : Binds K fd__law_odd_name ["_law_s"] [] := FunD.bindsN F__law_odd_name fun _ _ _ _ _ _ us hl => match us, hl with | [_], _ => rfl
  obtain ⟨fd_law, F_law⟩ := _root_.He.DefD.funD (d := dd_law) (c.fnw 16 rfl) (c.fact 45 rfl)
  have F_law : FunD K "law" "law" (defArgs s_law) (defBody s_law) (defScope s_law) [] [] (fAd K ("law", none)) fd_law := F_law
  have B_law : Binds K fd_law ["_law_script"] [] := FunD.bindsN F_law fun _ _ _ _ _ _ us hl => match us, hl with | [_], _ => rfl
  obtain ⟨fd_Clock___init__, F_Clock___init__⟩ := _root_.He.DefD.funD (d := dd_Clock___init__) (c.fnw 17 rfl) (c.fact 49 rfl)
  have F_Clock___init__ : FunD K "__init__" "Clock.__init__" (defArgs s_Clock___init__) (defBody s_Clock___init__) (defScope s_Clock___init__) [] [] (fAd K ("Clock", some "__init__")) fd_Clock___init__ := F_Clock___init__
  have B_Clock___init__ : Binds K fd_Clock___init__ ["self", "shown"] [] := FunD.bindsN F_Clock___init__ fun _ _ _ _ _ _ us hl => match us, hl with | [_, _], _ => rfl
  obtain ⟨fd_Clock_now, F_Clock_now⟩ := _root_.He.DefD.funD (d := dd_Clock_now) (c.fnw 18 rfl) (c.fact 51 rfl)
  have F_Clock_now : FunD K "now" "Clock.now" (defArgs s_Clock_now) (defBody s_Clock_now) (defScope s_Clock_now) [] [] (fAd K ("Clock", some "now")) fd_Clock_now := F_Clock_now
  have B_Clock_now : Binds K fd_Clock_now ["self"] [] := FunD.bindsN F_Clock_now fun _ _ _ _ _ _ us hl => match us, hl with | [_], _ => rfl
  obtain ⟨fd_LevelTable___init__, F_LevelTable___init__⟩ := _root_.He.DefD.funD (d := dd_LevelTable___init__) (c.fnw 19 rfl) (c.fact 55 rfl)
  have F_LevelTable___init__ : FunD K "__init__" "LevelTable.__init__" (defArgs s_LevelTable___init__) (defBody s_LevelTable___init__) (defScope s_LevelTable___init__) [] [] (fAd K ("LevelTable", some "__init__")) fd_LevelTable___init__ := F_LevelTable___init__
  have B_LevelTable___init__ : Binds K fd_LevelTable___init__ ["self"] [] := FunD.bindsN F_LevelTable___init__ fun _ _ _ _ _ _ us hl => match us, hl with | [_], _ => rfl
  obtain ⟨fd_LevelTable_knows, F_LevelTable_knows⟩ := _root_.He.DefD.funD (d := dd_LevelTable_knows) (c.fnw 20 rfl) (c.fact 57 rfl)
  have F_LevelTable_knows : FunD K "knows" "LevelTable.knows" (defArgs s_LevelTable_knows) (defBody s_LevelTable_knows) (defScope s_LevelTable_knows) [] [] (fAd K ("LevelTable", some "knows")) fd_LevelTable_knows := F_LevelTable_knows
  have B_LevelTable_knows : Binds K fd_LevelTable_knows ["self", "level"] [] := FunD.bindsN F_LevelTable_knows fun _ _ _ _ _ _ us hl => match us, hl with | [_, _], _ => rfl
  obtain ⟨fd_LevelTable_number, F_LevelTable_number⟩ := _root_.He.DefD.funD (d := dd_LevelTable_number) (c.fnw 21 rfl) (c.fact 59 rfl)
  have F_LevelTable_number : FunD K "number" "LevelTable.number" (defArgs s_LevelTable_number) (defBody s_LevelTable_number) (defScope s_LevelTable_number) [] [] (fAd K ("LevelTable", some "number")) fd_LevelTable_number := F_LevelTable_number
  have B_LevelTable_number : Binds K fd_LevelTable_number ["self", "level"] [] := FunD.bindsN F_LevelTable_number fun _ _ _ _ _ _ us hl => match us, hl with | [_, _], _ => rfl
  obtain ⟨fd_LevelTable_level_name, F_LevelTable_level_name⟩ := _root_.He.DefD.funD (d := dd_LevelTable_level_name) (c.fnw 22 rfl) (c.fact 61 rfl)
  have F_LevelTable_level_name : FunD K "level_name" "LevelTable.level_name" (defArgs s_LevelTable_level_name) (defBody s_LevelTable_level_name) (defScope s_LevelTable_level_name) [] [] (fAd K ("LevelTable", some "level_name")) fd_LevelTable_level_name := F_LevelTable_level_name
  have B_LevelTable_level_name : Binds K fd_LevelTable_level_name ["self", "level"] [] := FunD.bindsN F_LevelTable_level_name fun _ _ _ _ _ _ us hl => match us, hl with | [_, _], _ => rfl
  obtain ⟨fd_LogRecord___init__, F_LogRecord___init__⟩ := _root_.He.DefD.funD (d := dd_LogRecord___init__) (c.fnw 23 rfl) (c.fact 65 rfl)
  have F_LogRecord___init__ : FunD K "__init__" "LogRecord.__init__" (defArgs s_LogRecord___init__) (defBody s_LogRecord___init__) (defScope s_LogRecord___init__) [] [] (fAd K ("LogRecord", some "__init__")) fd_LogRecord___init__ := F_LogRecord___init__
  have B_LogRecord___init__ : Binds K fd_LogRecord___init__ ["self", "name", "levelno", "levelname", "msg", "given", "created", "extra"] [] := FunD.bindsN F_LogRecord___init__ fun _ _ _ _ _ _ us hl => match us, hl with | [_, _, _, _, _, _, _, _], _ => rfl
  obtain ⟨fd_Filter___init__, F_Filter___init__⟩ := _root_.He.DefD.funD (d := dd_Filter___init__) (c.fnw 24 rfl) (c.fact 69 rfl)
  have F_Filter___init__ : FunD K "__init__" "Filter.__init__" (defArgs s_Filter___init__) (defBody s_Filter___init__) (defScope s_Filter___init__) [.str (SX.S [])] [] (fAd K ("Filter", some "__init__")) fd_Filter___init__ := F_Filter___init__
  obtain ⟨fd_Filter_passes, F_Filter_passes⟩ := _root_.He.DefD.funD (d := dd_Filter_passes) (c.fnw 25 rfl) (c.fact 71 rfl)
  have F_Filter_passes : FunD K "passes" "Filter.passes" (defArgs s_Filter_passes) (defBody s_Filter_passes) (defScope s_Filter_passes) [] [] (fAd K ("Filter", some "passes")) fd_Filter_passes := F_Filter_passes
  have B_Filter_passes : Binds K fd_Filter_passes ["self", "record"] [] := FunD.bindsN F_Filter_passes fun _ _ _ _ _ _ us hl => match us, hl with | [_, _], _ => rfl
  obtain ⟨fd_Store___init__, F_Store___init__⟩ := _root_.He.DefD.funD (d := dd_Store___init__) (c.fnw 26 rfl) (c.fact 75 rfl)
  have F_Store___init__ : FunD K "__init__" "Store.__init__" (defArgs s_Store___init__) (defBody s_Store___init__) (defScope s_Store___init__) [] [] (fAd K ("Store", some "__init__")) fd_Store___init__ := F_Store___init__
  have B_Store___init__ : Binds K fd_Store___init__ ["self", "clock"] [] := FunD.bindsN F_Store___init__ fun _ _ _ _ _ _ us hl => match us, hl with | [_, _], _ => rfl
  obtain ⟨fd_Written___init__, F_Written___init__⟩ := _root_.He.DefD.funD (d := dd_Written___init__) (c.fnw 27 rfl) (c.fact 79 rfl)
  have F_Written___init__ : FunD K "__init__" "Written.__init__" (defArgs s_Written___init__) (defBody s_Written___init__) (defScope s_Written___init__) [] [] (fAd K ("Written", some "__init__")) fd_Written___init__ := F_Written___init__
  have B_Written___init__ : Binds K fd_Written___init__ ["self", "text", "time"] [] := FunD.bindsN F_Written___init__ fun _ _ _ _ _ _ us hl => match us, hl with | [_, _, _], _ => rfl
  obtain ⟨fd_Roster___init__, F_Roster___init__⟩ := _root_.He.DefD.funD (d := dd_Roster___init__) (c.fnw 28 rfl) (c.fact 83 rfl)
  have F_Roster___init__ : FunD K "__init__" "Roster.__init__" (defArgs s_Roster___init__) (defBody s_Roster___init__) (defScope s_Roster___init__) [] [] (fAd K ("Roster", some "__init__")) fd_Roster___init__ := F_Roster___init__
  have B_Roster___init__ : Binds K fd_Roster___init__ ["self"] [] := FunD.bindsN F_Roster___init__ fun _ _ _ _ _ _ us hl => match us, hl with | [_], _ => rfl
  obtain ⟨fd_Roster_enter, F_Roster_enter⟩ := _root_.He.DefD.funD (d := dd_Roster_enter) (c.fnw 29 rfl) (c.fact 85 rfl)
  have F_Roster_enter : FunD K "enter" "Roster.enter" (defArgs s_Roster_enter) (defBody s_Roster_enter) (defScope s_Roster_enter) [] [] (fAd K ("Roster", some "enter")) fd_Roster_enter := F_Roster_enter
  have B_Roster_enter : Binds K fd_Roster_enter ["self", "handler"] [] := FunD.bindsN F_Roster_enter fun _ _ _ _ _ _ us hl => match us, hl with | [_, _], _ => rfl
  obtain ⟨fd_Handler___init__, F_Handler___init__⟩ := _root_.He.DefD.funD (d := dd_Handler___init__) (c.fnw 30 rfl) (c.fact 89 rfl)
  have F_Handler___init__ : FunD K "__init__" "Handler.__init__" (defArgs s_Handler___init__) (defBody s_Handler___init__) (defScope s_Handler___init__) [] [] (fAd K ("Handler", some "__init__")) fd_Handler___init__ := F_Handler___init__
  have B_Handler___init__ : Binds K fd_Handler___init__ ["self", "yard"] [] := FunD.bindsN F_Handler___init__ fun _ _ _ _ _ _ us hl => match us, hl with | [_, _], _ => rfl
  obtain ⟨fd_Handler_addFilter, F_Handler_addFilter⟩ := _root_.He.DefD.funD (d := dd_Handler_addFilter) (c.fnw 31 rfl) (c.fact 91 rfl)
  have F_Handler_addFilter : FunD K "addFilter" "Handler.addFilter" (defArgs s_Handler_addFilter) (defBody s_Handler_addFilter) (defScope s_Handler_addFilter) [] [] (fAd K ("Handler", some "addFilter")) fd_Handler_addFilter := F_Handler_addFilter
  have B_Handler_addFilter : Binds K fd_Handler_addFilter ["self", "one"] [] := FunD.bindsN F_Handler_addFilter fun _ _ _ _ _ _ us hl => match us, hl with | [_, _], _ => rfl
  obtain ⟨fd_Handler_removeFilter, F_Handler_removeFilter⟩ := _root_.He.DefD.funD (d := dd_Handler_removeFilter) (c.fnw 32 rfl) (c.fact 93 rfl)
  have F_Handler_removeFilter : FunD K "removeFilter" "Handler.removeFilter" (defArgs s_Handler_removeFilter) (defBody s_Handler_removeFilter) (defScope s_Handler_removeFilter) [] [] (fAd K ("Handler", some "removeFilter")) fd_Handler_removeFilter := F_Handler_removeFilter
  have B_Handler_removeFilter : Binds K fd_Handler_removeFilter ["self", "one"] [] := FunD.bindsN F_Handler_removeFilter fun _ _ _ _ _ _ us hl => match us, hl with | [_, _], _ => rfl
  obtain ⟨fd_Handler_filtered, F_Handler_filtered⟩ := _root_.He.DefD.funD (d := dd_Handler_filtered) (c.fnw 33 rfl) (c.fact 95 rfl)
  have F_Handler_filtered : FunD K "filtered" "Handler.filtered" (defArgs s_Handler_filtered) (defBody s_Handler_filtered) (defScope s_Handler_filtered) [] [] (fAd K ("Handler", some "filtered")) fd_Handler_filtered := F_Handler_filtered
  have B_Handler_filtered : Binds K fd_Handler_filtered ["self", "record"] [] := FunD.bindsN F_Handler_filtered fun _ _ _ _ _ _ us hl => match us, hl with | [_, _], _ => rfl
  obtain ⟨fd_NullHandler___init__, F_NullHandler___init__, D_NullHandler___init__⟩ := SupE.supF (file := theFile) (d := se_NullHandler___init__) (c.sup 0 rfl) (c.fact 99 rfl)
  have D_NullHandler___init__ : SupDf K "__init__" "NullHandler.__init__" s_NullHandler___init__ [] fd_NullHandler___init__ := D_NullHandler___init__
  have B_NullHandler___init__ : Binds K fd_NullHandler___init__ ["self", "yard"] [] := SupDf.bindsN D_NullHandler___init__ fun _ _ _ _ _ _ _ us hl => match us, hl with | [_, _], _ => rfl
  obtain ⟨fd_NullHandler_addFilter, F_NullHandler_addFilter, D_NullHandler_addFilter⟩ := SupE.supF (file := theFile) (d := se_NullHandler_addFilter) (c.sup 1 rfl) (c.fact 101 rfl)
  have D_NullHandler_addFilter : SupDf K "addFilter" "NullHandler.addFilter" s_NullHandler_addFilter [] fd_NullHandler_addFilter := D_NullHandler_addFilter
  have B_NullHandler_addFilter : Binds K fd_NullHandler_addFilter ["self", "one"] [] := SupDf.bindsN D_NullHandler_addFilter fun _ _ _ _ _ _ _ us hl => match us, hl with | [_, _], _ => rfl
  obtain ⟨fd_NullHandler_removeFilter, F_NullHandler_removeFilter, D_NullHandler_removeFilter⟩ := SupE.supF (file := theFile) (d := se_NullHandler_removeFilter) (c.sup 2 rfl) (c.fact 103 rfl)
  have D_NullHandler_removeFilter : SupDf K "removeFilter" "NullHandler.removeFilter" s_NullHandler_removeFilter [] fd_NullHandler_removeFilter := D_NullHandler_removeFilter
  have B_NullHandler_removeFilter : Binds K fd_NullHandler_removeFilter ["self", "one"] [] := SupDf.bindsN D_NullHandler_removeFilter fun _ _ _ _ _ _ _ us hl => match us, hl with | [_, _], _ => rfl
  obtain ⟨fd_NullHandler_filtered, F_NullHandler_filtered, D_NullHandler_filtered⟩ := SupE.supF (file := theFile) (d := se_NullHandler_filtered) (c.sup 3 rfl) (c.fact 105 rfl)
  have D_NullHandler_filtered : SupDf K "filtered" "NullHandler.filtered" s_NullHandler_filtered [] fd_NullHandler_filtered := D_NullHandler_filtered
  have B_NullHandler_filtered : Binds K fd_NullHandler_filtered ["self", "record"] [] := SupDf.bindsN D_NullHandler_filtered fun _ _ _ _ _ _ _ us hl => match us, hl with | [_, _], _ => rfl
  obtain ⟨fd_Logger___init__, F_Logger___init__⟩ := _root_.He.DefD.funD (d := dd_Logger___init__) (c.fnw 34 rfl) (c.fact 109 rfl)
  have F_Logger___init__ : FunD K "__init__" "Logger.__init__" (defArgs s_Logger___init__) (defBody s_Logger___init__) (defScope s_Logger___init__) [] [] (fAd K ("Logger", some "__init__")) fd_Logger___init__ := F_Logger___init__
  have B_Logger___init__ : Binds K fd_Logger___init__ ["self", "tree", "name", "level", "parent"] [] := FunD.bindsN F_Logger___init__ fun _ _ _ _ _ _ us hl => match us, hl with | [_, _, _, _, _], _ => rfl
  obtain ⟨fd_Logger_addFilter, F_Logger_addFilter⟩ := _root_.He.DefD.funD (d := dd_Logger_addFilter) (c.fnw 35 rfl) (c.fact 111 rfl)
  have F_Logger_addFilter : FunD K "addFilter" "Logger.addFilter" (defArgs s_Logger_addFilter) (defBody s_Logger_addFilter) (defScope s_Logger_addFilter) [] [] (fAd K ("Logger", some "addFilter")) fd_Logger_addFilter := F_Logger_addFilter
  have B_Logger_addFilter : Binds K fd_Logger_addFilter ["self", "one"] [] := FunD.bindsN F_Logger_addFilter fun _ _ _ _ _ _ us hl => match us, hl with | [_, _], _ => rfl
  obtain ⟨fd_Logger_removeFilter, F_Logger_removeFilter⟩ := _root_.He.DefD.funD (d := dd_Logger_removeFilter) (c.fnw 36 rfl) (c.fact 113 rfl)
  have F_Logger_removeFilter : FunD K "removeFilter" "Logger.removeFilter" (defArgs s_Logger_removeFilter) (defBody s_Logger_removeFilter) (defScope s_Logger_removeFilter) [] [] (fAd K ("Logger", some "removeFilter")) fd_Logger_removeFilter := F_Logger_removeFilter
  have B_Logger_removeFilter : Binds K fd_Logger_removeFilter ["self", "one"] [] := FunD.bindsN F_Logger_removeFilter fun _ _ _ _ _ _ us hl => match us, hl with | [_, _], _ => rfl
  obtain ⟨fd_Logger_filtered, F_Logger_filtered⟩ := _root_.He.DefD.funD (d := dd_Logger_filtered) (c.fnw 37 rfl) (c.fact 115 rfl)
  have F_Logger_filtered : FunD K "filtered" "Logger.filtered" (defArgs s_Logger_filtered) (defBody s_Logger_filtered) (defScope s_Logger_filtered) [] [] (fAd K ("Logger", some "filtered")) fd_Logger_filtered := F_Logger_filtered
  have B_Logger_filtered : Binds K fd_Logger_filtered ["self", "record"] [] := FunD.bindsN F_Logger_filtered fun _ _ _ _ _ _ us hl => match us, hl with | [_, _], _ => rfl
  obtain ⟨fd_LoggerTree___init__, F_LoggerTree___init__⟩ := _root_.He.DefD.funD (d := dd_LoggerTree___init__) (c.fnw 38 rfl) (c.fact 119 rfl)
  have F_LoggerTree___init__ : FunD K "__init__" "LoggerTree.__init__" (defArgs s_LoggerTree___init__) (defBody s_LoggerTree___init__) (defScope s_LoggerTree___init__) [] [] (fAd K ("LoggerTree", some "__init__")) fd_LoggerTree___init__ := F_LoggerTree___init__
  have B_LoggerTree___init__ : Binds K fd_LoggerTree___init__ ["self", "yard", "levels", "clock", "last_resort"] [] := FunD.bindsN F_LoggerTree___init__ fun _ _ _ _ _ _ us hl => match us, hl with | [_, _, _, _, _], _ => rfl
  obtain ⟨fd_LoggerTree_getLogger, F_LoggerTree_getLogger⟩ := _root_.He.DefD.funD (d := dd_LoggerTree_getLogger) (c.fnw 39 rfl) (c.fact 121 rfl)
  have F_LoggerTree_getLogger : FunD K "getLogger" "LoggerTree.getLogger" (defArgs s_LoggerTree_getLogger) (defBody s_LoggerTree_getLogger) (defScope s_LoggerTree_getLogger) [.str (SX.S [])] [] (fAd K ("LoggerTree", some "getLogger")) fd_LoggerTree_getLogger := F_LoggerTree_getLogger
  have B_LoggerTree_getLogger : Binds K fd_LoggerTree_getLogger ["self", "name"] [] := nil_of (FunD.binds1 F_LoggerTree_getLogger 2 1 (List.cons_ne_nil _ _) rfl (fun _ _ _ _ _ _ _ us its h1 h2 => match us, its, h1, h2 with | [_, _], [_], _, _ => ⟨_, rfl, rfl⟩))
  obtain ⟨fd_LoggerTree_grow, F_LoggerTree_grow⟩ := _root_.He.DefD.funD (d := dd_LoggerTree_grow) (c.fnw 40 rfl) (c.fact 123 rfl)
  have F_LoggerTree_grow : FunD K "grow" "LoggerTree.grow" (defArgs s_LoggerTree_grow) (defBody s_LoggerTree_grow) (defScope s_LoggerTree_grow) [] [] (fAd K ("LoggerTree", some "grow")) fd_LoggerTree_grow := F_LoggerTree_grow
  have B_LoggerTree_grow : Binds K fd_LoggerTree_grow ["self", "name"] [] := FunD.bindsN F_LoggerTree_grow fun _ _ _ _ _ _ us hl => match us, hl with | [_, _], _ => rfl
  obtain ⟨fd_LoggerTree_nearest, F_LoggerTree_nearest⟩ := _root_.He.DefD.funD (d := dd_LoggerTree_nearest) (c.fnw 41 rfl) (c.fact 125 rfl)
  have F_LoggerTree_nearest : FunD K "nearest" "LoggerTree.nearest" (defArgs s_LoggerTree_nearest) (defBody s_LoggerTree_nearest) (defScope s_LoggerTree_nearest) [] [] (fAd K ("LoggerTree", some "nearest")) fd_LoggerTree_nearest := F_LoggerTree_nearest
  have B_LoggerTree_nearest : Binds K fd_LoggerTree_nearest ["self", "name"] [] := FunD.bindsN F_LoggerTree_nearest fun _ _ _ _ _ _ us hl => match us, hl with | [_, _], _ => rfl
  obtain ⟨fd_LoggerTree_made, F_LoggerTree_made⟩ := _root_.He.DefD.funD (d := dd_LoggerTree_made) (c.fnw 42 rfl) (c.fact 127 rfl)
  have F_LoggerTree_made : FunD K "made" "LoggerTree.made" (defArgs s_LoggerTree_made) (defBody s_LoggerTree_made) (defScope s_LoggerTree_made) [] [] (fAd K ("LoggerTree", some "made")) fd_LoggerTree_made := F_LoggerTree_made
  have B_LoggerTree_made : Binds K fd_LoggerTree_made ["self"] [] := FunD.bindsN F_LoggerTree_made fun _ _ _ _ _ _ us hl => match us, hl with | [_], _ => rfl
  obtain ⟨fd_LoggerTree_loggers, F_LoggerTree_loggers⟩ := _root_.He.DefD.funD (d := dd_LoggerTree_loggers) (c.fnw 43 rfl) (c.fact 129 rfl)
  have F_LoggerTree_loggers : FunD K "loggers" "LoggerTree.loggers" (defArgs s_LoggerTree_loggers) (defBody s_LoggerTree_loggers) (defScope s_LoggerTree_loggers) [] [] (fAd K ("LoggerTree", some "loggers")) fd_LoggerTree_loggers := F_LoggerTree_loggers
  have B_LoggerTree_loggers : Binds K fd_LoggerTree_loggers ["self"] [] := FunD.bindsN F_LoggerTree_loggers fun _ _ _ _ _ _ us hl => match us, hl with | [_], _ => rfl
  obtain ⟨fd_StreamHandler___init__, F_StreamHandler___init__, D_StreamHandler___init__⟩ := SupE.supF (file := theFile) (d := se_StreamHandler___init__) (c.sup 4 rfl) (c.fact 133 rfl)
  have D_StreamHandler___init__ : SupDf K "__init__" "StreamHandler.__init__" s_StreamHandler___init__ [.str (SX.S [115, 116, 100, 101, 114, 114])] fd_StreamHandler___init__ := D_StreamHandler___init__
  obtain ⟨fd_Yard___init__, F_Yard___init__⟩ := _root_.He.DefD.funD (d := dd_Yard___init__) (c.fnw 44 rfl) (c.fact 137 rfl)
  have F_Yard___init__ : FunD K "__init__" "Yard.__init__" (defArgs s_Yard___init__) (defBody s_Yard___init__) (defScope s_Yard___init__) [.int 0] [] (fAd K ("Yard", some "__init__")) fd_Yard___init__ := F_Yard___init__
  obtain ⟨fd_Yard_getLogger, F_Yard_getLogger⟩ := _root_.He.DefD.funD (d := dd_Yard_getLogger) (c.fnw 45 rfl) (c.fact 139 rfl)
  have F_Yard_getLogger : FunD K "getLogger" "Yard.getLogger" (defArgs s_Yard_getLogger) (defBody s_Yard_getLogger) (defScope s_Yard_getLogger) [.str (SX.S [])] [] (fAd K ("Yard", some "getLogger")) fd_Yard_getLogger := F_Yard_getLogger
  have B_Yard_getLogger : Binds K fd_Yard_getLogger ["self", "name"] [] := nil_of (FunD.binds1 F_Yard_getLogger 2 1 (List.cons_ne_nil _ _) rfl (fun _ _ _ _ _ _ _ us its h1 h2 => match us, its, h1, h2 with | [_, _], [_], _, _ => ⟨_, rfl, rfl⟩))
  obtain ⟨fd_Yard_make_record, F_Yard_make_record⟩ := _root_.He.DefD.funD (d := dd_Yard_make_record) (c.fnw 46 rfl) (c.fact 141 rfl)
  have F_Yard_make_record : FunD K "make_record" "Yard.make_record" (defArgs s_Yard_make_record) (defBody s_Yard_make_record) (defScope s_Yard_make_record) [.ref (dflAt ("Yard", some "make_record") 0 K), .non] [] (fAd K ("Yard", some "make_record")) fd_Yard_make_record := F_Yard_make_record
  have B_Yard_make_record : Binds K fd_Yard_make_record ["self", "name", "level", "msg", "args", "extra"] [] := nil_of (FunD.binds1 F_Yard_make_record 6 2 (List.cons_ne_nil _ _) rfl (fun _ _ _ _ _ _ _ us its h1 h2 => match us, its, h1, h2 with | [_, _, _, _, _, _], [_, _], _, _ => ⟨_, rfl, rfl⟩))
  have B_Yard_make_record_4 : ∃ ds, Vals [.ref (dflAt ("Yard", some "make_record") 0 K), .non] ds ∧ Binds K fd_Yard_make_record ["self", "name", "level", "msg", "args", "extra"] ds := FunD.binds1 F_Yard_make_record 4 0 (List.cons_ne_nil _ _) rfl (fun _ _ _ _ _ _ _ us its h1 h2 => match us, its, h1, h2 with | [_, _, _, _], [_, _], _, _ => ⟨_, rfl, rfl⟩)
  have B_Filter___init__ : Binds K fd_Filter___init__ ["self", "name"] [] := nil_of (FunD.binds1 F_Filter___init__ 2 1 (List.cons_ne_nil _ _) rfl (fun _ _ _ _ _ _ _ us its h1 h2 => match us, its, h1, h2 with | [_, _], [_], _, _ => ⟨_, rfl, rfl⟩))
  have B_Filter___init___1 : ∃ ds, Vals [.str (SX.S [])] ds ∧ Binds K fd_Filter___init__ ["self", "name"] ds := FunD.binds1 F_Filter___init__ 1 0 (List.cons_ne_nil _ _) rfl (fun _ _ _ _ _ _ _ us its h1 h2 => match us, its, h1, h2 with | [_], [_], _, _ => ⟨_, rfl, rfl⟩)
  have B_Yard___init___1 : ∃ ds, Vals [.int 0] ds ∧ Binds K fd_Yard___init__ ["self", "now"] ds := FunD.binds1 F_Yard___init__ 1 0 (List.cons_ne_nil _ _) rfl (fun _ _ _ _ _ _ _ us its h1 h2 => match us, its, h1, h2 with | [_], [_], _, _ => ⟨_, rfl, rfl⟩)
  have B_StreamHandler___init___2 : ∃ ds, Vals [.str (SX.S [115, 116, 100, 101, 114, 114])] ds ∧ Binds K fd_StreamHandler___init__ ["self", "yard", "stream"] ds := SupDf.binds1 D_StreamHandler___init__ 2 0 (List.cons_ne_nil _ _) rfl (fun _ _ _ _ _ _ _ _ us its h1 h2 => match us, its, h1, h2 with | [_, _], [_], _, _ => ⟨_, rfl, rfl⟩)
  let T : Txt K mg := {
    B := ⟨free_ok X G (c.fact 0 rfl), free_ok X G (c.fact 1 rfl), free_ok X G (c.fact 2 rfl), free_ok X G (c.fact 3 rfl), free_ok X G (c.fact 4 rfl), free_ok X G (c.fact 5 rfl), free_ok X G (c.fact 6 rfl), free_ok X G (c.fact 7 rfl), free_ok X G (c.fact 8 rfl), free_ok X G (c.fact 9 rfl), free_ok X G (c.fact 10 rfl), free_ok X G (c.fact 11 rfl), free_ok X G (c.fact 12 rfl)⟩,
    f__wall := fAd K ("_wall", none),
    fd__wall := fd__wall,
    D__wall := ⟨(fun_of F__wall), glo_ok X G (c.fact 14 rfl), B__wall⟩,
    f_is_integer := fAd K ("is_integer", none),
    fd_is_integer := fd_is_integer,
    D_is_integer := ⟨(fun_of F_is_integer), glo_ok X G (c.fact 16 rfl), B_is_integer⟩,
    f_is_word_sign := fAd K ("is_word_sign", none),
    fd_is_word_sign := fd_is_word_sign,
    D_is_word_sign := ⟨(fun_of F_is_word_sign), glo_ok X G (c.fact 18 rfl), B_is_word_sign⟩,
    f_is_part := fAd K ("is_part", none),
    fd_is_part := fd_is_part,
    D_is_part := ⟨(fun_of F_is_part), glo_ok X G (c.fact 20 rfl), B_is_part⟩,
    f_is_dotted := fAd K ("is_dotted", none),
    fd_is_dotted := fd_is_dotted,
    D_is_dotted := ⟨(fun_of F_is_dotted), glo_ok X G (c.fact 22 rfl), B_is_dotted⟩,
    f_is_logger_name := fAd K ("is_logger_name", none),
    fd_is_logger_name := fd_is_logger_name,
    D_is_logger_name := ⟨(fun_of F_is_logger_name), glo_ok X G (c.fact 24 rfl), B_is_logger_name⟩,
    f_own_copy := fAd K ("own_copy", none),
    fd_own_copy := fd_own_copy,
    D_own_copy := ⟨(fun_of F_own_copy), glo_ok X G (c.fact 26 rfl), B_own_copy⟩,
    f_filled := fAd K ("filled", none),
    fd_filled := fd_filled,
    D_filled := ⟨(fun_of F_filled), glo_ok X G (c.fact 28 rfl), B_filled⟩,
    aGT_made_record := dflAt ("made_record", none) 0 K,
    f_made_record := fAd K ("made_record", none),
    fd_made_record := fd_made_record,
    D_made_record := ⟨F_made_record, glo_ok X G (c.fact 30 rfl), B_made_record⟩,
    f_through_one := fAd K ("through_one", none),
    fd_through_one := fd_through_one,
    D_through_one := ⟨(fun_of F_through_one), glo_ok X G (c.fact 32 rfl), B_through_one⟩,
    f_through_all := fAd K ("through_all", none),
    fd_through_all := fd_through_all,
    D_through_all := ⟨(fun_of F_through_all), glo_ok X G (c.fact 34 rfl), B_through_all⟩,
    f__law_draw := fAd K ("_law_draw", none),
    fd__law_draw := fd__law_draw,
    D__law_draw := ⟨(fun_of F__law_draw), glo_ok X G (c.fact 36 rfl), B__law_draw⟩,
    f__law_pick := fAd K ("_law_pick", none),
    fd__law_pick := fd__law_pick,
    D__law_pick := ⟨(fun_of F__law_pick), glo_ok X G (c.fact 38 rfl), B__law_pick⟩,
    f__law_same := fAd K ("_law_same", none),
    fd__law_same := fd__law_same,
    D__law_same := ⟨(fun_of F__law_same), glo_ok X G (c.fact 40 rfl), B__law_same⟩,
    f__law_name := fAd K ("_law_name", none),
    fd__law_name := fd__law_name,
    D__law_name := ⟨(fun_of F__law_name), glo_ok X G (c.fact 42 rfl), B__law_name⟩,
    f__law_odd_name := fAd K ("_law_odd_name", none),
    fd__law_odd_name := fd__law_odd_name,
    D__law_odd_name := ⟨(fun_of F__law_odd_name), glo_ok X G (c.fact 44 rfl), B__law_odd_name⟩,
    f_law := fAd K ("law", none),
    fd_law := fd_law,
    D_law := ⟨(fun_of F_law), glo_ok X G (c.fact 46 rfl), B_law⟩,
    file := theFile,
    C_Clock := (ga K "Clock"),
    g_Clock := glo_ok X G (c.fact 47 rfl),
    o_Clock := ocB_ok (c.fact 48 rfl),
    a_Clock_init := fAd K ("Clock", some "__init__"),
    fd_Clock_init := fd_Clock___init__,
    F_Clock_init := (fun_of F_Clock___init__),
    M_Clock := mkB_ok (c.fact 50 rfl),
    b_Clock_init := B_Clock___init__,
    a_Clock_now := fAd K ("Clock", some "now"),
    fd_Clock_now := fd_Clock_now,
    F_Clock_now := (fun_of F_Clock_now),
    Me_Clock_now := metB_ok (c.fact 52 rfl),
    b_Clock_now := B_Clock_now,
    C_LevelTable := (ga K "LevelTable"),
    g_LevelTable := glo_ok X G (c.fact 53 rfl),
    o_LevelTable := ocB_ok (c.fact 54 rfl),
    a_LevelTable_init := fAd K ("LevelTable", some "__init__"),
    fd_LevelTable_init := fd_LevelTable___init__,
    F_LevelTable_init := (fun_of F_LevelTable___init__),
    M_LevelTable := mkB_ok (c.fact 56 rfl),
    b_LevelTable_init := B_LevelTable___init__,
    a_LevelTable_knows := fAd K ("LevelTable", some "knows"),
    fd_LevelTable_knows := fd_LevelTable_knows,
    F_LevelTable_knows := (fun_of F_LevelTable_knows),
    Me_LevelTable_knows := metB_ok (c.fact 58 rfl),
    b_LevelTable_knows := B_LevelTable_knows,
    a_LevelTable_number := fAd K ("LevelTable", some "number"),
    fd_LevelTable_number := fd_LevelTable_number,
    F_LevelTable_number := (fun_of F_LevelTable_number),
    Me_LevelTable_number := metB_ok (c.fact 60 rfl),
    b_LevelTable_number := B_LevelTable_number,
    a_LevelTable_level_name := fAd K ("LevelTable", some "level_name"),
    fd_LevelTable_level_name := fd_LevelTable_level_name,
    F_LevelTable_level_name := (fun_of F_LevelTable_level_name),
    Me_LevelTable_level_name := metB_ok (c.fact 62 rfl),
    b_LevelTable_level_name := B_LevelTable_level_name,
    C_LogRecord := (ga K "LogRecord"),
    g_LogRecord := glo_ok X G (c.fact 63 rfl),
    o_LogRecord := ocB_ok (c.fact 64 rfl),
    a_LogRecord_init := fAd K ("LogRecord", some "__init__"),
    fd_LogRecord_init := fd_LogRecord___init__,
    F_LogRecord_init := (fun_of F_LogRecord___init__),
    M_LogRecord := mkB_ok (c.fact 66 rfl),
    b_LogRecord_init := B_LogRecord___init__,
    C_Filter := (ga K "Filter"),
    g_Filter := glo_ok X G (c.fact 67 rfl),
    o_Filter := ocB_ok (c.fact 68 rfl),
    a_Filter_init := fAd K ("Filter", some "__init__"),
    fd_Filter_init := fd_Filter___init__,
    F_Filter_init := F_Filter___init__,
    M_Filter := mkB_ok (c.fact 70 rfl),
    a_Filter_passes := fAd K ("Filter", some "passes"),
    fd_Filter_passes := fd_Filter_passes,
    F_Filter_passes := (fun_of F_Filter_passes),
    Me_Filter_passes := metB_ok (c.fact 72 rfl),
    b_Filter_passes := B_Filter_passes,
    C_Store := (ga K "Store"),
    g_Store := glo_ok X G (c.fact 73 rfl),
    o_Store := ocB_ok (c.fact 74 rfl),
    a_Store_init := fAd K ("Store", some "__init__"),
    fd_Store_init := fd_Store___init__,
    F_Store_init := (fun_of F_Store___init__),
    M_Store := mkB_ok (c.fact 76 rfl),
    b_Store_init := B_Store___init__,
    C_Written := (ga K "Written"),
    g_Written := glo_ok X G (c.fact 77 rfl),
    o_Written := ocB_ok (c.fact 78 rfl),
    a_Written_init := fAd K ("Written", some "__init__"),
    fd_Written_init := fd_Written___init__,
    F_Written_init := (fun_of F_Written___init__),
    M_Written := mkB_ok (c.fact 80 rfl),
    b_Written_init := B_Written___init__,
    C_Roster := (ga K "Roster"),
    g_Roster := glo_ok X G (c.fact 81 rfl),
    o_Roster := ocB_ok (c.fact 82 rfl),
    a_Roster_init := fAd K ("Roster", some "__init__"),
    fd_Roster_init := fd_Roster___init__,
    F_Roster_init := (fun_of F_Roster___init__),
    M_Roster := mkB_ok (c.fact 84 rfl),
    b_Roster_init := B_Roster___init__,
    a_Roster_enter := fAd K ("Roster", some "enter"),
    fd_Roster_enter := fd_Roster_enter,
    F_Roster_enter := (fun_of F_Roster_enter),
    Me_Roster_enter := metB_ok (c.fact 86 rfl),
    b_Roster_enter := B_Roster_enter,
    C_Handler := (ga K "Handler"),
    g_Handler := glo_ok X G (c.fact 87 rfl),
    o_Handler := ocB_ok (c.fact 88 rfl),
    a_Handler_init := fAd K ("Handler", some "__init__"),
    fd_Handler_init := fd_Handler___init__,
    F_Handler_init := (fun_of F_Handler___init__),
    M_Handler := mkB_ok (c.fact 90 rfl),
    b_Handler_init := B_Handler___init__,
    a_Handler_addFilter := fAd K ("Handler", some "addFilter"),
    fd_Handler_addFilter := fd_Handler_addFilter,
    F_Handler_addFilter := (fun_of F_Handler_addFilter),
    Me_Handler_addFilter := metB_ok (c.fact 92 rfl),
    b_Handler_addFilter := B_Handler_addFilter,
    a_Handler_removeFilter := fAd K ("Handler", some "removeFilter"),
    fd_Handler_removeFilter := fd_Handler_removeFilter,
    F_Handler_removeFilter := (fun_of F_Handler_removeFilter),
    Me_Handler_removeFilter := metB_ok (c.fact 94 rfl),
    b_Handler_removeFilter := B_Handler_removeFilter,
    a_Handler_filtered := fAd K ("Handler", some "filtered"),
    fd_Handler_filtered := fd_Handler_filtered,
    F_Handler_filtered := (fun_of F_Handler_filtered),
    Me_Handler_filtered := metB_ok (c.fact 96 rfl),
    b_Handler_filtered := B_Handler_filtered,
    C_NullHandler := (ga K "NullHandler"),
    g_NullHandler := glo_ok X G (c.fact 97 rfl),
    o_NullHandler := ocB_ok (c.fact 98 rfl),
    a_NullHandler_init := fAd K ("NullHandler", some "__init__"),
    fd_NullHandler_init := fd_NullHandler___init__,
    F_NullHandler_init := F_NullHandler___init__,
    M_NullHandler := mkB_ok (c.fact 100 rfl),
    b_NullHandler_init := B_NullHandler___init__,
    a_NullHandler_addFilter := fAd K ("NullHandler", some "addFilter"),
    fd_NullHandler_addFilter := fd_NullHandler_addFilter,
    F_NullHandler_addFilter := F_NullHandler_addFilter,
    Me_NullHandler_addFilter := metB_ok (c.fact 102 rfl),
    b_NullHandler_addFilter := B_NullHandler_addFilter,
    a_NullHandler_removeFilter := fAd K ("NullHandler", some "removeFilter"),
    fd_NullHandler_removeFilter := fd_NullHandler_removeFilter,
    F_NullHandler_removeFilter := F_NullHandler_removeFilter,
    Me_NullHandler_removeFilter := metB_ok (c.fact 104 rfl),
    b_NullHandler_removeFilter := B_NullHandler_removeFilter,
    a_NullHandler_filtered := fAd K ("NullHandler", some "filtered"),
    fd_NullHandler_filtered := fd_NullHandler_filtered,
    F_NullHandler_filtered := F_NullHandler_filtered,
    Me_NullHandler_filtered := metB_ok (c.fact 106 rfl),
    b_NullHandler_filtered := B_NullHandler_filtered,
    C_Logger := (ga K "Logger"),
    g_Logger := glo_ok X G (c.fact 107 rfl),
    o_Logger := ocB_ok (c.fact 108 rfl),
    a_Logger_init := fAd K ("Logger", some "__init__"),
    fd_Logger_init := fd_Logger___init__,
    F_Logger_init := (fun_of F_Logger___init__),
    M_Logger := mkB_ok (c.fact 110 rfl),
    b_Logger_init := B_Logger___init__,
    a_Logger_addFilter := fAd K ("Logger", some "addFilter"),
    fd_Logger_addFilter := fd_Logger_addFilter,
    F_Logger_addFilter := (fun_of F_Logger_addFilter),
    Me_Logger_addFilter := metB_ok (c.fact 112 rfl),
    b_Logger_addFilter := B_Logger_addFilter,
    a_Logger_removeFilter := fAd K ("Logger", some "removeFilter"),
    fd_Logger_removeFilter := fd_Logger_removeFilter,
    F_Logger_removeFilter := (fun_of F_Logger_removeFilter),
    Me_Logger_removeFilter := metB_ok (c.fact 114 rfl),
    b_Logger_removeFilter := B_Logger_removeFilter,
    a_Logger_filtered := fAd K ("Logger", some "filtered"),
    fd_Logger_filtered := fd_Logger_filtered,
    F_Logger_filtered := (fun_of F_Logger_filtered),
    Me_Logger_filtered := metB_ok (c.fact 116 rfl),
    b_Logger_filtered := B_Logger_filtered,
    C_LoggerTree := (ga K "LoggerTree"),
    g_LoggerTree := glo_ok X G (c.fact 117 rfl),
    o_LoggerTree := ocB_ok (c.fact 118 rfl),
    a_LoggerTree_init := fAd K ("LoggerTree", some "__init__"),
    fd_LoggerTree_init := fd_LoggerTree___init__,
    F_LoggerTree_init := (fun_of F_LoggerTree___init__),
    M_LoggerTree := mkB_ok (c.fact 120 rfl),
    b_LoggerTree_init := B_LoggerTree___init__,
    a_LoggerTree_getLogger := fAd K ("LoggerTree", some "getLogger"),
    fd_LoggerTree_getLogger := fd_LoggerTree_getLogger,
    aGT_LoggerTree_getLogger := 0,
    F_LoggerTree_getLogger := F_LoggerTree_getLogger,
    Me_LoggerTree_getLogger := metB_ok (c.fact 122 rfl),
    b_LoggerTree_getLogger := B_LoggerTree_getLogger,
    a_LoggerTree_grow := fAd K ("LoggerTree", some "grow"),
    fd_LoggerTree_grow := fd_LoggerTree_grow,
    F_LoggerTree_grow := (fun_of F_LoggerTree_grow),
    Me_LoggerTree_grow := metB_ok (c.fact 124 rfl),
    b_LoggerTree_grow := B_LoggerTree_grow,
    a_LoggerTree_nearest := fAd K ("LoggerTree", some "nearest"),
    fd_LoggerTree_nearest := fd_LoggerTree_nearest,
    F_LoggerTree_nearest := (fun_of F_LoggerTree_nearest),
    Me_LoggerTree_nearest := metB_ok (c.fact 126 rfl),
    b_LoggerTree_nearest := B_LoggerTree_nearest,
    a_LoggerTree_made := fAd K ("LoggerTree", some "made"),
    fd_LoggerTree_made := fd_LoggerTree_made,
    F_LoggerTree_made := (fun_of F_LoggerTree_made),
    Me_LoggerTree_made := metB_ok (c.fact 128 rfl),
    b_LoggerTree_made := B_LoggerTree_made,
    a_LoggerTree_loggers := fAd K ("LoggerTree", some "loggers"),
    fd_LoggerTree_loggers := fd_LoggerTree_loggers,
    F_LoggerTree_loggers := (fun_of F_LoggerTree_loggers),
    Me_LoggerTree_loggers := metB_ok (c.fact 130 rfl),
    b_LoggerTree_loggers := B_LoggerTree_loggers,
    C_StreamHandler := (ga K "StreamHandler"),
    g_StreamHandler := glo_ok X G (c.fact 131 rfl),
    o_StreamHandler := ocB_ok (c.fact 132 rfl),
    a_StreamHandler_init := fAd K ("StreamHandler", some "__init__"),
    fd_StreamHandler_init := fd_StreamHandler___init__,
    F_StreamHandler_init := F_StreamHandler___init__,
    M_StreamHandler := mkB_ok (c.fact 134 rfl),
    C_Yard := (ga K "Yard"),
    g_Yard := glo_ok X G (c.fact 135 rfl),
    o_Yard := ocB_ok (c.fact 136 rfl),
    a_Yard_init := fAd K ("Yard", some "__init__"),
    fd_Yard_init := fd_Yard___init__,
    F_Yard_init := F_Yard___init__,
    M_Yard := mkB_ok (c.fact 138 rfl),
    a_Yard_getLogger := fAd K ("Yard", some "getLogger"),
    fd_Yard_getLogger := fd_Yard_getLogger,
    aGT_Yard_getLogger := 0,
    F_Yard_getLogger := F_Yard_getLogger,
    Me_Yard_getLogger := metB_ok (c.fact 140 rfl),
    b_Yard_getLogger := B_Yard_getLogger,
    a_Yard_make_record := fAd K ("Yard", some "make_record"),
    fd_Yard_make_record := fd_Yard_make_record,
    aGT_Yard_make_record := dflAt ("Yard", some "make_record") 0 K,
    F_Yard_make_record := F_Yard_make_record,
    Me_Yard_make_record := metB_ok (c.fact 142 rfl),
    b_Yard_make_record := B_Yard_make_record,
    dd_Yard_make_record := B_Yard_make_record_4,
    gt_Yard_make_record := (fun H => let ⟨_, _, _, l⟩ := tup0_ok (c.fact 143 rfl); ⟨.inr ⟨_, _, _, l, rfl, rfl, Nat.le_of_ble_eq_true rfl, .nil⟩, .kTuple l rfl⟩),
    b_Filter_init := B_Filter___init__,
    dd_Filter_init := B_Filter___init___1,
    SM_NullHandler_init := supB_ok (c.fact 144 rfl),
    SM_NullHandler_addFilter := supB_ok (c.fact 145 rfl),
    SM_NullHandler_removeFilter := supB_ok (c.fact 146 rfl),
    SM_NullHandler_filtered := supB_ok (c.fact 147 rfl),
    cmp_Filter := ⟨(c.fact 148 rfl)⟩,
    tyi_Filter := ⟨(c.fact 149 rfl)⟩,
    cmp_LogRecord := ⟨(c.fact 150 rfl)⟩,
    c_BadExtra := (ga K "BadExtra"),
    i_BadExtra := fAd K ("BadExtra", some "__init__"),
    E_BadExtra := errB_ok X G oneF_name (c.fnw 47 rfl) (c.fact 151 rfl),
    aKN := (ga K "KEPT_NAMES"),
    k_KEPT_NAMES := ⟨_, glo_ok X G (c.fact 152 rfl), rfl⟩,
    t_KEPT_NAMES := (fun H => tupB_ok (c.fact 153 rfl) H),
    cP := (cT K ("is_part", none)).1,
    PP := (cT K ("is_part", none)).2,
    W_P := defC_of F_is_part,
    cD := (cT K ("is_dotted", none)).1,
    PD := (cT K ("is_dotted", none)).2,
    W_D := defC_of F_is_dotted,
    dd_Yard_init := B_Yard___init___1,
    c_BadLevel := (ga K "BadLevel"),
    i_BadLevel := fAd K ("BadLevel", some "__init__"),
    E_BadLevel := errB_ok X G oneF_level (c.fnw 48 rfl) (c.fact 154 rfl),
    c_BadName := (ga K "BadName"),
    i_BadName := fAd K ("BadName", some "__init__"),
    E_BadName := errB_ok X G oneF_name (c.fnw 49 rfl) (c.fact 155 rfl),
    aFN := (ga K "FIRST_NAMES"),
    aFM := (ga K "FIRST_NUMBERS"),
    k_FIRST_NAMES := ⟨_, glo_ok X G (c.fact 156 rfl), rfl⟩,
    k_FIRST_NUMBERS := ⟨_, glo_ok X G (c.fact 157 rfl), rfl⟩,
    k_NOTSET := (let ⟨t, e⟩ := int_ok X G (c.fact 158 rfl); ⟨_, e, ⟨t, rfl⟩⟩),
    k_WARNING := (let ⟨t, e⟩ := int_ok X G (c.fact 159 rfl); ⟨_, e, ⟨t, rfl⟩⟩),
    k_LETTERS := (let ⟨t, e⟩ := str_ok X G (c.fact 160 rfl); ⟨_, e, ⟨t, rfl⟩⟩),
    k_DIGITS := (let ⟨t, e⟩ := str_ok X G (c.fact 161 rfl); ⟨_, e, ⟨t, rfl⟩⟩),
    aRN := (ga K "ROOT_NAMES"),
    k_ROOT_NAMES := ⟨_, glo_ok X G (c.fact 162 rfl), rfl⟩,
    t_ROOT_NAMES := (fun H => tupB_ok (c.fact 163 rfl) H),
    cmp_Logger := ⟨(c.fact 164 rfl)⟩,
    dd_StreamHandler_init := B_StreamHandler___init___2,
    SM_StreamHandler_init := supB_ok (c.fact 165 rfl) }
  have e : ga K "law" = fa := by
    have e1 := (glo_ok X G (c.fact 46 rfl)).symm.trans hfa
    exact Value.ref.inj (Option.some.inj e1)
  have b := FunD.bindsA (ps := ["_law_script"]) F_law fun _ _ _ _ _ _ us hl => match us, hl with | [_], _ => rfl
  subst e
  exact ⟨fd_law, fun s v => b s [v] rfl, fun base _ _ tb => ok_law T ⟨⟨hPf, hPt, free_ok X G (c.fact 10 rfl)⟩, dkc_of (a := fun K => ga K "FIRST_NAMES") (kvs := firstNames) (c.dic 0 rfl) (c.fact 166 rfl) (by decide +kernel) (by decide), dkc_of (a := fun K => ga K "FIRST_NUMBERS") (kvs := firstNumbers) (c.dic 1 rfl) (c.fact 167 rfl) (by decide +kernel) (by decide)⟩ (tb2 (tb _ List.mem_cons_self)) (tb2 (tb _ (List.mem_cons_of_mem _ List.mem_cons_self)))⟩
end My


namespace My
open PySem PySem.Spec PyProof.Rows L2 _root_.He HdF
def adrL0 : List (Addr) := [3, 2, 21, 117, 124, 131, 138, 145, 152, 195, 204, 240, 247, 1333, 1340, 1345, 1350, 1357, 1364, 907, 308, 184, 229, 872, 776, 741, 420, 652, 1087, 1165, 541, 1322, 89, 153, 51, 70, 248, 249, 1092, 31]
def adrL1 : List (Addr) := [906, 307, 183, 228, 871, 775, 740, 419, 651, 1086, 1164, 540, 1321, 88, 50, 69, 30, 890, 897, 263, 291, 298, 277, 167, 219, 226, 794, 759, 668, 675, 326, 361, 368, 375, 559, 602, 610, 618, 925, 1009]
def adrL2 : List (Addr) := [1016, 1023, 1106, 1114, 1121, 1128, 1133, 1140, 441, 1184, 1269, 1261, 86, 48, 67, 20, 116, 123, 130, 137, 144, 151, 194, 203, 197, 196, 239, 246, 1332, 1339, 1344, 1349, 1356, 1363, 889, 896, 262, 290, 297, 276]
def adrL3 : List (Addr) := [166, 218, 212, 225, 793, 758, 667, 674, 325, 360, 367, 374, 558, 547, 601, 609, 617, 924, 1008, 1015, 1022, 1105, 1113, 1107, 1120, 1127, 1132, 1139, 440, 433, 428, 1183, 1177, 1268, 1262, 1260, 1254, 1253, 85, 47]
def adrL4 : List (Addr) := [66]
def adrL : List (Addr) := adrL0 ++ adrL1 ++ adrL2 ++ adrL3 ++ adrL4
def looseL0 : List (Str) := ["_wall", "__name__", "YardError", "BadLevel", "BadName", "BadExtra", "BadMessage", "LETTERS", "DIGITS", "is_integer", "is_word_sign", "is_part", "is_dotted", "is_logger_name", "own_copy", "KEPT_NAMES", "LogRecord", "filled", "made_record", "Filter", "through_one", "through_all", "WARNING", "NOTSET", "FIRST_NAMES", "FIRST_NUMBERS", "LevelTable", "Handler", "StreamHandler", "NullHandler"]
def looseL1 : List (Str) := ["Roster", "Written", "Store", "Clock", "Logger", "ROOT_NAMES", "LoggerTree", "Yard", "_law_draw", "_law_pick", "_law_same", "_law_name", "_law_odd_name"]
def looseL : List (Str) := looseL0 ++ looseL1
abbrev theRow : PySem.W.OpenRow := PySem.W.OpenLaw.row PySem.Challenge.rw_recordyard_k17_filters_by_names
abbrev theView : Program := PySem.W.view theRow.prog [56]
def obL (s : PySem.W.SharedT) : AlY := obsY FF tfL adrL (HandSHeadRun.getT s)
theorem obL_eq (s : PySem.W.SharedT) : obL s = (hookY adrL FF tfL).obs s.abs := obsY_eq (HandSHeadRun.getT_eq s)
theorem runF (w : World) : HandSHeadRun.RunEq theRow theView (hookY adrL FF tfL) obL 30000 looseL (w.withFollow "special-get-raises" false) := by
  intro os
  kernel_rfl
theorem runT (w : World) : HandSHeadRun.RunEq theRow theView (hookY adrL FF tfL) obL 30000 looseL (w.withFollow "special-get-raises" true) := by
  intro os
  kernel_rfl
theorem run (w : World) : HandSHeadRun.RunEq theRow theView (hookY adrL FF tfL) obL 30000 looseL w :=
  PySem.W.byRow2 "special-get-raises" (P := fun w => HandSHeadRun.RunEq theRow theView (hookY adrL FF tfL) obL 30000 looseL w) runF runT w
end My
open PySem PySem.W PySem.Calls PyProof.Rows
theorem PySem.Challenge.cw_recordyard_k17_filters_by_names_holds : PySem.Challenge.rw_recordyard_k17_filters_by_names.Holds := by
  w_on; o_law
  refine HandSHeadRun.head_any (r := OpenLaw.row PySem.Challenge.rw_recordyard_k17_filters_by_names) (q := My.theView) (H := HdF.hookY My.adrL My.FF My.tfL) (ob := My.obL) (M := 30000) (loose := My.looseL) (d := HandSHeadRun.topDef (OpenLaw.row PySem.Challenge.rw_recordyard_k17_filters_by_names).prog 56) (kwd := []) My.obL_eq
    (by kernel_rfl) (fun s => by kernel_rfl) My.run (by kernel_rfl) (by kernel_rfl) (by kernel_rfl) (by rfl) (by first | assumption | decide +kernel) (by decide +kernel) ⟨rfl, rfl, rfl, rfl, rfl, by decide +kernel⟩ ?hw ?hc
  case hw => w_witness2
  case hc =>
    refine LamX.walk_ofTsE (l := PySem.Challenge.rw_recordyard_k17_filters_by_names) (n := 63) (k := 9) (x := "_law_script") (CX := fun _ => L2.CX0) rfl (by decide) (by kernel_rfl) ⟨rfl, by decide, by decide⟩ ?F (fun _ _ _ _ _ z => z)
    intro w mg fa h Y G hmg0
    obtain ⟨K, KX, c⟩ := Y
    have hmg : mg ("law" : PySem.Str) = some (.ref fa) := by
      have e : (HandSHeadRun.topDef (OpenLaw.row PySem.Challenge.rw_recordyard_k17_filters_by_names).prog 56).name = ("law" : PySem.Str) := by kernel_rfl
      rw [← e]
      exact hmg0
    obtain ⟨fd, hb, hF⟩ := My.facts (P := (PySem.Challenge.rw_recordyard_k17_filters_by_names).prog) (w := w) KX G hmg c.f (by kernel_rfl) (by kernel_rfl)
    refine ⟨K, KX, fd, My.tfL.map (He.cT K), My.spLaw K (He.cT K ("is_part", none)).2 (He.cT K ("is_dotted", none)).2, fun p hp => ?_, fun p hp => ?_, fun p hp => ?_, hb, fun H a ns _ _ hH hS => .a ⟨a, ns, rfl, hS, HdF.tabG_new (hH _ List.mem_cons_self), HdF.tabG_new (hH _ (List.mem_cons_of_mem _ List.mem_cons_self)), fun _ => rfl⟩, hF⟩
    all_goals obtain ⟨q, hq, rfl⟩ := List.mem_map.mp hp
    · exact c.empty q hq
    · exact c.out q hq
    · exact PySem.W.codeHd_of_K KX (c.hd q hq)
