import PyProof.Rows.All
import Wide.All
import OpenK.AllK
import Wide.FinOn
import KE.KSuper
import HandS.Base
import HandS.Call
import HandS.Nested
import HandS.NestedK
import HandS.Words
import HandS.Codes
import HandS.More
import HandS.Dict
import HandS.ForMost
import HandS.ExcInit
import HandS.IsInst
import HandS.ExcIs
import HandS.ExcValue
import HandS.HotCalls
import HandS.ForExc
import HandS.Defaults
import HandS.Ends
import HandS.Head0
import HandS.Head1
import HandS.Head2
import HandS.HeadEnd
import HandS.HeadHook1
import HandS.HeadHook2
import HandS.AnyAll
import HandS.GenList
import HandS.Text
import HandS.StrMore
import PyProof.StrLawsFrom
import PyProof.StrLawsLast
import PyProof.MeetsStr3
import PyProof.InstEq
import PyProof.NeKinds
import OpenK.KOwn
import HandS.HeadHook4
import HandS.HeadWalk
import HandS.TryMany
import HandS.ReplaceLit
import HandS.ReplaceList
import KE.KDictZip
import HandS.Walk
import HandS.Zip
import HandS.Style
import HandS.MakeKw
import HandS.Sort
import HandS.List
import PyProof.DictUpdate
import KE.KDictList
import HandS.Small
import PySem.Challenge.RW_recordyard_k24_bars_and_disabled
set_option Elab.async false
set_option linter.all false
set_option maxRecDepth 100000
set_option maxHeartbeats 4000000
/-! super().m(..) in a method of a plain class: a def whose one free name is __class__ -/
namespace SuX
open PySem PySem.Spec PySem.Calls PyProof.Rows L2 LamX NdefX PySem.W
section
variable {X : Cx} {body : List Stmt} {st : Stmt} {rest : List Stmt} {t u : TS} {e : Expr} {te : TE} {pos : Pos}
/-- an expression, a statement, a block, run by the def's own code -/
structure PEA (X : Cx) (body : List Stmt) (e : Expr) (t : TE) : Prop where
  run : ∀ (pins : List (Addr × Obj)) (s : Shared) (σ : L2.St) (H : Hp) (Q : VK), Inv X pins σ H s → t σ H Q → _root_.PySem.wpAt (model X.prog X.w) X.A (.func body X.env) (eval e X.env) (EP X pins σ Q) X.xe s
structure PSA (X : Cx) (body : List Stmt) (st : Stmt) (t : TS) : Prop where
  run : ∀ (pins : List (Addr × Obj)) (s : Shared) (σ : L2.St) (H : Hp) (D : Ends), Inv X pins σ H s → t D σ H → _root_.PySem.wpAt (model X.prog X.w) X.A (.func body X.env) (exec st X.env) (SP X pins D) X.xe s
structure PSsA (X : Cx) (body : List Stmt) (l : List Stmt) (t : TS) : Prop where
  run : ∀ (pins : List (Addr × Obj)) (s : Shared) (σ : L2.St) (H : Hp) (D : Ends), Inv X pins σ H s → t D σ H → _root_.PySem.wpAt (model X.prog X.w) X.A (.func body X.env) (execs l X.env) (SP X pins D) X.xe s
theorem PSA.of (h : PS X st t) : PSA X body st t := ⟨fun pins s σ H D I q => wpAt_of_wpAny (h.run pins s σ H D I q)⟩
theorem PSsA.of (h : PSs X rest t) : PSsA X body rest t := ⟨fun pins s σ H D I q => wpAt_of_wpAny (h.run pins s σ H D I q)⟩
theorem pssA_cons (h1 : PSA X body st t) (h2 : PSsA X body rest u) : PSsA X body (st :: rest) (tSeq t u) := by
  refine ⟨fun pins s σ H D I h => ?_⟩
  refine ks_wpAt_execs_cons (ks_wpAt_mono (h1.run pins s σ H { D with nx := u D } I h) (fun f s1 q => ?_) fun _ _ x => x)
  cases f with
  | next =>
    obtain ⟨σ', H', I', q⟩ := q
    exact h2.run pins s1 σ' H' D I' q
  | ret v => exact q
  | brk => exact q
  | cont => exact q
theorem pssA_one (h1 : PSA X body st t) : PSsA X body [st] t := by
  refine ⟨fun pins s σ H D I h => ?_⟩
  refine ks_wpAt_execs_cons (ks_wpAt_mono (h1.run pins s σ H D I h) (fun f s1 q => ?_) fun _ _ x => x)
  cases f with
  | next => exact wpAt_of_wpAny (wpAny_execs_nil q)
  | ret v => exact q
  | brk => exact q
  | cont => exact q
theorem psA_expr (he : PEA X body e te) (hs : swapsWith e none pos.line X.env = pure false := by rfl) : PSA X body (.Expr e pos) (tDrop te) := by
  refine ⟨fun pins s σ H D I h => ?_⟩
  exact ks_wpAt_Expr_any (ks_wpAt_mono (he.run pins s σ H _ I h) (fun v s1 ⟨x, H1, I1, r1, q1⟩ => ⟨σ, H1, I1, q1⟩) fun _ _ x => x) I.quiet hs
theorem psA_ret (he : PEA X body e te) : PSA X body (.Return (some e) pos) (tRet te) := by
  refine ⟨fun pins s σ H D I h => ?_⟩
  exact ks_wpAt_Return_some (ks_wpAt_mono (he.run pins s σ H _ I h) (fun v s1 ⟨x, H1, I1, r1, q1⟩ => ⟨x, σ, H1, I1, r1, q1⟩) fun _ _ x => x)
end

/-- what the running def is: its object, its code, the cell that holds its class D -/
structure SupD (X : Cx) (D : Addr) (sf : Str) : Prop where
  fn : ∃ (f : Addr) (oc : Value) (od : Option Addr) (fd : FuncData) (osl : Array (Option Value)) (ar : Arg), X.env.func = some f ∧ X.K.lookup f = some ⟨oc, od, .func fd, osl⟩ ∧ (fd.params.posonlyargs ++ fd.params.args).head? = some ar ∧ ar.arg = sf
  code : ∃ (cda : Addr) (ccl : Value) (cdd : Option Addr) (vs : Array Value) (ccs : Array (Option Value)) (file : Str) (tf : Tok), X.env.code = .ref cda ∧ X.K.lookup cda = some ⟨ccl, cdd, .fields vs, ccs⟩ ∧ vs[2]? = some (.str file tf) ∧ ((X.prog.main.file : Str) == file) = true
  cell : ∃ (cc : Addr) (cl : Value) (cld : Option Addr) (csl : Array (Option Value)), X.env.cells.lookup ("__class__" : Str) = some cc ∧ X.K.lookup cc = some ⟨cl, cld, .cell (some (.ref D)), csl⟩
  cls : (clsIn X.K D).isSome = true
  sup : X.mg "super" = none
  top : (X.prog.main.scope.names.lookup ("super" : Str)).isSome = false
  ks : X.env.kindOf "super" = some .globalImplicit
  kc : X.env.kindOf "__class__" = some .free
  kf : X.env.kindOf sf = some .local
/-- the method m that is found behind D for an instance of the class at C -/
structure SupM (K : Frag) (D C : Addr) (m : Str) (f2 : Addr) : Prop where
  cls : (clsIn K C).isSome = true
  sub : mroIn K C (.ref D) = some true
  opq : nsIn K cStatics "thirdparty.any" = some none
  meth : ks_superIn K C D m = some (some (.ref f2))
  ty : typeIn K (.ref f2) = some (.type "function")
  fn : fnIn K f2 = true
/-- super().m(..): self stands in the slot i, an instance of the class at C -/
def tSup (C : Addr) (i : Nat) (sp : Sp) (dvs : List V) (E : XK) (t : TA) : TE := fun σ H Q => ∃ a dx fs, σ[i]? = some (some (.ref a)) ∧ H a = some (.ins C dx fs) ∧ t σ H fun vs H2 => sp (.ref a :: (vs ++ dvs)) H2 Q E

section
variable {X : Cx} {CX : CXT} {k i : Nat} {D C f2 : Addr} {fd2 : FuncData} {ps : List Str} {sp : Sp} {dvs : List V} {ds : List Value} {E : XK} {m sf : Str} {p0 p1 pos apos : Pos} {e : Expr} {es : List Expr} {t : TA} {body : List Stmt}
theorem data_of {K : Frag} {h : Heap} {D : Addr} {cd : ClassData} (Y : K.In h) (hD : clsIn K D = some cd) : ∃ oD, h.get? D = some oD ∧ oD.data = .cls cd := by
  unfold clsIn at hD
  split at hD
  · rename_i c d cd' sl ho
    cases hD
    exact ⟨_, Y _ _ ho, rfl⟩
  · cases hD
/-- behind super(): the bound method stands at q -/
theorem sup_meth {pl : Sem Bool} {pins : List (Addr × Obj)} {σ : L2.St} {H : Hp} {s : Shared} {a dx : Addr} {fs : List (Str × V)} {Q : Value × List Value → Shared → Prop} {so : Addr} {E' : Value → Shared → Prop} {A' : Around}
    (M : SupM X.K D C m f2) (I : Inv X pins σ H s) (ha : H a = some (.ins C dx fs)) (hso : s.heap.get? so = some (ks_superObj D a C)) (hn : (m == ("__class__" : Str)) = false)
    (h : ∀ q s', Inv X ((q, methodObj (.ref f2) (.ref a)) :: pins) σ H s' → Q (.ref q, []) s') : wpAny (model X.prog X.w) A' (getMethod (.ref so) m pl) Q E' s := by
  have Y := I.kIn
  obtain ⟨hh, g, d, tk, os⟩ := s
  obtain ⟨cd, hc⟩ := Option.isSome_iff_exists.mp M.cls
  have hm := M.meth
  unfold ks_superIn at hm
  rw [hc] at hm
  obtain ⟨of, hof, hofc⟩ : ∃ of, hh.get? f2 = some of ∧ of.cls = .type "function" := by
    have ht' : (X.K.lookup f2).map (·.cls) = some (.type "function") := M.ty
    cases z : X.K.lookup f2 with
    | none => rw [z] at ht'; cases ht'
    | some of => rw [z] at ht'; exact ⟨of, Y _ _ z, Option.some.inj ht'⟩
  obtain ⟨mA, O, r, _, _, _⟩ := ins_get I.hok ha
  have hbC : a ≠ C := by
    rintro rfl
    obtain ⟨oC, hoC, hdC⟩ := data_of Y hc
    have hob := O.obj
    rw [hoC] at hob
    cases hob
    cases hdC
  refine ks_wpAny_getMethod_super hso (looks_opaque Y M.opq) (l₀ := cd.mro) (fun A Q E s k q => wpAny_bind ((looks_clsIn Y hc) A _ E s k (wpAny_pure q))) rfl Y hm hof hofc hbC hn ?_
  refine h _ _ ?_
  have I1 : Inv X pins σ H ⟨hh.push { cls := .type "method", data := .fields #[.ref f2, .ref a] }, g, d, tk + 1, os⟩ := I.kept (t' := tk + 1) fun b u z => Heap.get?_push_of_some _ z
  refine I1.pins_of fun p hp => ?_
  rcases List.mem_cons.mp hp with rfl | hp
  · refine ⟨Heap.get?_push_at rfl rfl, I.hok.fresh (Nat.le_refl _), fun z => ?_, I.nofs (Nat.le_refl _), fun v z => by cases z⟩
    exact absurd I.lt (by rw [← z]; exact Nat.lt_irrefl _)
  · exact I1.pin p (List.mem_append_right _ hp)
/-- self's value in its slot -/
theorem self_at {pins : List (Addr × Obj)} {σ : L2.St} {H : Hp} {s : Shared} {a : Addr} (I : Inv X pins σ H s) (hN : X.N[i]? = some sf) (hs : σ[i]? = some (some (.ref a))) (hk : X.env.kindOf sf = some .local) :
    ∃ mm, s.heap.Ns X.env.locals mm ∧ mm sf = some (.ref a) := by
  obtain ⟨mm, hn, hl⟩ := I.loc
  obtain ⟨u, ru, lk⟩ := hl i sf (.ref a) hN hs (.inl hk)
  cases (show u = Value.ref a from ru)
  rcases lk with ⟨_, hm⟩ | ⟨hk', _⟩
  · exact ⟨mm, hn, hm⟩
  · rw [hk] at hk'
    rcases hk' with z | z <;> cases z
/-- super() -/
theorem sup_base {pins : List (Addr × Obj)} {σ : L2.St} {H : Hp} {s : Shared} {a dx : Addr} {fs : List (Str × V)} {Q : Value → Shared → Prop} {whole : Sem Value}
    (S : SupD X D sf) (M : SupM X.K D C m f2) (I : Inv X pins σ H s) (hN : X.N[i]? = some sf) (hs : σ[i]? = some (some (.ref a))) (ha : H a = some (.ins C dx fs)) (hn : (m == ("__class__" : Str)) = false)
    (h : ∀ so s', Inv X pins σ H s' → s'.heap.get? so = some (ks_superObj D a C) → Q (.ref so) s') :
    _root_.PySem.wpAt (model X.prog X.w) X.A (.func body X.env) (attributeBase (.Call (.Name "super" p0) [] [] p1) m X.env whole) Q X.xe s := by
  have Y := I.kIn
  obtain ⟨hh, g, d, tk, os⟩ := s
  obtain ⟨f, oc, od, fd, osl, ar, hfu, hf, har, hsf⟩ := S.fn
  obtain ⟨cda, ccl, cdd, vs, ccs, file, tf, hco, hcode, hvs, hfile⟩ := S.code
  obtain ⟨cc, cl, cld, csl, hcl, hcell⟩ := S.cell
  obtain ⟨cdD, hD⟩ := Option.isSome_iff_exists.mp S.cls
  obtain ⟨oD, hD1, hD2⟩ := data_of Y hD
  obtain ⟨mA, O, r, _, _, _⟩ := ins_get I.hok ha
  obtain ⟨mm, hns, hv⟩ := self_at I hN hs S.kf
  refine ks_wpAt_super_base (prog := X.prog) (w := X.w) S.ks S.kc hn hfu (Y _ _ hf) rfl har hco (Y _ _ hcode) rfl hvs hfile S.top ?_
  obtain ⟨mb, hb1, hb2⟩ := I.mod.blt
  refine ks_loadName_global I.ok.kind S.ks (Calls.loadGlobal_builtin (by rw [I.ok.glob]; exact I.mod.glob.keeps I.bk) S.sup (by rw [I.ok.blt]; exact hb1.keeps I.bk) ((hb2 "super" (by decide)).trans (show bootBuiltins "super" = some (.type "super") by decide +kernel)) ⟨rfl, ?_⟩)
  refine wpAny_loadName_free I.ok.kind S.kc hcl ⟨_, Y _ _ hcell, rfl⟩ ?_
  rw [hsf]
  refine wpAny_loadName_local I.ok.kind S.kf hns hv ?_
  refine ks_wpAny_isType_cls hD1 hD2 ⟨rfl, ?_⟩
  refine ks_wpAny_call_super hD1 hD2 O.obj rfl (fun c z => by cases z) (looks_mroIn Y M.sub) (fun h' e k => ?_)
  exact h _ _ (I.kept (t' := tk) k) e
/-- the method behind super() runs -/
theorem sup_run {pins : List (Addr × Obj)} {σ : L2.St} {H : Hp} {s : Shared} {Q : VK} {a q : Addr} {us : List Value} {vs : List V} (F : FnOk X.prog X.w X.K X.mg X.base CX k f2 fd2 ps sp) (hr : Room k X.A) (hb : Binds X.K fd2 ps ds) (hd : Vals dvs ds) (hx : Passes CX X E)
    (I : Inv X ((q, methodObj (.ref f2) (.ref a)) :: pins) σ H s) (r : Vals vs us) (h : sp (.ref a :: (vs ++ dvs)) H Q E) : wpAny (model X.prog X.w) X.A (call (.ref q) us) (EP X pins σ Q) X.xe s := by
  have I0 : Inv X pins σ H s := I.pins_of fun p hp => I.pin p (List.mem_append_right _ (List.mem_cons_of_mem _ hp))
  have hq : s.heap.get? q = some (methodObj (.ref f2) (.ref a)) := (I.pin _ (List.mem_append_right _ List.mem_cons_self)).1
  have r2 : Vals (V.ref a :: (vs ++ dvs)) (Value.ref a :: (us ++ ds)) := .cons rfl (r.append hd)
  have hl : (Value.ref a :: us ++ ds).length = ps.length := by
    have e := r2.length
    rw [F.len _ _ _ _ h] at e
    exact e.symm
  refine wpAny_call (ks_codeAny_call_bound hq (codeAny_mono (F.run X.A X.stack s H ⟨Value.ref a :: us, []⟩ (Value.ref a :: (us ++ ds)) (V.ref a :: (vs ++ dvs)) Q E hr I0.env0 (hb s (Value.ref a :: us) I.kIn hl) r2 h) fun r s' hq => ?_))
  cases r with
  | error e => exact hx pins σ H s e s' I0 hq
  | ok fl =>
    cases fl with
    | ret u => exact I0.after hq
    | next => exact False.elim hq
    | brk => exact False.elim hq
    | cont => exact False.elim hq
/-- super().m(e, ..) -/
theorem peA_sup {pl : Sem Bool} (S : SupD X D sf) (M : SupM X.K D C m f2) (F : FnOk X.prog X.w X.K X.mg X.base CX k f2 fd2 ps sp) (hr : Room k X.A) (hb : Binds X.K fd2 ps ds) (hd : Vals dvs ds) (hx : Passes CX X E) (hN : X.N[i]? = some sf) (ha : PA X (e :: es) t)
    (hn : (m == ("__class__" : Str)) = false := by decide) (hst : starEach (e :: es) X.env = (false, eval e X.env) :: starEach es X.env := by rfl) (hpl : (backTo pos (starEach es X.env)).any (·.1) = false := by rfl)
    (ht : eval (.Call (.Attribute (.Call (.Name "super" p0) [] [] p1) m apos) (e :: es) [] pos) X.env = (do
      let ov ← attributeBase (.Call (.Name "super" p0) [] [] p1) m X.env (eval (.Call (.Name "super" p0) [] [] p1) X.env)
      standAt apos.atName
      let (f, first) ← holding [ov] (getMethod ov m pl)
      callWith pos f first (backTo pos (starEach (e :: es) X.env)) []) := by rfl) :
    PEA X body (.Call (.Attribute (.Call (.Name "super" p0) [] [] p1) m apos) (e :: es) [] pos) (tSup C i sp dvs E t) := by
  refine ⟨fun pins s σ H Q I h => ?_⟩
  obtain ⟨a, dx, fs, hs, hH, h⟩ := h
  refine ks_wpAt_MethodCall (sup_base S M I hN hs hH hn fun so s1 I1 hso => ?_) ht
  refine sup_meth M I1 hH hso hn fun q s2 I2 => ?_
  rw [hst]
  refine callWith_of (P := MethP X.K q f2 (.ref a)) (by show ((false || (backTo pos (starEach es X.env)).any (·.1)) || false) = false; rw [hpl]; rfl) (keeps_M M.fn) (evalArgs_plain ?_)
  have hp := ha.run pos ((q, methodObj (.ref f2) (.ref a)) :: pins) s2 σ H _ I2 h
  rw [hst] at hp
  refine thn hp fun us s3 ⟨vs, H3, I3, r3, q3⟩ => ⟨⟨(I3.pin _ (List.mem_append_right _ List.mem_cons_self)).1, I3.kIn⟩, ?_⟩
  exact sup_run F hr hb hd hx I3 r3 q3
/-- super().m() -/
theorem peA_sup0 {pl : Sem Bool} (S : SupD X D sf) (M : SupM X.K D C m f2) (F : FnOk X.prog X.w X.K X.mg X.base CX k f2 fd2 ps sp) (hr : Room k X.A) (hb : Binds X.K fd2 ps ds) (hd : Vals dvs ds) (hx : Passes CX X E) (hN : X.N[i]? = some sf)
    (hn : (m == ("__class__" : Str)) = false := by decide)
    (ht : eval (.Call (.Attribute (.Call (.Name "super" p0) [] [] p1) m apos) [] [] pos) X.env = (do
      let ov ← attributeBase (.Call (.Name "super" p0) [] [] p1) m X.env (eval (.Call (.Name "super" p0) [] [] p1) X.env)
      standAt apos.atName
      let (f, first) ← holding [ov] (getMethod ov m pl)
      callWith pos f first (backTo pos (starEach [] X.env)) []) := by rfl) :
    PEA X body (.Call (.Attribute (.Call (.Name "super" p0) [] [] p1) m apos) [] [] pos) (tSup C i sp dvs E tNil) := by
  refine ⟨fun pins s σ H Q I h => ?_⟩
  obtain ⟨a, dx, fs, hs, hH, h⟩ := h
  refine ks_wpAt_MethodCall (sup_base S M I hN hs hH hn fun so s1 I1 hso => ?_) ht
  refine sup_meth M I1 hH hso hn fun q s2 I2 => ?_
  refine callWith_M0 ⟨(I2.pin _ (List.mem_append_right _ List.mem_cons_self)).1, I2.kIn⟩ M.fn ?_
  exact sup_run (us := []) F hr hb hd hx I2 .nil h
end

/-! ### the def itself: its body is read in the context of a def whose one free name is __class__ -/
section
variable {CX : CXT} {P : Program} {w : World} {K : Frag} {mg : Str → Option Value} {base : Heap} {N ps : List Str} {f D cc cda : Addr} {k : Nat} {sp : Sp} {name qual : Str} {params : Arguments} {body : List Stmt} {scope : Scope} {dV kV doc pm ct oc ccl cl : Value} {an od cld : Option Addr} {osl csl : Array (Option Value)}
/-- the context -/
abbrev nfS (name qual : Str) (params : Arguments) (body : List Stmt) (scope : Scope) (cc cda : Addr) : NF := ⟨name, qual, params, body, scope, [("__class__", cc)], cda⟩
theorem cells_one {w : World} {h : Heap} {H : Hp} (hc : h.get? cc = some (⟨cl, cld, .cell (some (.ref D)), csl⟩ : Obj)) (hH : H cc = none) : CellsAt [(("__class__" : Str), cc)] ["__class__"] [some (V.ref D)] h H := by
  have one : ∀ (y : Str) (c : Addr), List.lookup y [(("__class__" : Str), cc)] = some c → y = "__class__" ∧ c = cc := by
    intro y c e
    have m := PySem.mem_of_lookup e
    simp only [List.mem_singleton, Prod.mk.injEq] at m
    exact m
  refine ⟨rfl, fun y c e => ?_, fun x y c a b => ?_, fun i y hi => ?_⟩
  · obtain ⟨_, rfl⟩ := one y c e
    exact ⟨hH, _, _, hc, rfl⟩
  · rw [(one x c a).1, (one y c b).1]
  · cases i with
    | zero =>
      cases (show some ("__class__" : Str) = some y from hi)
      refine ⟨cc, rfl, fun v hv => ?_⟩
      cases (show some (some (V.ref D)) = some (some v) from hv)
      exact ⟨.ref D, rfl, _, hc, rfl⟩
    | succ i => cases (show (none : Option Str) = some y from hi)
/-- THE RULE for a def with super() -/
theorem fn_ofS (lk : K.lookup f = some ⟨oc, od, .func (fnX name qual params body scope [("__class__", cc)] dV kV doc pm an (.ref cda) ct), osl⟩) (hcd : codeIn K (.ref cda) qual = true) (S : NScope N ps ["__class__"] scope)
    (hcell : K.lookup cc = some ⟨cl, cld, .cell (some (.ref D)), csl⟩) (len : ∀ vs H Q E, sp vs H Q E → vs.length = ps.length)
    (hbody : ∀ (A : Around) (outer : List Env) (s : Shared) (H : Hp) (vs : List V) (Q : VK) (E : XK), Room k (A.deeper (envF (nfS name qual params body scope cc cda) f s.heap.objs.size)) → sp vs H Q E →
      ∃ t, PSsA (ncx CX P w K mg base N (nfS name qual params body scope cc cda) f A outer s H E) body body t ∧ t { nx := fun _ H' => Q .non H', rt := Q } (startF N vs [some (V.ref D)]) H) :
    FnOk P w K mg base CX (k + 1) f (fnX name qual params body scope [("__class__", cc)] dV kV doc pm an (.ref cda) ct) ps sp := by
  refine ⟨len, fun A outer s H args us vs Q E hr e0 hb r hsp => ?_⟩
  have KX : K.In s.heap := e0.mod.kin.keeps fun b o e => (e0.bs b o e).1
  have hl := len _ _ _ _ hsp
  have lim : s.heap.NoLimit := e0.mod.nolimit.keeps fun b o e => (e0.bs b o e).1
  have C : CellsAt [(("__class__" : Str), cc)] ["__class__"] [some (V.ref D)] s.heap H := cells_one (w := w) (KX _ _ hcell) (e0.bs _ _ (e0.mod.kin _ _ hcell)).2
  refine ks_codeAny_call_defAt (binds := ps.zip us) (body := body) hr.depth (KX _ _ lk) rfl lim (codeRec_of KX hcd) rfl hb S.nocell (fun x hx => S.par x.1 (List.of_mem_zip (a := x.1) (b := x.2) hx).1) (fun h₁ hns kp => ?_) S.co S.gen S.kind
  obtain ⟨t, ht, hq⟩ := hbody A outer s H vs Q E (hr.deeper _) hsp
  have I : Inv (ncx CX P w K mg base N (nfS name qual params body scope cc cda) f A outer s H E) [] (startF N vs [some (V.ref D)]) H { s with heap := h₁, toks := s.toks + (ps.zip us).length } := inv_startN (F := nfS name qual params body scope cc cda) S hr.hd e0 hl r C hns kp
  refine ks_wpAt_mono (ht.run [] _ (startF N vs [some (V.ref D)]) H _ I hq) (fun fl s' hs => ?_) fun e s' hs => hs
  have fin : ∀ {σ' : L2.St} {H' : Hp} {v : V} {u : Value}, Inv (ncx CX P w K mg base N (nfS name qual params body scope cc cda) f A outer s H E) [] σ' H' s' → L2.RelV v u → Q v H' → CE outer P w H s Q u s' :=
    fun {σ' H' v u} J rv q => ⟨v, H', J.os, J.bare, J.base, J.hok, rv, q⟩
  cases fl with
  | ret u =>
    obtain ⟨v, σ', H', J, rv, q⟩ := hs
    exact fin J rv q
  | next =>
    obtain ⟨σ', H', J, q⟩ := hs
    exact fin (v := V.non) (u := Value.none) J rfl q
  | brk =>
    obtain ⟨_, _, _, q⟩ := hs
    exact False.elim q
  | cont =>
    obtain ⟨_, _, _, q⟩ := hs
    exact False.elim q
end
end SuX

namespace SuX
open PySem PySem.Spec PySem.Calls PyProof.Rows L2 LamX NdefX PySem.W
theorem PSsA.nox {X : Cx} {body st : List Stmt} {t : TS} (h : PSsA X.nox body st t) : PSsA X body st t := ⟨fun pins s σ H D I hw =>
  ks_wpAt_mono (h.run pins s σ H D (I.wish _) hw) (fun _ _ q => q.unwish) fun _ _ z => False.elim z⟩
/-- a method with super(), as it stands behind the top -/
structure SupF (K : Frag) (file m qual : Str) (st : Stmt) (f : Addr) (fd : FuncData) (D : Addr) : Prop where
  ex : ∃ (oc cl ccl : Value) (od cld cdd : Option Addr) (dV kV doc pm : Value) (an : Option Addr) (cda cc : Addr) (ct : Value) (osl csl ccs : Array (Option Value)) (vs : Array Value) (tf : Tok),
    fd = fnX m qual (defArgs st) (defBody st) (defScope st) [("__class__", cc)] dV kV doc pm an (.ref cda) ct ∧ K.lookup f = some ⟨oc, od, .func fd, osl⟩ ∧ codeIn K (.ref cda) qual = true ∧
      K.lookup cc = some ⟨cl, cld, .cell (some (.ref D)), csl⟩ ∧ K.lookup cda = some ⟨ccl, cdd, .fields vs, ccs⟩ ∧ vs[2]? = some (.str file tf)
  kp : keepIn K (.ref f) = true
  cls : (clsIn K D).isSome = true
/-- what super() asks of the module -/
structure TopS (P : Program) (mg : Str → Option Value) (file : Str) : Prop where
  file : ((P.main.file : Str) == file) = true
  top : (P.main.scope.names.lookup ("super" : Str)).isSome = false
  sup : mg "super" = none
section
variable {P : Program} {w : World} {K : Frag} {mg : Str → Option Value} {base : Heap}
theorem SupF.ok {CX : CXT} {file m qual sf : Str} {st : Stmt} {f D : Addr} {fd : FuncData} {N ps : List Str} {k : Nat} {sp : Sp} {ar : Arg} (F : SupF K file m qual st f fd D) (hP : TopS P mg file) (S : NScope N ps ["__class__"] (defScope st))
    (har : ((defArgs st).posonlyargs ++ (defArgs st).args).head? = some ar) (hsf : ar.arg = sf) (hks : (defScope st).names.lookup ("super" : Str) = some .globalImplicit) (hkc : (defScope st).names.lookup ("__class__" : Str) = some .free)
    (hkf : (defScope st).names.lookup sf = some .local) (len : ∀ vs H Q E, sp vs H Q E → vs.length = ps.length)
    (hbody : ∀ (cc cda : Addr) (A : Around) (outer : List Env) (s : Shared) (H : Hp) (vs : List V) (Q : VK) (E : XK), Room k (A.deeper (envF (nfS m qual (defArgs st) (defBody st) (defScope st) cc cda) f s.heap.objs.size)) → sp vs H Q E →
      ∃ t, (SupD (ncx CX P w K mg base N (nfS m qual (defArgs st) (defBody st) (defScope st) cc cda) f A outer s H E) D sf → PSsA (ncx CX P w K mg base N (nfS m qual (defArgs st) (defBody st) (defScope st) cc cda) f A outer s H E) (defBody st) (defBody st) t) ∧
        t { nx := fun _ H' => Q .non H', rt := Q } (startF N vs [some (V.ref D)]) H) : FnOk P w K mg base CX (k + 1) f fd ps sp := by
  obtain ⟨oc, cl, ccl, od, cld, cdd, dV, kV, doc, pm, an, cda, cc, ct, osl, csl, ccs, vs, tf, rfl, lk, hcd, hcell, hcode, hvs⟩ := F.ex
  refine fn_ofS lk hcd S hcell len fun A outer s H vs' Q E hr hsp => ?_
  obtain ⟨t, h, q⟩ := hbody cc cda A outer s H vs' Q E hr hsp
  refine ⟨t, h ⟨⟨f, oc, od, _, osl, ar, rfl, lk, har, hsf⟩, ⟨cda, ccl, cdd, vs, ccs, file, tf, rfl, hcode, hvs, hP.file⟩, ⟨cc, cl, cld, csl, ?_, hcell⟩, F.cls, hP.sup, hP.top, hks, hkc, hkf⟩, q⟩
  rfl
theorem SupF.ok0 {file m qual sf : Str} {st : Stmt} {f D : Addr} {fd : FuncData} {N ps : List Str} {k : Nat} {sp : Sp} {ar : Arg} (F : SupF K file m qual st f fd D) (hP : TopS P mg file) (S : NScope N ps ["__class__"] (defScope st))
    (har : ((defArgs st).posonlyargs ++ (defArgs st).args).head? = some ar) (hsf : ar.arg = sf) (hks : (defScope st).names.lookup ("super" : Str) = some .globalImplicit) (hkc : (defScope st).names.lookup ("__class__" : Str) = some .free)
    (hkf : (defScope st).names.lookup sf = some .local) (len : ∀ vs H Q E, sp vs H Q E → vs.length = ps.length)
    (hbody : ∀ (cc cda : Addr) (A : Around) (outer : List Env) (s : Shared) (H : Hp) (vs : List V) (Q : VK) (E : XK), Room k (A.deeper (envF (nfS m qual (defArgs st) (defBody st) (defScope st) cc cda) f s.heap.objs.size)) → sp vs H Q E →
      ∃ t, (SupD (ncx CX0 P w K mg base N (nfS m qual (defArgs st) (defBody st) (defScope st) cc cda) f A outer s H E).nox D sf → PSsA (ncx CX0 P w K mg base N (nfS m qual (defArgs st) (defBody st) (defScope st) cc cda) f A outer s H E).nox (defBody st) (defBody st) t) ∧
        t { nx := fun _ H' => Q .non H', rt := Q } (startF N vs [some (V.ref D)]) H) : FnOk P w K mg base CX0 (k + 1) f fd ps sp := by
  obtain ⟨oc, cl, ccl, od, cld, cdd, dV, kV, doc, pm, an, cda, cc, ct, osl, csl, ccs, vs, tf, rfl, lk, hcd, hcell, hcode, hvs⟩ := F.ex
  refine fn_ofS lk hcd S hcell len fun A outer s H vs' Q E hr hsp => ?_
  obtain ⟨t, h, q⟩ := hbody cc cda A outer s H vs' Q E hr hsp
  refine ⟨t, (h ⟨⟨f, oc, od, _, osl, ar, rfl, lk, har, hsf⟩, ⟨cda, ccl, cdd, vs, ccs, file, tf, rfl, hcode, hvs, hP.file⟩, ⟨cc, cl, cld, csl, ?_, hcell⟩, F.cls, hP.sup, hP.top, hks, hkc, hkf⟩).nox, q⟩
  rfl
end
/-- a class of the module: its instances' fields -/
structure OC (K : Frag) (C : Addr) (fs : List Str) : Prop where
  cl : Cls K C
  na : ∀ f ∈ fs, NoAttr K C f
end SuX

namespace SuX
open PySem PySem.Spec PySem.Calls PyProof.Rows L2
/-- a dict of the module that never changes, as the top left it -/
def DKc (K : PySem.W.Frag) (P : Program) (w : World) (a : Addr) (kvs : List (Key × V)) : Prop :=
  kvs.length ≤ sizeLine ∧ (a == sysModules) = false ∧ ∃ vs, KV kvs vs ∧ ∀ h : Heap, K.In h → h.DictOf (mixKind P w) a vs
section
variable {X : Cx}
/-- dict(d), d a dict of the module -/
theorem call_dictK : CallR X (.type "dict") (fun xs H Q => ∃ (a : Addr) (kvs : List (Key × V)), xs = [.ref a] ∧ DKc X.K X.prog X.w a kvs ∧ ∀ p, H p = none → Q (.ref p) (upd H p (.dK kvs))) := by
  intro pins s σ H xs us Q I r q
  obtain ⟨a, kvs, ex, ⟨z, lo, vs, rel, hd⟩, q⟩ := q
  subst ex
  obtain ⟨u, eu, rx⟩ := vals1 r
  subst eu
  cases rx
  have dd := hd s.heap I.kIn
  refine kt_call_dict lo dd (by rw [← rel.length]; exact z) fun h' d' hs => ?_
  have hm : (s.heap.objs.size == sysModules) = false := beq_eq_false_iff_ne.mpr (Nat.ne_of_gt I.big)
  exact ⟨.ref s.heap.objs.size, upd H s.heap.objs.size (.dK kvs), I.laid (t' := s.toks) (fun b u e => (hs.2 b (Nat.ne_of_lt (Heap.lt_size e))).trans (Heap.get?_push_of_some _ e)) (Nat.le_refl _)
    (show ObjOk X.prog X.w _ _ _ (.dK kvs) from ⟨z, hm, vs, rel, d'⟩), rfl, q _ (I.hok.fresh (Nat.le_refl _))⟩
end
end SuX

namespace My
open PySem PySem.W PySem.Calls PyProof.Rows PySem.HandSPX
section
variable {prog : Program} {w : World} {A : Around} {M : Model} {E : Value → Shared → Prop} {R : Result → Shared → Prop} {h : Heap} {g : Array GenState} {d : Drawn} {t : Nat} {os : OsState}
variable {nm q : Str} {C N : Addr} {bs bm bmB : List Value} {hdct : Bool} {sn : List Str} {sub : List Value} {ab : Bool} {col : Option Bool} {dd : Option Addr} {k0 k1 k2 k3 k5 : Option Value} {B newId initId : String}
theorem chk_new_kw (F : ExcBaseFacts B newId initId bmB) (hT : ∀ X : String, bm.contains (.type X) = bmB.contains (.type X)) {rest : List Value}
    {kw : List (Str × Value)} {Q : Unit → Shared → Prop} (hC : h.get? C = some (excClassObj nm q C N bs bm hdct sn sub ab col dd k0 k1 k2 k3 k5 newId))
    (hq : Q () ⟨h, g, d, t, os⟩) :
    wpAny M A (checkBuiltinCall newId ⟨.ref C :: rest, kw⟩) Q E ⟨h, g, d, t, os⟩ := by
  have hc : (Value.ref C :: bm).contains (.type B) = true := by
    rw [List.contains_cons, hT, F.hasB, Bool.or_true]
  have hstar := F.noStar
  simp only [checkBuiltinCall, F.newKind, F.newSplit, F.newRow]
  repeat (first
    | refine wpAny_loadPart_at hC ?_
    | (refine wpAny_isSubtype_exc hC ?_; rw [hc])
    | refine wpAny_staticBase_exc hC ?_
    | refine wpAny_madeBy_exc hC ?_
    | simp only [bne_self_eq_false, Bool.false_eq_true, if_false]
    | wp_step)
  exact hq
theorem new_kw (F : ExcBaseFacts B newId initId bmB) (hT : ∀ X : String, bm.contains (.type X) = bmB.contains (.type X)) {rest : List Value}
    {kw : List (Str × Value)} (hC : h.get? C = some (excClassObj nm q C N bs bm hdct sn sub ab col dd k0 k1 k2 k3 k5 newId))
    (hq : R (.ok (.ret (.ref (h.objs.size + 1)))) ⟨(h.push (kdv_tup rest)).push (excO C h.objs.size), g, d, t, os⟩)
    (hrest : rest.length ≤ sizeLine) :
    codeAny (model prog w) A (.builtin newId ⟨.ref C :: rest, kw⟩) R ⟨h, g, d, t, os⟩ := by
  have hends := F.ends
  have h1 : (Value.ref C :: bm).contains (.type B) = true := by
    rw [List.contains_cons, hT, F.hasB, Bool.or_true]
  have h2 : (Value.ref C :: bm).contains (.type "AttributeError") = false := by
    rw [List.contains_cons, hT, F.noAttr]; rfl
  have h3 : (Value.ref C :: bm).contains (.type "NameError") = false := by
    rw [List.contains_cons, hT, F.noName]; rfl
  refine PySem.codeAny_builtinAt F.entry ?_
  unfold Builtin.«BaseException.__new__»
  refine PySem.wpAt_bind ?_
  show PySem.wpAt _ _ _ (stack >>= _) _ _ _
  refine PySem.wpAt_bind (PySem.wpAt_stack fun p below => PySem.wpAt_of_wpAny ?_)
  wp_walk
  refine PySem.wpAt_of_wpAny ?_
  rw [F.owner]
  repeat (first
    | with_reducible refine wpAny_madeHere_exc F.canon hC ?_
    | with_reducible refine wpAny_loadPart_at hC ?_
    | (with_reducible refine wpAny_isSubtype_exc hC ?_; first | rw [h1] | rw [h2] | rw [h3])
    | wp_step)
  show R _ _
  rw [Heap.size_push]
  exact hq
theorem tcall_kw (F : ExcBaseFacts B newId initId bmB) (hT : ∀ X : String, bm.contains (.type X) = bmB.contains (.type X)) {rest : List Value}
    {kw : List (Str × Value)} {fI : Addr} {Q : Fin → Shared → Prop} (hC : h.get? C = some (excClassObj nm q C N bs bm hdct sn sub ab col dd k0 k1 k2 k3 k5 newId))
    (hi : W.Looks (model prog w) h (typeLookup (.ref C) "__init__") (some (.ref fI)))
    (hb : ∀ self, W.Looks (model prog w) h (bindSpecial (.ref fI) self) (.ref fI, [self])) (hrest : rest.length ≤ sizeLine)
    (hq : codeAny (model prog w) A (.call (.ref fI) ⟨.ref (h.objs.size + 1) :: rest, kw⟩)
      (fun r s' => match r with
        | .ok (.ret v) => v = .none ∧ Q (.done (.ret (.ref (h.objs.size + 1)))) s'
        | .ok _ => False
        | .error e => E e s')
      ⟨(h.push (kdv_tup rest)).push (excO C h.objs.size), g, d, t, os⟩) :
    wpAny (model prog w) A (Builtin.«type.__call__» ⟨.ref C :: rest, kw⟩) Q E ⟨h, g, d, t, os⟩ := by
  repeat (first
    | with_reducible refine wpAny_loadPart_at hC ?_
    | with_reducible refine wpAny_madeBy_exc hC ?_
    | wp_step)
  refine codeAny_call_builtin_code (Code.quiet_builtin _ F.quiet) (chk_new_kw F hT hC ?_)
  refine new_kw F hT hC ?_ hrest
  show wpAny _ _ _ _ _ _
  have kp : ∀ b o, h.get? b = some o → ((h.push (kdv_tup rest)).push (excO C h.objs.size)).get? b = some o :=
    fun b o e => Heap.get?_push_of_some _ (Heap.get?_push_of_some _ e)
  have hC1 := kp _ _ hC
  have hg : ((h.push (kdv_tup rest)).push (excO C h.objs.size)).get? (h.objs.size + 1) = some (excO C h.objs.size) := by
    heap_get
  have hcC : (Value.ref C :: bm).contains (.ref C) = true := by simp
  have i1 := hi.keeps kp
  have b1 := (hb (.ref (h.objs.size + 1))).keeps kp
  unfold isInstance
  repeat (first
    | with_reducible refine wpAny_loadPart_at hg ?_
    | (with_reducible refine wpAny_isSubtype_exc hC1 ?_; rw [hcC])
    | wp_step)
  show wpAny _ _ (typeLookup (.ref C) _) _ _ _
  refine i1.at ?_
  refine wpAny_holding (wpAny_bind (b1.at ?_))
  refine wpAny_bind (wpAny_call (codeAny_mono hq fun r s' z => ?_))
  rcases r with e | (v | _ | _ | _) <;> first
    | exact z
    | exact z.elim
    | skip
  obtain ⟨rfl, z⟩ := z
  first
    | exact wpAny_pure (wpAny_pure z)
    | (wp_walk; exact z)
theorem call_kw (F : ExcBaseFacts B newId initId bmB) (hT : ∀ X : String, bm.contains (.type X) = bmB.contains (.type X)) {rest : List Value}
    {kw : List (Str × Value)} {fI : Addr} (hC : h.get? C = some (excClassObj nm q C N bs bm hdct sn sub ab col dd k0 k1 k2 k3 k5 newId))
    (hi : W.Looks (model prog w) h (typeLookup (.ref C) "__init__") (some (.ref fI)))
    (hb : ∀ self, W.Looks (model prog w) h (bindSpecial (.ref fI) self) (.ref fI, [self])) (hrest : rest.length ≤ sizeLine)
    (hq : codeAny (model prog w) (A.under (.builtin "type.__call__" ⟨.ref C :: rest, kw⟩)) (.call (.ref fI) ⟨.ref (h.objs.size + 1) :: rest, kw⟩)
      (W.InitBack (h.objs.size + 1) R) ⟨(h.push (kdv_tup rest)).push (excO C h.objs.size), g, d, t, os⟩) :
    codeAny (model prog w) A (.call (.ref C) ⟨rest, kw⟩) R ⟨h, g, d, t, os⟩ := by
  have f1 := tc_lookup
  have f2 := tc_bind (.ref C)
  have hTy : (⟨h, g, d, t, os⟩ : Shared).TypeIs (.ref C) "type" := ⟨_, hC, rfl⟩
  refine codeAny_of_tree ?_
  show wpAny _ _ (callAny (.ref C) _) _ _ _
  repeat (any_goals (first
    | assumption
    | with_reducible refine wpAny_loadPart_at hC ?_
    | wp_step))
  refine ⟨rfl, ?_⟩
  refine codeAny_call_builtin_at (Code.quiet_builtin _ (by decide +kernel)) entry_typeCall
    (wpAny_check_type_call_sub hC (tcall_kw F hT hC hi hb hrest ?_))
  refine codeAny_mono hq fun r s' z => ?_
  rcases r with e | (v | _ | _ | _) <;> exact z
end
end My

namespace My
open PySem PySem.W PySem.Calls PyProof.Rows PySem.HandSPX
/-! ### isinstance of an exception with a dict of its own -/
section
variable {prog : Program} {w : World} {A : Around} {E : Value → Shared → Prop} {s : Shared} {K : Frag} {x D : Addr} {ox : Obj} {od : Option Obj}
theorem kin_cls (T : L2.ExcC K D) (X : K.In s.heap) (I : InstAt s.heap x ox D od) {Q : Option Value → Shared → Prop}
    (h : Q (some (.ref D)) { s with toks := s.toks + 1 }) :
    wpAny (model prog w) A (getAttr? (.ref x) "__class__") Q E s := by
  have hf : findObj K D od "__class__" = some (.bind (.builtin "getset_descriptor.__get__") (.builtin "object.__class__")) := by
    obtain ⟨cd, hc, _⟩ := any_some T.hd
    unfold findObj
    rw [hc, Option.bind_some, T.ha, Option.bind_some]
    simp [T.hn, T.ht]
  obtain ⟨hp, g, d, t, os⟩ := s
  have L0 := I.type (M := model prog w)
  have L1 := looks_findIn (M := model prog w) X T.hg
  have L2 := looks_findIn (M := model prog w) X T.hk
  have L3 := looks_find (M := model prog w) X I hf
  have su : Looks (model prog w) hp (isInstance (.ref x) (.type "BaseException")) true := L0.andThen (looks_subIn X T.hs)
  have n0 : (false && onTheHeap (Value.builtin "BaseException.__getattribute__")) = false := rfl
  have n2 : (Value.builtin "BaseException.__getattribute__" == Value.builtin "object.__getattribute__") = false := by
    decide +kernel
  have n1 : (onTheHeap (Value.ref D) && Value.builtin "BaseException.__getattribute__" == Value.builtin "object.__getattribute__") = false := by
    rw [n2]; rfl
  unfold getAttr? getAttrBy? getAttrBy
  refine wpAny_bind (wpAny_mkText (wpAny_bind (wpAny_attempt (wpAny_holding (wpAny_bind (L0.at (wpAny_bind (L1.at ?_))))))))
  show wpAny _ _ (if (onTheHeap (Value.ref D) && Value.builtin "BaseException.__getattribute__" == Value.builtin "object.__getattribute__") = true
    then _ else _) _ _ _
  rw [n1, if_neg Bool.false_ne_true]
  unfold getAttrByItsOwn hookBefore
  refine wpAny_bind ?_
  rw [if_pos (show onTheHeap (Value.ref D) = true from rfl)]
  refine L2.at ?_
  refine wpAny_bind (wpAny_attempt (wpAny_holding ?_))
  unfold callGetattribute
  rw [n0, if_neg Bool.false_ne_true]
  unfold boundAndCalled
  rw [PySem.F.excAttr_ValueError.ga.bind (.ref x)]
  refine wpAny_bind (wpAny_pure ?_)
  show wpAny _ _ (call (.builtin "BaseException.__getattribute__") [.ref x, .str "__class__" t]) _ _ _
  refine wpAny_call (codeAny_call_builtin PySem.F.excAttr_ValueError.ga.plain PySem.F.entry_bexc_ga ?_)
  refine @check_slot (model prog w) _ _ ⟨hp, g, d, t + 1, os⟩ "BaseException.__getattribute__" "BaseException" "__getattribute__" (.ref x)
    [.str "__class__" t] [] _ (by decide +kernel) (by decide +kernel) su (PySem.F.args_bexc_ga (.ref x) (.str "__class__" t)) ?_
  unfold Builtin.«object.__getattribute__»
  refine wpAny_bind (wpAny_of_eq (a := ((Value.ref x : Value), [Value.str "__class__" t]))
    (by first | rfl | (simp only [slotArgs]; rfl)) ?_)
  refine wpAny_bind (wpAny_pure (wpAny_bind (L0.at (wpAny_bind (L3.at ?_)))))
  show wpAny _ _ (holding [Value.builtin "object.__class__"]
    (call (.builtin "getset_descriptor.__get__") [.builtin "object.__class__", .ref x, .ref D]) >>= ret) _ _ _
  refine wpAny_bind (wpAny_holding (wpAny_call (class_get (s := ⟨hp, g, d, t + 1, os⟩) (ox := ox) (od := od) X I T.hm ?_)))
  refine wpAny_pure ?_
  show wpAny _ _ (handedOut (.ref D)) _ _ _
  rw [handedOut_of (v := .ref D) rfl]
  first
    | exact wpAny_pure (wpAny_pure h)
    | exact wpAny_pure h
    | exact wpAny_pure (wpAny_bind (wpAny_pure (wpAny_pure h)))
theorem kitx_e (T : L2.ExcC K D) : KitX K (.ref x) (.ref D) (fun h => InstAt h x ox D od) where
  ty := fun _ _ _ I => I.type
  it := fun _ _ X _ => by
    obtain ⟨cd, hc, _⟩ := any_some T.hd
    unfold clsIn at hc
    split at hc
    · rename_i ho
      intro A' Q' E' s' k q
      unfold isType loadHead
      exact wpAny_bind (wpAny_loadPart (k _ _ (X _ _ ho)) (wpAny_pure q))
    · exact nomatch hc
  ne := fun h tp dd its n sl X htp => by
    obtain ⟨cd, hc, _⟩ := any_some T.hd
    refine Bool.eq_false_iff.mpr fun q => ?_
    have e : D = tp := Value.ref.inj (beq_iff_eq.mp q)
    subst e
    unfold clsIn at hc
    split at hc
    · rename_i ho
      exact nomatch (X _ _ ho).symm.trans htp
    · exact nomatch hc
  ca := fun X I k => kin_cls T X I k
end
end My

namespace My
open PySem PySem.W PySem.Calls PyProof.Rows PySem.HandSPX
/-! ### an own error class whose __init__ stores its one argument under its own name f -/
def eA (f : Str) (p1 p2 : Pos) : Arguments :=
  { posonlyargs := [], args := [{ arg := "self", annotation := none, pos := p1 }, { arg := f, annotation := none, pos := p2 }], vararg := none,
    kwonlyargs := [], kw_defaults := [], kwarg := none, defaults := [] }
def eB (f : Str) (q1 q2 q3 q4 : Pos) : List Stmt := [.Assign [.Attribute (.Name "self" q1) f q2] (.Name f q3) q4]
def eS (f : Str) : Scope :=
  { kind := .function, names := [(PySem.Str.ofString "self", .local), (f, .local)], isGenerator := false, isCoroutine := false, more := [] }
structure OneF (f : Str) : Prop where
  b1 : ∀ (qual : Str) (p1 p2 q1 q2 q3 q4 : Pos) (doc pm : Value) (an : Option Addr) (cdv ct x v : Value),
    bindArgs (fnOf "__init__" qual (eA f p1 p2) (eB f q1 q2 q3 q4) (eS f) .none .none doc pm an cdv ct) ⟨[x, v], []⟩ = pure [(("self" : Str), x), (f, v)]
  b2 : ∀ (qual : Str) (p1 p2 q1 q2 q3 q4 : Pos) (doc pm : Value) (an : Option Addr) (cdv ct x v : Value),
    bindArgs (fnOf "__init__" qual (eA f p1 p2) (eB f q1 q2 q3 q4) (eS f) .none .none doc pm an cdv ct) ⟨[x], [(f, v)]⟩ = pure [(("self" : Str), x), (f, v)]
  nd : (f == ("__debug__" : Str)) = false
  lk : (eS f).names.lookup f = some .local
  al : ∀ (x v : Value), ([(("self" : Str), x), (f, v)].all fun y =>
      List.lookup y.fst (eS f).names == some NameKind.local || List.lookup y.fst (eS f).names == some NameKind.cell) = true
  vs : ∀ (q : Str) (L a : Addr) (cd x v : Value), bindL (envOfC q (eS f) L a cd).kindOf [(("self" : Str), x), (f, v)] (fun _ => none) "self" = some x
  vf : ∀ (q : Str) (L a : Addr) (cd x v : Value), bindL (envOfC q (eS f) L a cd).kindOf [(("self" : Str), x), (f, v)] (fun _ => none) f = some v
  kf : ∀ (q : Str) (L a : Addr) (cd : Value), (envOfC q (eS f) L a cd).kindOf f = some .local
theorem oneF_level : OneF "level" := ⟨by intros; rfl, by intros; rfl, by decide +kernel, by decide +kernel, by intros; rfl, by intros; rfl, by intros; rfl, by intros; rfl⟩
structure ErrTxt (K : Frag) (mg : Str → Option Value) (cn f : Str) (C fI : Addr) : Prop where
  one : OneF f
  gC : mg cn = some (.ref C)
  cls : ∃ nm q N bs bm sn sub ab col dd k0 k1 k2 k3 k5,
    K.lookup C = some (excClassObj nm q C N bs bm true sn sub ab col dd k0 k1 k2 k3 k5 "ValueError.__new__") ∧ refsVE bm = true
  sa : findIn K (.ref C) "__setattr__" = some (some (.builtin "object.__setattr__"))
  ga : findIn K (.ref C) "__getattribute__" = some (some (.builtin "BaseException.__getattribute__"))
  gg : findIn K (.ref C) "__getattr__" = some none
  noN : findIn K (.ref C) f = some none
  iC : findIn K (.ref C) "__init__" = some (some (.ref fI))
  tC : typeIn K (.ref fI) = some (.type "function")
  kC : keepIn K (.ref C) = true
  exC : subIn K (.ref C) (.type "BaseException") = some true
  tyC : typeIn K (.ref C) = some (.type "type")
  hdC : hasDictIn K C = true
  fn : ∃ (oc : Value) (od : Option Addr) (q : Str) (doc pm : Value) (an : Option Addr) (cdv ct : Value) (osl : Array (Option Value)) (p1 p2 q1 q2 q3 q4 : Pos),
    K.lookup fI = some ⟨oc, od, .func (fnOf "__init__" q (eA f p1 p2) (eB f q1 q2 q3 q4) (eS f) .none .none doc pm an cdv ct), osl⟩ ∧ codeIn K cdv q = true
structure IEnd (h h' : Heap) (x C dx t1 : Addr) (f : Str) (v : Value) : Prop where
  keep : ∀ b o, b ≠ x → h.get? b = some o → h'.get? b = some o
  obj : h'.get? x = some { cls := .ref C, dict := some dx, data := .fields #[.ref t1, .none, .none, .none, .bool false, .none] }
  dbig : h.objs.size ≤ dx
  dne : dx ≠ x
  ns : h'.Ns1 dx (fun y => if y = f then some v else none)
structure EMade (h h' : Heap) (e C d : Addr) (f : Str) (v : Value) : Prop where
  keep : ∀ b o, h.get? b = some o → h'.get? b = some o
  new : h.objs.size ≤ e
  obj : ∃ t1, h'.get? e = some { cls := .ref C, dict := some d, data := .fields #[.ref t1, .none, .none, .none, .bool false, .none] }
  dbig : h.objs.size ≤ d
  dne : d ≠ e
  ns : h'.Ns1 d (fun y => if y = f then some v else none)
theorem size1 (v : Value) : [v].length ≤ sizeLine := by
  rw [sizeLine_eq]
  exact (by decide : 1 ≤ 16777216)
section
variable {prog : Program} {w : World} {A : Around} {E : Value → Shared → Prop} {R : Result → Shared → Prop} {s : Shared} {K : Frag} {mg : Str → Option Value} {cn f : Str} {C fI : Addr}
theorem err_init (T : ErrTxt K mg cn f C fI) {x t0 : Addr} {v : Value} {args : Args} (ha : args = ⟨[.ref x, v], []⟩ ∨ args = ⟨[.ref x], [(f, v)]⟩)
    (X : K.In s.heap) (hlim : s.heap.NoLimit) (hx : s.heap.get? x = some (excO C t0)) (hnx : K.lookup x = none) (hroom : A.depth < recursionLimit)
    (hq : ∀ h' tk dx, IEnd s.heap h' x C dx t0 f v → R (.ok (.ret .none)) { s with heap := h', toks := tk }) :
    codeAny (model prog w) A (.call (.ref fI) args) R s := by
  obtain ⟨oc, od, q0, doc, pm, an, cdv, ct, osl, p1, p2, q1, q2, q3, q4, ho, hcd⟩ := T.fn
  obtain ⟨nm, q, N, bs, bm, sn, sub, ab, col, dd, k0, k1, k2, k3, k5, hC, hbm⟩ := T.cls
  have hcl : clsIn K C = some { name := nm, bases := bs, mro := .ref C :: bm, ns := N, qualname := q, hasDict := true, slotNames := sn, subclasses := sub, abstract := ab, collection := col, hasDel := false } := by
    unfold clsIn
    rw [hC] <;> rfl
  have O := T.one
  have hb : BindsTo s (fnOf "__init__" q0 (eA f p1 p2) (eB f q1 q2 q3 q4) (eS f) .none .none doc pm an cdv ct) args [(("self" : Str), .ref x), (f, v)] := by
    rcases ha with rfl | rfl
    · exact BindsTo.of_eq (O.b1 ..)
    · exact BindsTo.of_eq (O.b2 ..)
  refine Att.call_fn (binds := [(("self" : Str), .ref x), (f, v)]) X hlim ho hcd hroom hb ?_ (fun s₁ IC => ?_) rfl rfl rfl
  · exact O.al _ _
  obtain ⟨h₁, tk₁, rfl⟩ := IC.toInCall.same
  have kp : ∀ b o, s.heap.get? b = some o → h₁.get? b = some o := IC.toInCall.keep
  have hn := IC.toInCall.ns
  have X1 : K.In h₁ := X.keeps kp
  have hx1 := kp _ _ hx
  show wpAny _ _ (execs _ _) _ _ _
  refine wpAny_execs_cons (plainObj_wpAny_Assign_Attribute ?_)
  refine wpAny_Name (wpAny_loadName_local rfl (O.kf ..) hn (O.vf ..) ?_) O.nd
  refine wpAny_Name (wpAny_loadName_local rfl rfl hn (O.vs ..) ?_)
  refine set_plain X1 (ox := excO C t0) (od := none) ⟨hx1, rfl, rfl, trivial⟩ T.sa ?_
  refine exc_osa X1 hx1 hcl (show refsVE (.ref C :: bm) = true from hbm) rfl T.noN (fun h3 tk3 dx k3 dn dne hx3 hn3 => ?_)
  show wpAny _ _ (execs _ _) _ _ _
  have z : s.heap.objs.size < h₁.objs.size := hn.lt
  exact wpAny_execs_nil (hq h3 tk3 dx ⟨fun b o hb e => k3 b o hb (kp b o e), hx3, Nat.le_of_lt (Nat.lt_of_lt_of_le z dn), dne, hn3⟩)
theorem err_made (T : ErrTxt K mg cn f C fI) {v : Value} {args : Args} (ha : args = ⟨[v], []⟩ ∨ args = ⟨[], [(f, v)]⟩) (X : K.In s.heap)
    (hlim : s.heap.NoLimit) (hroom : A.depth + 1 < recursionLimit)
    (hq : ∀ h' tk e d, EMade s.heap h' e C d f v → R (.ok (.ret (.ref e))) { s with heap := h', toks := tk }) :
    codeAny (model prog w) A (.call (.ref C) args) R s := by
  obtain ⟨nm, q, N, bs, bm, sn, sub, ab, col, dd, k0, k1, k2, k3, k5, hC, hbm⟩ := T.cls
  obtain ⟨hp, g, dr, tk, os⟩ := s
  obtain ⟨rest, kw, rfl, hr, ha'⟩ : ∃ rest kw, args = ⟨rest, kw⟩ ∧ rest.length ≤ sizeLine ∧ ∀ x : Value, (⟨x :: rest, kw⟩ : Args) = ⟨[x, v], []⟩ ∨ (⟨x :: rest, kw⟩ : Args) = ⟨[x], [(f, v)]⟩ := by
    rcases ha with rfl | rfl
    · exact ⟨_, _, rfl, size1 v, fun x => .inl rfl⟩
    · exact ⟨_, _, rfl, Nat.zero_le _, fun x => .inr rfl⟩
  have kp : ∀ b o, hp.get? b = some o → ((hp.push (kdv_tup rest)).push (excO C hp.objs.size)).get? b = some o :=
    fun b o e => Heap.get?_push_of_some _ (Heap.get?_push_of_some _ e)
  have hget : ((hp.push (kdv_tup rest)).push (excO C hp.objs.size)).get? (hp.objs.size + 1) = some (excO C hp.objs.size) := by heap_get
  have hnx : K.lookup (hp.objs.size + 1) = none := by
    cases e : K.lookup (hp.objs.size + 1) with
    | none => rfl
    | some o =>
      have z : hp.get? (hp.objs.size + 1) = some o := X _ _ e
      exact absurd (Nat.lt_of_succ_lt (Heap.lt_size z)) (Nat.lt_irrefl _)
  refine call_kw F.excBase_ValueError (fun X => refsVE_contains X bm hbm) (X _ _ hC) (looks_findIn X T.iC) (fun self => bind_fn X self T.tC) hr ?_
  refine err_init (s := ⟨(hp.push (kdv_tup rest)).push (excO C hp.objs.size), g, dr, tk, os⟩) T (ha' _) (X.keeps kp) (hlim.keeps kp) hget hnx ?_ fun h' tk' dx ⟨k', hx, dn, dne, hns⟩ => ?_
  · show A.depth + 1 < recursionLimit
    exact hroom
  · have old : ∀ b o, hp.get? b = some o → h'.get? b = some o :=
      fun b o e => k' b o (Nat.ne_of_lt (Nat.lt_succ_of_lt (Heap.lt_size e))) (kp b o e)
    have z : hp.objs.size + 1 + 1 ≤ dx := by
      first
        | (simpa only [Heap.size_push] using dn)
        | exact dn
    exact ⟨rfl, hq h' tk' (hp.objs.size + 1) dx ⟨old, Nat.le_succ _, ⟨_, hx⟩, Nat.le_trans (Nat.le_trans (Nat.le_succ _) (Nat.le_succ _)) z, dne, hns⟩⟩
end
end My

namespace My
open PySem PySem.Spec PyProof.Rows L2
/-- an error of the class C that is a value; its dict -/
def ExD (C : Addr) (d : Option Addr) (a : Addr) : HO :=
  .ext fun h => ∃ t1, h.get? a = some { cls := .ref C, dict := d, data := .fields #[.ref t1, .none, .none, .none, .bool false, .none] }
theorem exD_ok {P : Program} {w : World} {H : Hp} {h : Heap} {a C t1 : Addr} {d : Option Addr}
    (e : h.get? a = some { cls := .ref C, dict := d, data := .fields #[.ref t1, .none, .none, .none, .bool false, .none] }) : ObjOk P w H h a (ExD C d a) :=
  ⟨⟨t1, e⟩, ⟨_, e⟩, fun _ _ ⟨t, q⟩ k => ⟨t, k _ q⟩⟩
theorem relO_f {v : V} {v' : Value} {f : Str} (r : RelV v v') (g : Str) : RelO (List.lookup g [((f : Str), v)]) (if g = f then some v' else none) := by
  by_cases h : g = f
  · subst h
    rw [if_pos rfl]
    have q : List.lookup g [((g : Str), v)] = some v := by simp [List.lookup]
    rw [q]
    exact r
  · rw [if_neg h]
    have q1 : (g == f) = false := by simpa using h
    have q2 : List.lookup g [((f : Str), v)] = none := by simp [List.lookup, q1]
    rw [q2]
    trivial
section
variable {X : Cx} {C fI : Addr} {cn f : Str}
/-- C(e), C(f = e): a new error as a value -/
def tErr (C : Addr) (f : Str) (t : TA) : TE := fun σ H Q => t σ H fun vs H1 => ∃ v, vs = [v] ∧
  ∀ a d, H1 a = none → H1 d = none → a ≠ d → Q (.ref a) (upd (upd H1 d (.xd [(f, v)])) a (ExD C (some d) a))
theorem err_run (T : ErrTxt X.K X.mg cn f C fI) {k : Nat} (hr : Room k X.A) {pins : List (Addr × Obj)} {σ : L2.St} {H : Hp} {s : Shared} {Q : VK} {v : V} {u : Value} {us : List Value} {ks : List (Str × Value)}
    (hu : (us = [u] ∧ ks = []) ∨ (us = [] ∧ ks = [(f, u)])) (I : Inv X pins σ H s) (rv : RelV v u)
    (h : ∀ a d, H a = none → H d = none → a ≠ d → Q (.ref a) (upd (upd H d (.xd [(f, v)])) a (ExD C (some d) a))) :
    wpAny (model X.prog X.w) X.A (call (.ref C) us ks) (EP X pins σ Q) X.xe s := by
  have ha : (⟨us, ks⟩ : Args) = ⟨[u], []⟩ ∨ (⟨us, ks⟩ : Args) = ⟨[], [(f, u)]⟩ := by
    rcases hu with ⟨rfl, rfl⟩ | ⟨rfl, rfl⟩
    · exact .inl rfl
    · exact .inr rfl
  have hlim := I.nolimit
  obtain ⟨hp, g, dr, tk, os⟩ := s
  refine wpAny_call (err_made T ha I.kIn hlim (by have := hr.dp; omega) fun h' tk' e d M => ?_)
  obtain ⟨t1, ho⟩ := M.obj
  obtain ⟨G', g1, g2⟩ := restrict h' fun b => decide (b ≠ e)
  have gk : ∀ b, b ≠ e → G'.get? b = h'.get? b := fun b hb => g1 b (decide_eq_true hb)
  have ge : G'.get? e = none := g2 e (by simp)
  have old : ∀ b o, hp.get? b = some o → G'.get? b = some o := fun b o q =>
    (gk b (Nat.ne_of_lt (Nat.lt_of_lt_of_le (Heap.lt_size q) M.new))).trans (M.keep b o q)
  have ob : ObjOk X.prog X.w (upd H d (.xd [(f, v)])) G' d (.xd [(f, v)]) :=
    ⟨_, M.ns.at (fun o q => (gk d M.dne).trans q), fun y => relO_f rv y⟩
  have J : Inv X pins σ (upd H d (.xd [(f, v)])) ⟨G', g, dr, tk', os⟩ := I.laid (t' := tk') old M.dbig ob
  have he0 : H e = none := I.hok.fresh M.new
  have hd0 : H d = none := I.hok.fresh M.dbig
  have sub : ∀ b o, G'.get? b = some o → h'.get? b = some o := fun b o q => by
    by_cases hb : b = e
    · rw [hb, ge] at q; cases q
    · exact (gk b hb).symm.trans q
  have J2 := J.laidN (t' := tk') (a := e) (o := ExD C (some d) e) sub ge (by rw [upd_ne (Ne.symm M.dne)]; exact he0) (exD_ok ho)
  exact ⟨.ref e, _, J2, rfl, h e d he0 hd0 (Ne.symm M.dne)⟩
theorem pe_err {a : Expr} {ta : TA} {p pos : Pos} {k : Nat} (T : ErrTxt X.K X.mg cn f C fI) (hr : Room k X.A) (ha : PA X [a] ta) (hg : Gl X cn)
    (hdb : (cn == ("__debug__" : Str)) = false := by decide)
    (he : starEach (a :: []) X.env = (false, eval a X.env) :: starEach [] X.env := by rfl) (hpl : (backTo pos (starEach [] X.env)).any (·.1) = false := by rfl) :
    PE X (.Call (.Name cn p) [a] [] pos) (tErr C f ta) := by
  refine ⟨fun pins s σ H Q I h => ?_⟩
  refine wpAny_Call_Name_kw (ld_glob I hg T.gC ?_ hdb)
  refine PySem.W.callWith_K (h₀ := X.base) I.ok.mod.kin T.kC (thn (ha.run pos pins s σ H _ I h) fun us s1 hh => ?_) he hpl
  obtain ⟨vs, H1, I1, r1, v, ev, q1⟩ := hh
  subst ev
  refine ⟨I1.kIn, ?_⟩
  cases r1 with
  | cons rv rn =>
    cases rn
    exact err_run T hr (.inl ⟨rfl, rfl⟩) I1 rv q1
theorem pe_errK {kws : List Keyword} {tk : TA} {p pos : Pos} {k : Nat} (T : ErrTxt X.K X.mg cn f C fI) (hr : Room k X.A) (ha : PK X kws tk) (hg : Gl X cn)
    (hall : (backToKw pos (keywordEach kws X.env)).all (·.1.isSome) = true := by rfl)
    (hks : (backToKw pos (keywordEach kws X.env)).filterMap (·.1) = [f] := by rfl)
    (hdb : (cn == ("__debug__" : Str)) = false := by decide)
    (hpl : ((backTo pos (starEach [] X.env)).any (·.1) || (backToKw pos (keywordEach kws X.env)).any (·.1.isNone)) = false := by rfl) :
    PE X (.Call (.Name cn p) [] kws pos) (tErr C f tk) := by
  refine ⟨fun pins s σ H Q I h => ?_⟩
  refine wpAny_Call_Name_kw (ld_glob I hg T.gC ?_ hdb)
  refine PySem.W.callWith_KW0 (h₀ := X.base) I.ok.mod.kin T.kC hall (thn (ha.run pos pins s σ H _ I h) fun us s1 hh => ?_) hpl
  obtain ⟨vs, H1, I1, r1, v, ev, q1⟩ := hh
  subst ev
  refine ⟨I1.kIn, ?_⟩
  rw [hks]
  cases r1 with
  | cons rv rn =>
    cases rn
    exact err_run T hr (.inr ⟨rfl, rfl⟩) I1 rv q1
/-- e.f of such an error -/
def tErrF (C : Addr) (f : Str) (te : TE) : TE := fun σ H Q => te σ H fun x H1 => ∃ (a d : Addr) (v : V), x = .ref a ∧ H1 a = some (ExD C (some d) a) ∧ H1 d = some (.xd [(f, v)]) ∧ Q v H1
theorem pe_errF {e : Expr} {te : TE} {pos : Pos} (T : ErrTxt X.K X.mg cn f C fI) (he : PE X e te)
    (hb : attributeBase e f X.env (eval e X.env) = eval e X.env := by rfl) : PE X (.Attribute e f pos) (tErrF C f te) := by
  refine ⟨fun pins s σ H Q I h => ?_⟩
  refine attr_of hb (thn (he.run pins s σ H _ I h) fun u s1 hh => ?_)
  obtain ⟨x, H1, I1, rx, a, d, v, rfl, ea, ed, q⟩ := hh
  obtain rfl : u = Value.ref a := rx
  obtain ⟨⟨t1, ho⟩, _⟩ := (show ObjOk X.prog X.w H1 s1.heap a (ExD C (some d) a) from I1.hok a _ ea)
  obtain ⟨mA, hns, hr⟩ := (show ObjOk X.prog X.w H1 s1.heap d (.xd [(f, v)]) from I1.hok d _ ed)
  obtain ⟨od, hod, hl⟩ := lookIn_ns hns
  have l : List.lookup f [((f : Str), v)] = some v := by simp [List.lookup]
  obtain ⟨u, hu, ru⟩ := RelO.some_of (v := v) (o := mA f) (by rw [← l]; exact hr f)
  have J : PySem.W.InstAt s1.heap a _ C (some od) := ⟨ho, rfl, rfl, hod⟩
  exact HandSPX.exc_get I1.kIn J T.ga T.gg T.exC (PySem.W.findObj_own T.hdC T.noN rfl (by rw [hl, hu])) (handed_of ru) ⟨v, H1, I1.tok _, ru, q⟩
/-- isinstance(e, c) of such an error -/
def rIsD (K : PySem.W.Frag) : List V → Hp → VK → Prop := fun xs H Q => ∃ (a C : Addr) (d : Option Addr) (c : V) (u : Value) (b : Bool), xs = [.ref a, c] ∧ ClsV c u ∧ H a = some (ExD C d a) ∧
  (∀ dd, d = some dd → ∃ fs, H dd = some (.xd fs)) ∧ ExcC K C ∧ PySem.W.kitOne K (.ref C) u = some b ∧ Q (.bl b) H
theorem call_isD : CallR X (.builtin "isinstance") (rIsD X.K) := by
  intro pins s σ H xs us Q I r h
  obtain ⟨a, C, d, c, u, b, rfl, k, ea, ed, T, e, q⟩ := h
  obtain ⟨u1, u2, rfl, r1, r2⟩ := vals2 r
  have e2 := k.eq r2
  subst e2
  obtain rfl : u1 = Value.ref a := r1
  obtain ⟨⟨t1, ho⟩, _⟩ := (show ObjOk X.prog X.w H s.heap a (ExD C d a) from I.hok a _ ea)
  obtain ⟨od, J⟩ : ∃ od, PySem.W.InstAt s.heap a { cls := .ref C, dict := d, data := .fields #[.ref t1, .none, .none, .none, .bool false, .none] } C od := by
    cases d with
    | none => exact ⟨none, ho, rfl, rfl, trivial⟩
    | some dd =>
      obtain ⟨fs, hd⟩ := ed dd rfl
      obtain ⟨mA, hns, _⟩ := (show ObjOk X.prog X.w H s.heap dd (.xd fs) from I.hok dd _ hd)
      obtain ⟨od, hod, _⟩ := lookIn_ns hns
      exact ⟨some od, ho, rfl, rfl, hod⟩
  exact PySem.W.kia_one (kitx_e T) I.kIn J e (fun z => nomatch z) fun tk => ⟨.bl b, H, I.tok tk, rfl, q⟩
end
end My

namespace My
open PySem PySem.W PySem.Calls PyProof.Rows PySem.HandSPX
/-! ### an own error class whose __init__ does nothing -/
def cA (p1 : Pos) : Arguments :=
  { posonlyargs := [], args := [{ arg := "self", annotation := none, pos := p1 }], vararg := none,
    kwonlyargs := [], kw_defaults := [], kwarg := none, defaults := [] }
def cB (q1 : Pos) : List Stmt := [.Pass q1]
def cS : Scope :=
  { kind := .function, names := [(PySem.Str.ofString "self", .local)], isGenerator := false, isCoroutine := false, more := [] }
structure NilTxt (K : Frag) (mg : Str → Option Value) (cn : Str) (C fI : Addr) : Prop where
  gC : mg cn = some (.ref C)
  cls : ∃ nm q N bs bm sn sub ab col dd k0 k1 k2 k3 k5,
    K.lookup C = some (excClassObj nm q C N bs bm true sn sub ab col dd k0 k1 k2 k3 k5 "ValueError.__new__") ∧ refsVE bm = true
  iC : findIn K (.ref C) "__init__" = some (some (.ref fI))
  tC : typeIn K (.ref fI) = some (.type "function")
  kC : keepIn K (.ref C) = true
  exC : subIn K (.ref C) (.type "BaseException") = some true
  tyC : typeIn K (.ref C) = some (.type "type")
  fn : ∃ (oc : Value) (od : Option Addr) (q : Str) (doc pm : Value) (an : Option Addr) (cdv ct : Value) (osl : Array (Option Value)) (p1 q1 : Pos),
    K.lookup fI = some ⟨oc, od, .func (fnOf "__init__" q (cA p1) (cB q1) cS .none .none doc pm an cdv ct), osl⟩ ∧ codeIn K cdv q = true
structure NMade (h h' : Heap) (e C : Addr) : Prop where
  keep : ∀ b o, h.get? b = some o → h'.get? b = some o
  new : h.objs.size ≤ e
  obj : ∃ t1, h'.get? e = some { cls := .ref C, dict := none, data := .fields #[.ref t1, .none, .none, .none, .bool false, .none] }
section
variable {prog : Program} {w : World} {A : Around} {E : Value → Shared → Prop} {R : Result → Shared → Prop} {s : Shared} {K : Frag} {mg : Str → Option Value} {cn f : Str} {C fI : Addr}
theorem nil_made (T : NilTxt K mg cn C fI) (X : K.In s.heap) (hlim : s.heap.NoLimit) (hroom : A.depth + 1 < recursionLimit)
    (hq : ∀ h' tk e, NMade s.heap h' e C → R (.ok (.ret (.ref e))) { s with heap := h', toks := tk }) :
    codeAny (model prog w) A (.call (.ref C) ⟨[], []⟩) R s := by
  obtain ⟨nm, q, N, bs, bm, sn, sub, ab, col, dd, k0, k1, k2, k3, k5, hC, hbm⟩ := T.cls
  obtain ⟨oc, od, q0, doc, pm, an, cdv, ct, osl, p1, q1, ho, hcd⟩ := T.fn
  obtain ⟨hp, g, dr, tk, os⟩ := s
  have kp : ∀ b o, hp.get? b = some o → ((hp.push (kdv_tup [])).push (excO C hp.objs.size)).get? b = some o :=
    fun b o e => Heap.get?_push_of_some _ (Heap.get?_push_of_some _ e)
  have hget : ((hp.push (kdv_tup [])).push (excO C hp.objs.size)).get? (hp.objs.size + 1) = some (excO C hp.objs.size) := by heap_get
  refine call_kw F.excBase_ValueError (fun X => refsVE_contains X bm hbm) (X _ _ hC) (looks_findIn X T.iC) (fun self => bind_fn X self T.tC) (Nat.zero_le _) ?_
  refine Att.call_fn (binds := [(("self" : Str), .ref (hp.objs.size + 1))]) (s := ⟨(hp.push (kdv_tup [])).push (excO C hp.objs.size), g, dr, tk, os⟩) (X.keeps kp) (hlim.keeps kp) ho hcd
    (by show A.depth + 1 < recursionLimit; exact hroom) (BindsTo.of_eq (by first | rfl | with_unfolding_all rfl)) (by first | rfl | decide) (fun s₁ IC => ?_) rfl rfl rfl
  obtain ⟨h₁, tk₁, rfl⟩ := IC.toInCall.same
  have k1 := IC.toInCall.keep
  show wpAny _ _ (execs _ _) _ _ _
  refine wpAny_execs_cons (wpAny_Pass ?_)
  show wpAny _ _ (execs _ _) _ _ _
  refine wpAny_execs_nil ?_
  exact ⟨rfl, hq h₁ tk₁ (hp.objs.size + 1) ⟨fun b o e => k1 b o (kp b o e), Nat.le_succ _, ⟨_, k1 _ _ hget⟩⟩⟩
end
end My
namespace My
open PySem PySem.Spec PyProof.Rows L2
section
variable {X : Cx} {C fI : Addr} {cn f : Str}
def tErr0 (C : Addr) : TE := fun _ H Q => ∀ a, H a = none → Q (.ref a) (upd H a (ExD C none a))
theorem pe_err0 {p pos : Pos} {k : Nat} (T : NilTxt X.K X.mg cn C fI) (hr : Room k X.A) (hg : Gl X cn)
    (hdb : (cn == ("__debug__" : Str)) = false := by decide)
    (hall : (backToKw pos (keywordEach [] X.env)).all (·.1.isSome) = true := by rfl)
    (hpl : ((backTo pos (starEach [] X.env)).any (·.1) || (backToKw pos (keywordEach [] X.env)).any (·.1.isNone)) = false := by rfl) :
    PE X (.Call (.Name cn p) [] [] pos) (tErr0 C) := by
  refine ⟨fun pins s σ H Q I h => ?_⟩
  refine wpAny_Call_Name_kw (ld_glob I hg T.gC ?_ hdb)
  refine PySem.W.callWith_KW0 (h₀ := X.base) I.ok.mod.kin T.kC hall ?_ hpl
  show wpAny _ _ (evalAll []) _ _ _
  refine wpAny_pure ⟨I.kIn, ?_⟩
  show wpAny _ _ (call (.ref C) [] []) _ _ _
  have hlim := I.nolimit
  obtain ⟨hp, g, dr, tk, os⟩ := s
  refine wpAny_call (nil_made T I.kIn hlim (by have := hr.dp; omega) fun h' tk' e M => ?_)
  obtain ⟨t1, ho⟩ := M.obj
  have J := I.laid (t' := tk') (a := e) (o := ExD C none e) M.keep M.new (exD_ok ho)
  exact ⟨.ref e, _, J, rfl, h e (I.hok.fresh M.new)⟩
/-! ### raising them -/
def tMkE (C : Addr) (f : Str) (ta : TA) : L2.St → Hp → XK → Prop := fun σ H Q => ta σ H fun vs H1 => ∃ v, vs = [v] ∧ ∀ d, H1 d = none → Q (.ref C) (some d) (upd H1 d (.xd [(f, v)]))
theorem pmk_err {a : Expr} {ta : TA} {p pos : Pos} {k : Nat} (T : ErrTxt X.K X.mg cn f C fI) (hr : Room k X.A) (ha : PA X [a] ta) (hg : Gl X cn)
    (hdb : (cn == ("__debug__" : Str)) = false := by decide)
    (he : starEach (a :: []) X.env = (false, eval a X.env) :: starEach [] X.env := by rfl) (hpl : (backTo pos (starEach [] X.env)).any (·.1) = false := by rfl) :
    L2.PMk X (.Call (.Name cn p) [a] [] pos) (tMkE C f ta) := by
  intro pins s σ H Q I h
  refine wpAny_Call_Name_kw (ld_glob I hg T.gC ?_ hdb)
  refine PySem.W.callWith_K (h₀ := X.base) I.ok.mod.kin T.kC (thn (ha.run pos pins s σ H _ I h) fun us s1 hh => ?_) he hpl
  obtain ⟨vs, H1, I1, r1, v, ev, q1⟩ := hh
  subst ev
  refine ⟨I1.kIn, ?_⟩
  cases r1 with
  | cons rv rn =>
    cases rn
    rename_i u
    have hlim := I1.nolimit
    obtain ⟨hp, g, dr, tk, os⟩ := s1
    refine wpAny_call (err_made T (.inl rfl) I1.kIn hlim (by have := hr.dp; omega) fun h' tk' e d M => ?_)
    obtain ⟨t1, ho⟩ := M.obj
    obtain ⟨G', g1, g2⟩ := restrict h' fun b => decide (b ≠ e)
    have gk : ∀ b, b ≠ e → G'.get? b = h'.get? b := fun b hb => g1 b (decide_eq_true hb)
    have ge : G'.get? e = none := g2 e (by simp)
    have old : ∀ b o, hp.get? b = some o → G'.get? b = some o := fun b o q =>
      (gk b (Nat.ne_of_lt (Nat.lt_of_lt_of_le (Heap.lt_size q) M.new))).trans (M.keep b o q)
    have ob : ObjOk X.prog X.w (upd H1 d (.xd [(f, v)])) G' d (.xd [(f, v)]) :=
      ⟨_, M.ns.at (fun o q => (gk d M.dne).trans q), fun y => relO_f rv y⟩
    have J : Inv X pins σ (upd H1 d (.xd [(f, v)])) ⟨G', g, dr, tk', os⟩ := I1.laid (t' := tk') old M.dbig ob
    have sub : ∀ b o, G'.get? b = some o → h'.get? b = some o := fun b o q => by
      by_cases hb : b = e
      · rw [hb, ge] at q; cases q
      · exact (gk b hb).symm.trans q
    refine ⟨e, _, _, ⟨G', g, dr, tk', os⟩, _, .ref C, some d, rfl, J, sub, ge, ho, ⟨rfl, rfl⟩, rfl, rfl, ?_, rfl, I1.bare, raises_own T.exC T.tyC, q1 d (I1.hok.fresh M.dbig)⟩
    rw [upd_ne (Ne.symm M.dne)]
    exact I1.hok.fresh M.new
theorem pmk_nil {p pos : Pos} {k : Nat} (T : NilTxt X.K X.mg cn C fI) (hr : Room k X.A) (hg : Gl X cn)
    (hdb : (cn == ("__debug__" : Str)) = false := by decide)
    (hall : (backToKw pos (keywordEach [] X.env)).all (·.1.isSome) = true := by rfl)
    (hpl : ((backTo pos (starEach [] X.env)).any (·.1) || (backToKw pos (keywordEach [] X.env)).any (·.1.isNone)) = false := by rfl) :
    L2.PMk X (.Call (.Name cn p) [] [] pos) (fun _ H Q => Q (.ref C) none H) := by
  intro pins s σ H Q I h
  refine wpAny_Call_Name_kw (ld_glob I hg T.gC ?_ hdb)
  refine PySem.W.callWith_KW0 (h₀ := X.base) I.ok.mod.kin T.kC hall ?_ hpl
  show wpAny _ _ (evalAll []) _ _ _
  refine wpAny_pure ⟨I.kIn, ?_⟩
  show wpAny _ _ (call (.ref C) [] []) _ _ _
  have hlim := I.nolimit
  obtain ⟨hp, g, dr, tk, os⟩ := s
  refine wpAny_call (nil_made T I.kIn hlim (by have := hr.dp; omega) fun h' tk' e M => ?_)
  obtain ⟨t1, ho⟩ := M.obj
  have ne : hp.get? e = none := by
    cases q : hp.get? e with
    | none => rfl
    | some o => exact absurd (Heap.lt_size q) (Nat.not_lt.mpr M.new)
  exact ⟨e, _, _, ⟨hp, g, dr, tk', os⟩, H, .ref C, none, rfl, I.tok tk', M.keep, ne, ho, ⟨rfl, rfl⟩, rfl, rfl, I.hok.fresh M.new, rfl, I.bare, raises_own T.exC T.tyC, h⟩
end
end My

namespace My
open PySem PySem.Spec PyProof.Rows L2
open L2H (RoomH PinOk cxH inv_startH)
/-! ### a def that is called within an except suite with the exception that is handled -/
structure FnZ (P : Program) (w : World) (K : PySem.W.Frag) (mg : Str → Option Value) (base : Heap) (k : Nat) (f : Addr) (fd : FuncData) (ps : List Str)
    (cls : Value) (d : Option Addr) (sp : Addr → Sp) : Prop where
  len : ∀ a vs H Q E, sp a vs H Q E → vs.length = ps.length
  run : ∀ (A : Around) (outer : List Env) (s : Shared) (H : Hp) (args : Args) (us : List Value) (vs : List V) (Q : VK) (p : Addr × Obj), RoomH k A → Zc cls d p.2 → (∃ fv, p.2.data = .fields fv) →
    PinOk outer H s p → Env0 P w K mg base A outer s H → BindsTo s fd args (ps.zip us) → Vals vs us → sp p.1 vs H Q E0 →
    codeAny (model P w) A (.call (.ref f) args) (CR CX0 outer P w H s Q E0) s
theorem Fun.okZ {P : Program} {w : World} {K : PySem.W.Frag} {mg : Str → Option Value} {base : Heap} {x qual : Str} {st : Stmt} {f : Addr} {fd : FuncData} {N ps : List Str} {k : Nat}
    {cls : Value} {d : Option Addr} {sp : Addr → Sp} (F : Fun K x qual st f fd) (S : FnScope N ps (defScope st)) (len : ∀ a vs H Q E, sp a vs H Q E → vs.length = ps.length)
    (hbody : ∀ (cdv : Value) (A : Around) (outer : List Env) (s : Shared) (H : Hp) (vs : List V) (Q : VK) (p : Addr × Obj), Zc cls d p.2 → (∃ fv, p.2.data = .fields fv) →
      RoomH k (A.deeper (envOfC qual (defScope st) s.heap.objs.size f cdv)) → sp p.1 vs H Q E0 →
      ∃ t, PSs (cxH CX0 P w K mg base N qual (defScope st) f cdv A outer s H E0 p) (defBody st) t ∧ t { nx := fun _ H' => Q .non H', rt := Q } (L2.start N vs) H) :
    FnZ P w K mg base (k + 1) f fd ps cls d sp := by
  obtain ⟨oc, od, kV, doc, pm, an, cdv, ct, osl, rfl, lk, hcd⟩ := F.ex
  refine ⟨len, fun A outer s H args us vs Q p hr hz hf hpin e0 hb r hsp => ?_⟩
  have hl := len _ _ _ _ _ hsp
  have KX : K.In s.heap := e0.mod.kin.keeps fun b o e => (e0.bs b o e).1
  have lim : s.heap.NoLimit := e0.mod.nolimit.keeps fun b o e => (e0.bs b o e).1
  have hkind : ∀ y ∈ ps.zip us, (defScope st).names.lookup y.1 = some .local ∨
      ((defScope st).names.lookup y.1 = some .cell ∧ ((cellsFrom (s.heap.objs.size + 1) (defScope st).names []).lookup y.1).isSome = true) := by
    rintro ⟨n, v⟩ hy
    rcases S.par n (List.of_mem_zip hy).1 with q | q
    · exact .inl q
    · exact .inr ⟨q, PySem.W.cellsFrom_some _ _ _ (.inl q)⟩
  refine codeAny_call_function hr.depth (KX _ _ lk) rfl S.co S.gen rfl (PySem.W.codeRec_of KX hcd) (hb _ _ _ _ ?_)
  refine wpAny_newFunctionEnv_cells S.kind hkind fun env he s1 x => ?_
  subst he
  refine ⟨lim.keeps x.toInCall.keep, codeAny_func ?_⟩
  obtain ⟨t, ht, hq⟩ := hbody cdv A outer s H vs Q p hz hf (hr.deeper _) hsp
  have I := inv_startH (CX := CX0) (E := E0) S hpin e0 hl r x
  refine wpAny_mono (ht.run [] s1 (L2.start N vs) H _ I hq) (fun fl s' hs => ?_) fun e s' hs => hs
  cases fl with
  | ret u =>
    obtain ⟨v, σ', H', J, rv, q⟩ := hs
    exact ⟨v, H', J.os, J.bare, J.base, J.hok, rv, q⟩
  | next =>
    obtain ⟨σ', H', J, q⟩ := hs
    exact ⟨V.non, H', J.os, J.bare, J.base, J.hok, rfl, q⟩
  | brk =>
    obtain ⟨_, _, _, q⟩ := hs
    exact q.elim
  | cont =>
    obtain ⟨_, _, _, q⟩ := hs
    exact q.elim
section
variable {X : Cx} {k : Nat} {f a : Addr} {oe : Obj} {pn : List (Addr × Obj)} {fd : FuncData} {ps : List Str} {sp : Addr → Sp} {cls : Value} {d : Option Addr} {x : Str} {q pos : Pos} {e : Expr} {es : List Expr} {t : TA}
def tCallZ (sp : Sp) (t : TA) : TE := fun σ H Q => t σ H fun vs H1 => sp vs H1 Q E0
theorem pe_callZ (F : FnZ X.prog X.w X.K X.mg X.base k f fd ps cls d sp) (hz : Zc cls d oe) (hf : ∃ fv, oe.data = .fields fv) (hr : RoomH k (X.suite a ((a, oe) :: pn)).A) (hg : Gl X x) (hm : X.mg x = some (.ref f))
    (hk : PySem.W.keepIn X.K (.ref f) = true) (hb : Binds X.K fd ps []) (ha : PA (X.suite a ((a, oe) :: pn)) (e :: es) t) (hdb : (x == ("__debug__" : Str)) = false := by decide)
    (he : starEach (e :: es) X.env = (false, eval e X.env) :: starEach es X.env := by rfl) (hpl : (backTo pos (starEach es X.env)).any (·.1) = false := by rfl) :
    PE (X.suite a ((a, oe) :: pn)) (.Call (.Name x q) (e :: es) [] pos) (tCallZ (sp a) t) := by
  refine ⟨fun pins s σ H Q I h => ?_⟩
  refine wpAny_Call_Name_kw (ld_glob I hg hm ?_ hdb)
  refine PySem.W.callWith_K (h₀ := X.base) I.ok.mod.kin hk (thn (ha.run pos pins s σ H _ I h) fun us s1 ⟨vs, H1, I1, r, hq⟩ => ⟨I1.kIn, ?_⟩) he hpl
  have hl : us.length = ps.length := by rw [← r.length]; exact F.len _ _ _ _ _ hq
  have b := hb s1 us I1.kIn (by rw [List.append_nil]; exact hl)
  rw [List.append_nil] at b
  have P1 := I1.pin (a, oe) (List.mem_append_left _ List.mem_cons_self)
  have hpin : PinOk X.stack H1 s1 (a, oe) :=
    ⟨P1.1, P1.2.1, fun hm => (List.mem_cons.mp (I1.stkSub a hm)).elim P1.2.2.1 P1.2.2.2.1, P1.2.2.2.2⟩
  refine wpAny_call (codeAny_mono (F.run _ X.stack s1 H1 ⟨us, []⟩ us vs Q (a, oe) hr hz hf hpin I1.env0 b r hq) fun r s' hq => ?_)
  cases r with
  | error e =>
    exact (pass0 (X := X.suite a ((a, oe) :: pn)) pins σ _ _ e s' I1 hq)
  | ok fl =>
    cases fl with
    | ret u => exact I1.after hq
    | next => exact hq.elim
    | brk => exact hq.elim
    | cont => exact hq.elim
/-- isinstance of a pinned exception -/
def rIsP (K : PySem.W.Frag) (D a : Addr) (d : Option Addr) : List V → Hp → VK → Prop := fun xs H Q => ∃ (c : V) (u : Value) (b : Bool), xs = [.ref a, c] ∧ ClsV c u ∧
  (∀ dd, d = some dd → ∃ fs, H dd = some (.xd fs)) ∧ ExcC K D ∧ PySem.W.kitOne K (.ref D) u = some b ∧ Q (.bl b) H
theorem call_isP {D : Addr} (hp : (a, oe) ∈ X.pn) (hz : Zc (.ref D) d oe) (hf : ∃ fv, oe.data = .fields fv) : CallR X (.builtin "isinstance") (rIsP X.K D a d) := by
  intro pins s σ H xs us Q I r h
  obtain ⟨c, u, b, rfl, k, ed, T, e, q⟩ := h
  obtain ⟨u1, u2, rfl, r1, r2⟩ := vals2 r
  have e2 := k.eq r2
  subst e2
  obtain rfl : u1 = Value.ref a := r1
  have ho := (I.pin (a, oe) (List.mem_append_left _ hp)).1
  obtain ⟨od, J⟩ : ∃ od, PySem.W.InstAt s.heap a oe D od := by
    obtain ⟨fv, hv⟩ := hf
    obtain ⟨h1, h2⟩ := hz
    have hn : PySem.W.notCls oe = true := by unfold PySem.W.notCls; rw [hv] <;> rfl
    cases d with
    | none => exact ⟨none, ho, h1, hn, by rw [h2]; trivial⟩
    | some dd =>
      obtain ⟨fs, hd⟩ := ed dd rfl
      obtain ⟨mA, hns, _⟩ := (show ObjOk X.prog X.w H s.heap dd (.xd fs) from I.hok dd _ hd)
      obtain ⟨od, hod, _⟩ := lookIn_ns hns
      exact ⟨some od, ho, h1, hn, by rw [h2]; exact hod⟩
  exact PySem.W.kia_one (kitx_e T) I.kIn J e (fun z => nomatch z) fun tk => ⟨.bl b, H, I.tok tk, rfl, q⟩
end
end My

/-! the head by facts: what the top leaves, read off by Bools in the kernel -/
namespace HdF
open PySem PySem.Spec PyProof.Rows L2 He SuX
/-! ### defs with super() -/
structure SupE where
  C : Str
  m : Str
  qual : Str
  st : Stmt
  dfl : List Dv := []
abbrev WS : Type := Option (Str × Str × Arguments × FuncBody × Scope × Addr × List Str × Addr)
def wS (K : PySem.W.Frag) (p : Str × Option Str) : WS := match K.lookup (fAd K p) with
  | some ⟨_, _, .func fd, _⟩ => some (fd.name, fd.qualname, fd.params, fd.body, fd.scope, fd.globals, fd.closure.map (·.1), fd.builtins)
  | _ => none
def SupE.val (d : SupE) : WS := some (d.m, d.qual, defArgs d.st, .stmts (defBody d.st), defScope d.st, mainGlobals, ["__class__"], builtinsNs)
def cellB (K : PySem.W.Frag) (D : Addr) : List (Str × Addr) → Bool
  | [(_, cc)] => (match K.lookup cc with
    | some ⟨_, _, .cell (some (.ref E)), _⟩ => decide (E = D)
    | _ => false)
  | _ => false
def fileB (K : PySem.W.Frag) (file : Str) (cd : Value) : Bool := match cd with
  | .ref cda => (match K.lookup cda with
    | some ⟨_, _, .fields vs, _⟩ => (match (vs[2]? : Option Value) with
      | some (.str y _) => decide (y = file)
      | _ => false)
    | _ => false)
  | _ => false
def SupE.ok (file : Str) (d : SupE) (K : PySem.W.Frag) : Bool := PySem.W.keepIn K (.ref (fAd K (d.C, some d.m))) && ((PySem.W.clsIn K (ga K d.C)).isSome && (match K.lookup (fAd K (d.C, some d.m)) with
  | some ⟨_, _, .func fd, _⟩ => PySem.W.codeIn K fd.code d.qual && (cellB K (ga K d.C) fd.closure && (fileB K file fd.code && dflB K fd.defaults (d.dfl.map (Dv.v K))))
  | _ => false))
theorem cellB_ok {K : PySem.W.Frag} {D : Addr} {l : List (Str × Addr)} (h : cellB K D l = true) : ∃ y cc cl cld csl, l = [(y, cc)] ∧ K.lookup cc = some ⟨cl, cld, .cell (some (.ref D)), csl⟩ := by
  match l, h with
  | [(y, cc)], h =>
    have h1 : (match K.lookup cc with
      | some ⟨_, _, .cell (some (.ref E)), _⟩ => decide (E = D)
      | _ => false) = true := h
    split at h1
    · rename_i cl cld E csl q
      have e := of_decide_eq_true h1
      subst e
      exact ⟨y, cc, _, _, _, rfl, q⟩
    · cases h1
theorem fileB_ok {K : PySem.W.Frag} {file : Str} {cd : Value} (h : fileB K file cd = true) : ∃ cda cl cld vs csl t, cd = .ref cda ∧ K.lookup cda = some ⟨cl, cld, .fields vs, csl⟩ ∧ vs[2]? = some (.str file t) := by
  unfold fileB at h
  split at h
  · split at h
    · split at h
      · rename_i q _ y t q2
        have e := of_decide_eq_true h
        subst e
        exact ⟨_, _, _, _, _, t, rfl, q, q2⟩
      · cases h
    · cases h
  · cases h
/-- .. its defaults -/
structure SupDf (K : PySem.W.Frag) (m qual : Str) (st : Stmt) (dvs : List V) (fd : FuncData) : Prop where
  ex : ∃ (cc cda : Addr) (dV kV doc pm ct : Value) (an : Option Addr), fd = PySem.W.fnX m qual (defArgs st) (defBody st) (defScope st) [("__class__", cc)] dV kV doc pm an (.ref cda) ct ∧ DflV K dV dvs
theorem SupDf.bindsN {K : PySem.W.Frag} {m qual : Str} {st : Stmt} {fd : FuncData} {ps : List Str} (F : SupDf K m qual st [] fd)
    (h : ∀ (cc cda : Addr) (kV doc pm ct : Value) (an : Option Addr) (us : List Value), us.length = ps.length → bindArgs (PySem.W.fnX m qual (defArgs st) (defBody st) (defScope st) [("__class__", cc)] .none kV doc pm an (.ref cda) ct) ⟨us, []⟩ = pure (ps.zip us)) : Binds K fd ps [] := by
  obtain ⟨cc, cda, dV, kV, doc, pm, ct, an, rfl, hD⟩ := F.ex
  rcases hD with ⟨_, rfl⟩ | ⟨e, _⟩
  · exact .all (h cc cda kV doc pm ct an)
  · exact absurd rfl e
theorem SupDf.binds1 {K : PySem.W.Frag} {m qual : Str} {st : Stmt} {dvs : List V} {fd : FuncData} {ps : List Str} (F : SupDf K m qual st dvs fd) (n j : Nat) (hd : dvs ≠ []) (hn : n + (dvs.length - j) = ps.length)
    (h : ∀ (T cc cda : Addr) (kV doc pm ct : Value) (an : Option Addr) (us its : List Value), us.length = n → its.length = dvs.length →
      ∃ k, bindArgs (PySem.W.fnX m qual (defArgs st) (defBody st) (defScope st) [("__class__", cc)] (.ref T) kV doc pm an (.ref cda) ct) ⟨us, []⟩ = seqItems? (.ref T) >>= k ∧ k (some its.toArray) = pure (ps.zip (us ++ its.drop j))) : ∃ ds, Vals (dvs.drop j) ds ∧ Binds K fd ps ds := by
  obtain ⟨cc, cda, dV, kV, doc, pm, ct, an, rfl, hD⟩ := F.ex
  rcases hD with ⟨e, _⟩ | ⟨_, T, o, its, mm, rfl, lT, oT, rT⟩
  · exact absurd e hd
  · refine ⟨its.drop j, rT.drop j, fun s us X hlen => ?_⟩
    have l1 : its.length = dvs.length := rT.length.symm
    have l2 : us.length = n := by
      rw [List.length_append, List.length_drop, l1] at hlen
      omega
    obtain ⟨k, e1, e2⟩ := h T cc cda kV doc pm ct an us its l2 l1
    refine BindsTo.of_looks fun M => ?_
    rw [e1]
    exact looks_items X lT oT (.of_pure e2)
theorem SupE.supF {K : PySem.W.Frag} {file : Str} {d : SupE} (e : wS K (d.C, some d.m) = d.val) (c : d.ok file K = true) : ∃ fd, SupF K file d.m d.qual d.st (fAd K (d.C, some d.m)) fd (ga K d.C) ∧ SupDf K d.m d.qual d.st (d.dfl.map (Dv.v K)) fd := by
  obtain ⟨kp, c2⟩ := ba c
  obtain ⟨cs, c3⟩ := ba c2
  unfold wS at e
  cases q : K.lookup (fAd K (d.C, some d.m)) with
  | none =>
    rw [q] at c3
    cases c3
  | some o =>
    obtain ⟨oc, od, dt, osl⟩ := o
    rw [q] at c3 e
    cases dt with
    | func fd =>
      obtain ⟨n1, n2, n3, n4, n5, n6, n7, n8, n9, n10, n11, n12, n13, n14, n15⟩ := fd
      have e2 : @Eq (Option (Str × Str × Arguments × FuncBody × Scope × Addr × List Str × Addr)) (some (n1, n2, n3, n4, n5, n6, n7.map (·.1), n15)) (some (d.m, d.qual, defArgs d.st, FuncBody.stmts (defBody d.st), defScope d.st, mainGlobals, [("__class__" : Str)], builtinsNs)) := e
      simp only [Option.some.injEq, Prod.mk.injEq] at e2
      obtain ⟨h1, h2, h3, h4, h5, h6, h7, h8⟩ := e2
      subst h1 h2 h3 h4 h5 h6 h8
      have c4 : (PySem.W.codeIn K n13 d.qual && (cellB K (ga K d.C) n7 && (fileB K file n13 && dflB K n8 (d.dfl.map (Dv.v K))))) = true := c3
      obtain ⟨k1, k2⟩ := ba c4
      obtain ⟨k3, k45⟩ := ba k2
      obtain ⟨k4, k5⟩ := ba k45
      obtain ⟨y, cc, cl, cld, csl, rfl, hc⟩ := cellB_ok k3
      obtain ⟨cda, ccl, cdd, vs, ccs, t, rfl, hd, hv⟩ := fileB_ok k4
      have hy : y = ("__class__" : Str) := List.head_eq_of_cons_eq h7
      subst hy
      exact ⟨_, ⟨⟨oc, cl, ccl, od, cld, cdd, n8, n9, n10, n11, n12, cda, cc, n14, osl, csl, ccs, vs, t, rfl, q, k1, hc, hd, hv⟩, kp, cs⟩, ⟨cc, cda, n8, n9, n10, n11, n14, n12, rfl, dflB_ok k5⟩⟩
    | _ => cases c3
/-! ### what super() finds: the class at C, behind D, its method m, that of the class B -/
def eqS (a b : Option Bool) : Bool := decide (a = b)
def supB (D C B m : Str) (K : PySem.W.Frag) : Bool := (PySem.W.clsIn K (ga K C)).isSome && (decide (PySem.W.mroIn K (ga K C) (.ref (ga K D)) = some true) && (eqO (PySem.W.nsIn K PySem.cStatics "thirdparty.any") (some none) &&
  (eqO (PySem.W.ks_superIn K (ga K C) (ga K D) m) (some (some (.ref (fAd K (B, some m))))) && (decide (PySem.W.typeIn K (.ref (fAd K (B, some m))) = some (.type "function")) && PySem.W.fnIn K (fAd K (B, some m))))))
theorem supB_ok {D C B m : Str} {K : PySem.W.Frag} (h : supB D C B m K = true) : SupM K (ga K D) (ga K C) m (fAd K (B, some m)) := by
  obtain ⟨h1, h⟩ := ba h
  obtain ⟨h2, h⟩ := ba h
  obtain ⟨h3, h⟩ := ba h
  obtain ⟨h4, h⟩ := ba h
  obtain ⟨h5, h6⟩ := ba h
  exact ⟨h1, of_decide_eq_true h2, eqO_ok h3, eqO_ok h4, of_decide_eq_true h5, h6⟩
/-! ### classes, methods -/
def ocB (C : Str) (fs : List Str) (K : PySem.W.Frag) : Bool := (Fa.cls C).ok K && fs.all fun f => (Fa.noat C f).ok K
theorem ocB_ok {C : Str} {fs : List Str} {K : PySem.W.Frag} (h : ocB C fs K = true) : OC K (ga K C) fs := by
  obtain ⟨h1, h2⟩ := ba h
  exact ⟨cls_ok h1, fun f hf => eqO_ok (List.all_eq_true.mp h2 f hf)⟩
/-- a method that the class at C finds, that of the class B -/
def metB (C B m : Str) (K : PySem.W.Frag) : Bool := eqO (PySem.W.findIn K (.ref (ga K C)) m) (some (some (.ref (fAd K (B, some m))))) && (PySem.W.isFn K (.ref (fAd K (B, some m))) && PySem.W.keepIn K (.ref (fAd K (B, some m))))
theorem metB_ok {C B m : Str} {K : PySem.W.Frag} (h : metB C B m K = true) : Meth K (ga K C) m (fAd K (B, some m)) := by
  obtain ⟨h1, h⟩ := ba h
  obtain ⟨h2, h3⟩ := ba h
  exact ⟨eqO_ok h1, h2, h3⟩
def mkB (C : Str) (K : PySem.W.Frag) : Bool := PySem.W.makesIn K (ga K C) && (eqO (PySem.W.findIn K (.ref (ga K C)) "__init__") (some (some (.ref (fAd K (C, some "__init__"))))) && (PySem.W.isFn K (.ref (fAd K (C, some "__init__"))) && PySem.W.keepIn K (.ref (ga K C))))
theorem mkB_ok {C : Str} {K : PySem.W.Frag} (h : mkB C K = true) : Mk K (ga K C) (fAd K (C, some "__init__")) := by
  obtain ⟨h1, h⟩ := ba h
  obtain ⟨h2, h⟩ := ba h
  obtain ⟨h3, h4⟩ := ba h
  exact ⟨h1, eqO_ok h2, h3, h4⟩
/-! ### a def without defaults -/
theorem fun_of {K : PySem.W.Frag} {x qual : Str} {st : Stmt} {kws : List (Str × V)} {f : Addr} {fd : FuncData} (F : FunD K x qual (defArgs st) (defBody st) (defScope st) [] kws f fd) : Fun K x qual st f fd := by
  obtain ⟨oc, od, dV, kV, doc, pm, an, cdv, ct, osl, e, lk, hcd, hd, _⟩ := F.ex
  rcases hd with ⟨_, rfl⟩ | ⟨h, _⟩
  · exact ⟨⟨oc, od, kV, doc, pm, an, cdv, ct, osl, e, lk, hcd⟩, F.kp⟩
  · exact absurd rfl h
/-! ### own errors whose __init__ stores its one argument -/
/-- the qualified name of a class's __init__ -/
def qe (cn : Str) : Str := PySem.Str.append cn (".__init__" : Str)
def errW (cn f : Str) (p1 p2 q1 q2 q3 q4 : Pos) : FnW := some ("__init__", qe cn, My.eA f p1 p2, .stmts (My.eB f q1 q2 q3 q4), My.eS f, mainGlobals, [], builtinsNs)
def excB (K : PySem.W.Frag) (C : Addr) : Bool := match K.lookup C with
  | some ⟨.type c, _, .cls cd, sl⟩ => decide (c = "type") && (cd.hasDict && (!cd.hasDel && ((match cd.mro with
    | .ref C' :: bm => decide (C' = C) && PySem.HandSPX.refsVE bm
    | _ => false) && (match sl.toList with
    | [_, _, _, _, some (.builtin n), _] => decide (n = "ValueError.__new__")
    | _ => false))))
  | _ => false
theorem excB_ok {K : PySem.W.Frag} {C : Addr} (h : excB K C = true) : ∃ nm q N bs bm sn sub ab col dd k0 k1 k2 k3 k5,
    K.lookup C = some (excClassObj nm q C N bs bm true sn sub ab col dd k0 k1 k2 k3 k5 "ValueError.__new__") ∧ PySem.HandSPX.refsVE bm = true := by
  unfold excB at h
  split at h
  · rename_i c dd cd sl ho
    obtain ⟨h1, h⟩ := ba h
    obtain ⟨h2, h⟩ := ba h
    obtain ⟨h3, h⟩ := ba h
    obtain ⟨h4, h5⟩ := ba h
    split at h4
    · rename_i C' bm hm
      obtain ⟨h6, h7⟩ := ba h4
      split at h5
      · rename_i k0 k1 k2 k3 n k5 hs
        have e1 := of_decide_eq_true h1
        have e2 := of_decide_eq_true h6
        have e3 := of_decide_eq_true h5
        subst e1 e2 e3
        obtain ⟨nm, bs, mro, ns, qn, hd, sn, sub, ab, col, del⟩ := cd
        dsimp only at hm h2 h3
        subst hm h2
        have e4 : del = false := by
          cases del with
          | false => rfl
          | true => cases h3
        subst e4
        have hsl : sl = #[k0, k1, k2, k3, some (.builtin "ValueError.__new__"), k5] := by
          obtain ⟨l⟩ := sl
          simp only at hs
          rw [hs]
        subst hsl
        exact ⟨_, _, _, _, _, _, _, _, _, _, _, _, _, _, _, ho, h7⟩
      · cases h5
    · cases h4
  · cases h
def noneB : Value → Bool
  | .none => true
  | _ => false
theorem noneB_ok {v : Value} (h : noneB v = true) : v = .none := by
  cases v with
  | none => rfl
  | _ => cases h
def errB (cn f : Str) (K : PySem.W.Frag) : Bool := eqO (PySem.W.nsIn K mainGlobals cn) (some (some (.ref (ga K cn)))) && (excB K (ga K cn) && (eqO (PySem.W.findIn K (.ref (ga K cn)) "__setattr__") (some (some (.builtin "object.__setattr__"))) &&
  (eqO (PySem.W.findIn K (.ref (ga K cn)) "__getattribute__") (some (some (.builtin "BaseException.__getattribute__"))) && (eqO (PySem.W.findIn K (.ref (ga K cn)) "__getattr__") (some none) && (eqO (PySem.W.findIn K (.ref (ga K cn)) f) (some none) &&
  (eqO (PySem.W.findIn K (.ref (ga K cn)) "__init__") (some (some (.ref (fAd K (cn, some "__init__"))))) && (decide (PySem.W.typeIn K (.ref (fAd K (cn, some "__init__"))) = some (.type "function")) && (PySem.W.keepIn K (.ref (ga K cn)) &&
  (decide (PySem.W.subIn K (.ref (ga K cn)) (.type "BaseException") = some true) && (decide (PySem.W.typeIn K (.ref (ga K cn)) = some (.type "type")) && (PySem.W.hasDictIn K (ga K cn) && (match K.lookup (fAd K (cn, some "__init__")) with
    | some ⟨_, _, .func fd, _⟩ => PySem.W.codeIn K fd.code (qe cn) && (noneB fd.defaults && noneB fd.kwdefaults)
    | _ => false))))))))))))
theorem errB_ok {cn f : Str} {K : PySem.W.Frag} {h : Heap} {mg : Str → Option Value} {p1 p2 q1 q2 q3 q4 : Pos} (X : K.In h) (G : h.Ns mainGlobals mg) (one : My.OneF f) (e : fnW K (cn, some "__init__") = errW cn f p1 p2 q1 q2 q3 q4) (c : errB cn f K = true) :
    My.ErrTxt K mg cn f (ga K cn) (fAd K (cn, some "__init__")) := by
  obtain ⟨c1, c⟩ := ba c
  obtain ⟨c2, c⟩ := ba c
  obtain ⟨c3, c⟩ := ba c
  obtain ⟨c4, c⟩ := ba c
  obtain ⟨c5, c⟩ := ba c
  obtain ⟨c6, c⟩ := ba c
  obtain ⟨c7, c⟩ := ba c
  obtain ⟨c8, c⟩ := ba c
  obtain ⟨c9, c⟩ := ba c
  obtain ⟨c10, c⟩ := ba c
  obtain ⟨c11, c⟩ := ba c
  obtain ⟨c12, c13⟩ := ba c
  refine ⟨one, PySem.W.mg_of X G (eqO_ok c1), excB_ok c2, eqO_ok c3, eqO_ok c4, eqO_ok c5, eqO_ok c6, eqO_ok c7, of_decide_eq_true c8, c9, of_decide_eq_true c10, of_decide_eq_true c11, c12, ?_⟩
  unfold fnW at e
  cases q : K.lookup (fAd K (cn, some "__init__")) with
  | none =>
    rw [q] at c13
    cases c13
  | some o =>
    obtain ⟨oc, od, dt, osl⟩ := o
    rw [q] at c13 e
    cases dt with
    | func fd =>
      obtain ⟨n1, n2, n3, n4, n5, n6, n7, n8, n9, n10, n11, n12, n13, n14, n15⟩ := fd
      have e2 : @Eq (Option (Str × Str × Arguments × FuncBody × Scope × Addr × List (Str × Addr) × Addr)) (some (n1, n2, n3, n4, n5, n6, n7, n15)) (some (("__init__" : Str), qe cn, My.eA f p1 p2, FuncBody.stmts (My.eB f q1 q2 q3 q4), My.eS f, mainGlobals, [], builtinsNs)) := e
      simp only [Option.some.injEq, Prod.mk.injEq] at e2
      obtain ⟨h1, h2, h3, h4, h5, h6, h7, h8⟩ := e2
      subst h1 h2 h3 h4 h5 h6 h7 h8
      have c14 : (PySem.W.codeIn K n13 (qe cn) && (noneB n8 && noneB n9)) = true := c13
      obtain ⟨k1, k2⟩ := ba c14
      obtain ⟨k3, k4⟩ := ba k2
      have e8 := noneB_ok k3
      have e9 := noneB_ok k4
      subst e8 e9
      exact ⟨oc, od, _, n10, n11, n12, n13, n14, osl, p1, p2, q1, q2, q3, q4, rfl, k1⟩
    | _ => cases c13
/-! ### a dict of the module whose keys are ints and texts -/
def keyW (e : DictEntry) : Option (Key × Int) := match e.key with
  | .int i _ => some (.inl i, e.hash)
  | .str x _ => some (.inr x, e.hash)
  | _ => none
def dicW2 (K : PySem.W.Frag) (a : Addr) : Option (List (Option (Key × Int))) := match K.lookup a with
  | some ⟨.type c, none, .dict es _, sl⟩ => (match decide (c = "dict") && (sl.isEmpty && !(a == sysModules)) with
    | true => some (es.toList.map keyW)
    | false => none)
  | _ => none
def dicV (w : World) (ks : List Key) : Option (List (Option (Key × Int))) := some (ks.map fun k => some (k, keyH w k))
def dicB (a : PySem.W.Frag → Addr) (vs : PySem.W.Frag → List V) (K : PySem.W.Frag) : Bool := match K.lookup (a K) with
  | some ⟨_, _, .dict es _, _⟩ => relAll (vs K) (es.toList.map (·.val))
  | _ => false
theorem keys_of {P : Program} {w : World} : ∀ {es : List DictEntry} {kvs : List (Key × V)}, es.map keyW = (kvs.map (·.1)).map (fun k => some (k, keyH w k)) → relAll (kvs.map (·.2)) (es.map (·.val)) = true →
    ∃ vs : List (Key × Value), KV kvs vs ∧ Pairs (mixKind P w) es vs ∧ vs.map (·.1) = kvs.map (·.1) ∧ ∀ e ∈ es, ∃ k, (mixKind P w).is k e.key = true ∧ e.hash = (mixKind P w).hash k
  | [], [], _, _ => ⟨[], .nil, .nil, rfl, fun _ h => absurd h List.not_mem_nil⟩
  | [], _ :: _, h, _ => by cases h
  | _ :: _, [], h, _ => by cases h
  | e :: es, kv :: kvs, h, h2 => by
    have h1 : keyW e :: es.map keyW = some (kv.1, keyH w kv.1) :: (kvs.map (·.1)).map (fun k => some (k, keyH w k)) := h
    injection h1 with h3 h4
    obtain ⟨h5, h6⟩ := ba (show (relB kv.2 e.val && relAll (kvs.map (·.2)) (es.map (·.val))) = true from h2)
    obtain ⟨vs, r, p, n, z⟩ := keys_of (P := P) h4 h6
    have hk : keyIs kv.1 e.key = true ∧ e.hash = keyH w kv.1 := by
      unfold keyW at h3
      split at h3
      · rename_i i t q
        obtain ⟨e1, e2⟩ := Prod.mk.inj (Option.some.inj h3)
        rw [← e1] at e2 ⊢
        rw [q]
        exact ⟨keyIs_int i t, e2⟩
      · rename_i x t q
        obtain ⟨e1, e2⟩ := Prod.mk.inj (Option.some.inj h3)
        rw [← e1] at e2 ⊢
        rw [q]
        exact ⟨keyIs_str x t, e2⟩
      · cases h3
    refine ⟨(kv.1, e.val) :: vs, .cons ⟨rfl, relB_ok h5⟩ r, .cons hk.1 rfl p, by rw [List.map_cons, List.map_cons, n], fun u hu => ?_⟩
    rcases List.mem_cons.mp hu with rfl | hu
    · exact ⟨kv.1, hk.1, hk.2⟩
    · exact z u hu
theorem dkc_of {P : Program} {w : World} {K : PySem.W.Frag} {a : PySem.W.Frag → Addr} {kvs : List (Key × V)} (h1 : dicW2 K (a K) = dicV w (kvs.map (·.1))) (h2 : dicB a (fun _ => kvs.map (·.2)) K = true) (nd : (kvs.map (·.1)).Nodup) (len : kvs.length ≤ sizeLine) : DKc K P w (a K) kvs := by
  unfold dicW2 at h1
  unfold dicB at h2
  split at h1
  · rename_i c es n sl ho
    rw [ho] at h2
    have h3 : (match decide (c = "dict") && (sl.isEmpty && !(a K == sysModules)) with
      | true => some (es.toList.map keyW)
      | false => none) = dicV w (kvs.map (·.1)) := h1
    cases z : decide (c = "dict") && (sl.isEmpty && !(a K == sysModules)) with
    | false =>
      rw [z] at h3
      cases h3
    | true =>
      rw [z] at h3
      obtain ⟨z1, z2⟩ := ba z
      obtain ⟨z3, z4⟩ := ba z2
      have e1 : c = "dict" := of_decide_eq_true z1
      have e2 : sl = #[] := Array.isEmpty_iff.mp z3
      have e3 : (a K == sysModules) = false := by
        cases y : a K == sysModules with
        | false => rfl
        | true =>
          rw [y] at z4
          cases z4
      subst e1 e2
      obtain ⟨vs, r, p, nn, k⟩ := keys_of (P := P) (w := w) (Option.some.inj h3) h2
      refine ⟨len, e3, vs, r, fun h hk => ⟨_, es, n, hk _ _ ho, ⟨rfl, rfl, rfl⟩, rfl, fun e he => k e (Array.mem_toList_iff.mpr he), p, by rw [nn]; exact nd⟩⟩
  · cases h1
/-! ### an empty tuple that is a def's default -/
def tup0B (a : PySem.W.Frag → Addr) (K : PySem.W.Frag) : Bool := match K.lookup (a K) with
  | some ⟨.type c, _, .seq its _, _⟩ => decide (c = "tuple") && its.isEmpty
  | _ => false
theorem tup0_ok {a : PySem.W.Frag → Addr} {K : PySem.W.Frag} (h : tup0B a K = true) : ∃ eO eN eS, K.lookup (a K) = some ⟨.type "tuple", eO, .seq #[] eN, eS⟩ := by
  unfold tup0B at h
  split at h
  · rename_i c eO its n sl ho
    obtain ⟨h1, h2⟩ := ba h
    have e1 := of_decide_eq_true h1
    have e2 := Array.isEmpty_iff.mp h2
    subst e1 e2
    exact ⟨_, _, _, ho⟩
  · cases h
theorem nil_of {K : PySem.W.Frag} {fd : FuncData} {ps : List Str} (h : ∃ ds, Vals ([] : List V) ds ∧ Binds K fd ps ds) : Binds K fd ps [] := by
  obtain ⟨ds, hv, hb⟩ := h
  cases hv
  exact hb
/-! ### the Hook -/
abbrev AlF : Type := Bool × (List FnW × (List WS × List (Option (List (Option (Key × Int))))))
structure Fs where
  fs : List (PySem.W.Frag → Bool)
  fw : List ((Str × Option Str) × FnW)
  sw : List SupE
  dw : List (Str × List Key)
def obsF (F : Fs) (K : PySem.W.Frag) : AlF := (F.fs.all fun f => f K, (F.fw.map fun p => fnW K p.1, (F.sw.map fun d => wS K (d.C, some d.m), F.dw.map fun d => dicW2 K (ga K d.1))))
def valF (F : Fs) (w : World) : AlF := (true, (F.fw.map (·.2), (F.sw.map SupE.val, F.dw.map fun d => dicV w d.2)))
def SaysF (F : Fs) (w : World) (K : PySem.W.Frag) : Prop := obsF F K = valF F w
def obsFG (as : List Addr) (F : Fs) (g : Addr → Option Obj) : AlF := obsF F (frG g as)
def hookF (as : List Addr) (F : Fs) : PySem.W.Hook where
  α := AlF
  obs := fun s => obsFG as F s.heap.get?
  val := fun w => valF F w
  says := fun w h => ∃ K : PySem.W.Frag, K.In h ∧ SaysF F w K
  of := fun _ _ e => ⟨_, frG_in, e⟩
  keeps := fun _ _ _ ⟨K, hK, c⟩ k => ⟨K, PySem.W.Frag.In.keeps hK k, c⟩
theorem obsFG_eq {as : List Addr} {F : Fs} {g : Addr → Option Obj} {s : Shared} (h : ∀ a, g a = s.heap.get? a) : obsFG as F g = (hookF as F).obs s := by
  have e : g = s.heap.get? := funext h
  rw [e] <;> rfl
section
variable {F : Fs} {w : World} {K : PySem.W.Frag}
theorem SaysF.fact (c : SaysF F w K) (i : Nat) {f : PySem.W.Frag → Bool} (h : F.fs[i]? = some f) : f K = true :=
  List.all_eq_true.mp (show (F.fs.all fun f => f K) = true from congrArg (fun z : AlF => z.1) c) f (List.mem_of_getElem? h)
theorem SaysF.fnw (c : SaysF F w K) (i : Nat) {p : (Str × Option Str) × FnW} (h : F.fw[i]? = some p) : fnW K p.1 = p.2 := by
  have e : F.fw.map (fun p => fnW K p.1) = F.fw.map (·.2) := congrArg (fun z : AlF => z.2.1) c
  have e2 : (F.fw.map fun p => fnW K p.1)[i]? = (F.fw.map (·.2))[i]? := by rw [e]
  rw [List.getElem?_map, List.getElem?_map, h] at e2
  exact Option.some.inj e2
theorem SaysF.sup (c : SaysF F w K) (i : Nat) {d : SupE} (h : F.sw[i]? = some d) : wS K (d.C, some d.m) = d.val := by
  have e : F.sw.map (fun d => wS K (d.C, some d.m)) = F.sw.map SupE.val := congrArg (fun z : AlF => z.2.2.1) c
  have e2 : (F.sw.map fun d => wS K (d.C, some d.m))[i]? = (F.sw.map SupE.val)[i]? := by rw [e]
  rw [List.getElem?_map, List.getElem?_map, h] at e2
  exact Option.some.inj e2
theorem SaysF.dic (c : SaysF F w K) (i : Nat) {d : Str × List Key} (h : F.dw[i]? = some d) : dicW2 K (ga K d.1) = dicV w d.2 := by
  have e : F.dw.map (fun d => dicW2 K (ga K d.1)) = F.dw.map (fun d => dicV w d.2) := congrArg (fun z : AlF => z.2.2.2) c
  have e2 : (F.dw.map fun d => dicW2 K (ga K d.1))[i]? = (F.dw.map fun d => dicV w d.2)[i]? := by rw [e]
  rw [List.getElem?_map, List.getElem?_map, h] at e2
  exact Option.some.inj e2
end
end HdF

/-! all(elt for target in iter): the element may be any expression of the layer, in the generator's own frame -/
namespace GA
open PySem PySem.Spec PyProof.Rows L2 GxR GenW
/-! ### the captured cells -/
theorem clo_has {cells : List (Str × Addr)} : ∀ {names : List (Str × NameKind)} {acc : List (Str × Addr)} {y : Str} {c : Addr}, (cloFrom cells names acc).lookup y = some c →
    acc.lookup y = some c ∨ ((y, NameKind.free) ∈ names ∧ c = (cells.lookup y).getD 0)
  | [], acc, y, c, h => .inl h
  | (n, k) :: r, acc, y, c, h => by
    unfold cloFrom at h
    by_cases hk : (k == NameKind.free) = true
    · rw [if_pos hk] at h
      have ek : k = NameKind.free := by cases k <;> first | rfl | cases hk
      rcases clo_has h with q | ⟨q, e⟩
      · rw [List.lookup_cons] at q
        split at q
        · rename_i hy
          have ey : y = n := eq_of_beq hy
          cases q
          exact .inr ⟨by rw [ey, ek]; exact List.mem_cons_self, by rw [ey]⟩
        · exact .inl q
      · exact .inr ⟨List.mem_cons_of_mem _ q, e⟩
    · rw [if_neg hk] at h
      rcases clo_has h with q | ⟨q, e⟩
      · exact .inl q
      · exact .inr ⟨List.mem_cons_of_mem _ q, e⟩
theorem clo_some {cells : List (Str × Addr)} : ∀ {names : List (Str × NameKind)} {acc : List (Str × Addr)} {y : Str}, ((acc.lookup y).isSome = true ∨ (y, NameKind.free) ∈ names) → ∃ c, (cloFrom cells names acc).lookup y = some c
  | [], acc, y, h => by
    rcases h with h | h
    · exact Option.isSome_iff_exists.mp h
    · cases h
  | (n, k) :: r, acc, y, h => by
    unfold cloFrom
    by_cases hk : (k == NameKind.free) = true
    · rw [if_pos hk]
      refine clo_some ?_
      rcases h with h | h
      · refine .inl ?_
        rw [List.lookup_cons]
        split
        · rfl
        · exact h
      · rcases List.mem_cons.mp h with e | h
        · refine .inl ?_
          obtain ⟨e1, _⟩ := Prod.mk.inj e
          rw [e1, List.lookup_cons, beq_self_eq_true]
          rfl
        · exact .inr h
    · rw [if_neg hk]
      refine clo_some ?_
      rcases h with h | h
      · exact .inl h
      · rcases List.mem_cons.mp h with e | h
        · obtain ⟨_, e2⟩ := Prod.mk.inj e
          rw [← e2] at hk
          exact absurd rfl hk
        · exact .inr h
theorem clo_eq {cells : List (Str × Addr)} {names : List (Str × NameKind)} {y : Str} {c : Addr} (hf : ∀ z ∈ names, z.2 = .free → ∃ c, cells.lookup z.1 = some c) (h : (cloFrom cells names []).lookup y = some c) : cells.lookup y = some c := by
  rcases clo_has h with q | ⟨q, e⟩
  · cases q
  · obtain ⟨d, hd⟩ := hf _ q rfl
    rw [e, show cells.lookup y = some d from hd]
    rfl
/-! ### the generator's own scope -/
structure GSc (X : Cx) (N : List Str) (nx : Nat) (sc : Scope) : Prop where
  kind : sc.kind = .function
  co : sc.isCoroutine = false
  cell : ∀ y ∈ sc.names, y.2 ≠ .cell
  dot : sc.names.lookup (".0" : Str) = some NameKind.local
  free : ∀ y ∈ sc.names, y.2 = .free → X.env.kindOf y.1 = some .cell ∨ X.env.kindOf y.1 = some .free
  /-- the names behind the first nx are captured -/
  cap : ∀ i y, N[i]? = some y → nx ≤ i → sc.names.lookup y = some .free
/-- what stands in the captured names -/
def caps (X : Cx) (N : List Str) (nx : Nat) (σ : L2.St) : L2.St := List.replicate nx none ++ (N.drop nx).map fun y => (σ[X.N.idxOf y]?).join
abbrev gEnv (X : Cx) (sc : Scope) (C : Addr) (code : Value) (bi : Addr) : Env := genEnv sc (cloFrom X.env.cells sc.names []) C code bi X.env
/-- the context of the generator's frame -/
def gx (X : Cx) (N : List Str) (sc : Scope) (C : Addr) (code : Value) (bi : Addr) (s : Shared) (H : Hp) (A : Around) (ex : List Addr) : Cx :=
  { prog := X.prog, w := X.w, K := X.K, mg := X.mg, base := X.base, A := A, N := N, s_0 := s, H_0 := H, env := gEnv X sc C code bi, outer := X.stack, stack := gEnv X sc C code bi :: X.stack, ex := ex, fn := fun _ => false, calm := true, pn := [], xe := fun _ _ => False }
theorem over_comp {A : Around} {e : Expr} {gs : List Comprehension} {sc : Scope} {p : Pos} {it acc : Value} {env : Env} : A.over (.compLoop (.GeneratorExp e gs sc p) 0 it acc env) [] = A.deeper env := by
  first
    | rfl
    | (obtain ⟨hd, d, fr, gs, u⟩ := A; simp [Around.over, Around.deeper, marksOver, frameCount, unitsOf, envsOf, guardsOf, pushEnvs, pushGuards, Code.envs, Code.env?, Code.isFrame, Code.guards, Code.isGuard, Code.weight, Code.frames, Code.isCreation, Code.isCaller, Code.cUnits])
theorem over_start {A : Around} {e : Expr} {gs : List Comprehension} {sc : Scope} {p : Pos} {it acc : Value} {env : Env} : A.over (.compStart (.GeneratorExp e gs sc p) 0 it acc env) [] = A.deeper env := by
  first
    | rfl
    | (obtain ⟨hd, d, fr, gs, u⟩ := A; simp [Around.over, Around.deeper, marksOver, frameCount, unitsOf, envsOf, guardsOf, pushEnvs, pushGuards, Code.envs, Code.env?, Code.isFrame, Code.guards, Code.isGuard, Code.weight, Code.frames, Code.isCreation, Code.isCaller, Code.cUnits])

section
variable {X : Cx} {pins : List (Addr × Obj)} {σ : L2.St} {H : Hp} {s4 s5 : Shared} {N : List Str} {nx : Nat} {sc : Scope} {fp : List Addr} {code : Value} {B : Around} {a : Addr} {go : Obj} {it : Value}
theorem inv_gx (G : GSc X N nx sc) (hx : nx ≤ N.length) (J : Inv X pins σ H s4) (hB : B.frames = some X.stack) (hh : B.handled = none) (hf : ∀ b ∈ fp, FpOk X pins H b) (hfo : ∀ b ∈ fp, b < s4.heap.objs.size)
    (keep : ∀ b o, s4.heap.get? b = some o → s5.heap.get? b = some o) (hns : s5.heap.Ns s4.heap.objs.size (fun y => if y = ".0" then some it else none)) (os : s5.os = s4.os) (bare : AllBare s5.gens)
    (ha : s4.heap.objs.size < a) (hg : s5.heap.get? a = some go) (hgd : ∀ v, go.data ≠ .cell v) :
    Inv (gx X N sc s4.heap.objs.size code builtinsNs s4 H (B.deeper (gEnv X sc s4.heap.objs.size code builtinsNs)) fp) [(a, go)] (caps X N nx σ) H s5 := by
  have hfree : ∀ z ∈ sc.names, z.2 = .free → ∃ c, X.env.cells.lookup z.1 = some c := fun z hz e => J.ok.has _ (G.free z hz e)
  have hcl : ∀ {y c}, (cloFrom X.env.cells sc.names []).lookup y = some c → X.env.cells.lookup y = some c := fun h => clo_eq hfree h
  have nst : ∀ b, s4.heap.objs.size ≤ b → b ∉ frs X.stack := fun b hb hm => by
    rcases List.mem_cons.mp (J.stkSub b hm) with z | z
    · rw [z] at hb
      exact absurd (Nat.lt_of_lt_of_le J.lt hb) (Nat.lt_irrefl _)
    · exact J.nofs hb z
  have exst : ∀ b ∈ fp, b ∉ frs X.stack := fun b hb hm => by
    obtain ⟨_, f1, f2, _⟩ := hf b hb
    rcases List.mem_cons.mp (J.stkSub b hm) with z | z
    · exact f1 z
    · exact f2 z
  refine ⟨⟨J.mod, G.kind, J.ok.glob, rfl, Nat.le_refl _, fun x y c h1 h2 => J.ok.inj x y c (hcl h1) (hcl h2), fun x h => ?_, fun x c h _ => absurd h Bool.false_ne_true, fun _ => hh, Around.frames_deeper hB, .inr ⟨rfl, rfl⟩, fun b hb => ⟨Nat.ne_of_lt (hfo b hb), fun x c h => (hf b hb).2.2.2.2.1 x c (hcl h)⟩,
      J.bs, Nat.le_trans J.ok.bsz J.sz, fun b o e hb => ?_, exst, J.stack, J.stkFree⟩, os, bare, Un.kept keep, ⟨_, hns, fun i y v h1 h2 h3 => ?_⟩, fun y c h => ?_, J.hok.fresh (Nat.le_refl _), fun y c h => J.freeC y c (hcl h), fun p hp => ?_, J.hok.kept keep, ?_⟩
  · have h' : sc.names.lookup x = some .cell ∨ sc.names.lookup x = some .free := h
    rcases h' with h' | h'
    · exact absurd rfl (G.cell _ (PySem.mem_of_lookup h'))
    · exact clo_some (.inr (PySem.mem_of_lookup h'))
  · rcases (hf b hb).2.2.2.1 with z | z
    · exact J.ok.noex b o e z
    · exact absurd (Nat.lt_of_lt_of_le (Heap.lt_size (J.ok.bs b o e).1) z) (Nat.lt_irrefl _)
  · have h1' : N[i]? = some y := h1
    by_cases hi : i < nx
    · unfold caps at h2
      rw [List.getElem?_append_left (by simpa using hi), List.getElem?_replicate] at h2
      split at h2 <;> cases h2
    · have hi' : nx ≤ i := Nat.le_of_not_lt hi
      have hd : (N.drop nx)[i - nx]? = some y := by rw [List.getElem?_drop, show nx + (i - nx) = i by omega]; exact h1'
      have h4 : (σ[X.N.idxOf y]?).join = some v := by
        unfold caps at h2
        rw [List.getElem?_append_right (by simpa using hi'), List.length_replicate, List.getElem?_map, hd] at h2
        exact Option.some.inj h2
      have h5 : σ[X.N.idxOf y]? = some (some v) := by
        cases q : σ[X.N.idxOf y]? with
        | none =>
          rw [q] at h4
          cases h4
        | some o =>
          rw [q] at h4
          exact congrArg some h4
      have hlt : X.N.idxOf y < X.N.length := by
        have := (List.getElem?_eq_some_iff.mp h5).1
        rw [J.len] at this
        exact this
      have hN : X.N[X.N.idxOf y]? = some y := by
        rw [List.getElem?_eq_getElem hlt, List.getElem_idxOf hlt]
      have hfr := G.cap i y h1' hi'
      have hk := G.free _ (PySem.mem_of_lookup hfr) rfl
      obtain ⟨m, _, hl⟩ := J.loc
      obtain ⟨u, ru, lk⟩ := hl _ y v hN h5 (by rcases hk with z | z; exact .inr (.inl z); exact .inr (.inr z))
      refine ⟨u, ru, .inr ⟨.inr hfr, ?_⟩⟩
      rcases lk with ⟨z, _⟩ | ⟨_, c, e, ic⟩
      · have z' : X.env.kindOf y = some .local := z
        have hk' : X.env.kindOf y = some .cell ∨ X.env.kindOf y = some .free := hk
        rw [z'] at hk'
        rcases hk' with q | q <;> cases q
      · obtain ⟨c', e'⟩ := clo_some (cells := X.env.cells) (names := sc.names) (acc := []) (y := y) (.inr (PySem.mem_of_lookup hfr))
        have e2 := hcl e'
        rw [e] at e2
        cases e2
        exact ⟨c, e', ic.keeps keep⟩
  · obtain ⟨v, ic⟩ := J.cell y c (hcl h)
    exact ⟨v, ic.keeps keep⟩
  · have hp' : p = (a, go) := by simpa [gx] using hp
    subst hp'
    exact ⟨hg, J.hok.fresh (Nat.le_of_lt ha), Nat.ne_of_gt ha, nst a (Nat.le_of_lt ha), hgd⟩
  · unfold caps
    show _ = N.length
    rw [List.length_append, List.length_replicate, List.length_map, List.length_drop]
    omega
end

theorem inv_swap {X : Cx} {pins : List (Addr × Obj)} {σ : L2.St} {H : Hp} {s s' : Shared} (I : Inv X pins σ H s) (hh : s'.heap = s.heap) (ho : s'.os = s.os) (hb : AllBare s'.gens) : Inv X pins σ H s' :=
  ⟨I.ok, ho.trans I.os, hb, by rw [hh]; exact I.base, by rw [hh]; exact I.loc, by rw [hh]; exact I.cell, I.free, I.freeC, by rw [hh]; exact I.pin, by rw [hh]; exact I.hok, I.len⟩
/-! ### the generator's code, run -/
/-- seen from the def that made it -/
def At (X : Cx) (s4 : Shared) (H : Hp) (fp : List Addr) (H' : Hp) (s : Shared) : Prop := s.os = s4.os ∧ AllBare s.gens ∧ Un (frs X.stack) fp H H' s4.heap s.heap ∧ HOk X.prog X.w H' s.heap
def RG (X : Cx) (s4 : Shared) (H : Hp) (fp : List Addr) (Q : VK) : GenEnd := fun n s₀ r s1 =>
  ((r = .ok (.ret .none) ∨ r = .ok .next) ∧ ∃ H', At X s4 H fp H' s1 ∧ Q (.bl true) H') ∨ ∃ e, r = .error e ∧ False
def YG (X : Cx) (s4 : Shared) (H : Hp) (fp : List Addr) (a : Addr) (g : Nat) (Q : VK) : Protocol := fun n s₀ v s1 kap =>
  s1.heap.NoLimit ∧ s1.heap.IsGen a g ∧ ∃ H', At X s4 H fp H' s1 ∧
    ((v = .bool true ∧ ∀ s2, s2.heap = s1.heap → s2.os = s1.os → AllBare s2.gens → kap (.send .none) s2) ∨ (v = .bool false ∧ Q (.bl false) H'))
section
variable {X : Cx} {N : List Str} {sc : Scope} {C : Addr} {code : Value} {s4 : Shared} {H4 : Hp} {B : Around} {fp : List Addr} {tg elt iter : Expr} {pos : Pos} {J : It} {it a : Addr} {go : Obj} {gn : Nat} {tn : Nat → Heap → Prop} {g : TG} {te : TE} {W : Nat → L2.St → Hp → Prop} {Q : VK} {Nn : Nat}
theorem gx_over {c : Code} (h : c = .compLoop (.GeneratorExp elt [⟨tg, iter, [], 0⟩] sc pos) 0 (.ref it) .none (gEnv X sc C code builtinsNs)) : B.over c [] = (gx X N sc C code builtinsNs s4 H4 (B.deeper (gEnv X sc C code builtinsNs)) fp).A := by
  rw [h]
  exact over_comp
theorem seg_ga (hco : sc.isCoroutine = false) (T : Turn X.prog X.w X.K tg J fp it tn)
    (hg : PG (gx X N sc C code builtinsNs s4 H4 (B.deeper (gEnv X sc C code builtinsNs)) fp) tg g) (he : PE (gx X N sc C code builtinsNs s4 H4 (B.deeper (gEnv X sc C code builtinsNs)) fp) elt te)
    (hgo : ∀ h : Heap, h.get? a = some go → h.IsGen a gn)
    (stat : ∀ H', (∀ b ∈ fp, H' b = none) → ∀ b ∈ fp, FpOk (gx X N sc C code builtinsNs s4 H4 (B.deeper (gEnv X sc C code builtinsNs)) fp) [(a, go)] H' b)
    (step : ∀ i σ' H', W i σ' H' → (i = Nn ∧ J.stop i H' ∧ Q (.bl true) H') ∨ (i < Nn ∧ J.go i H' ∧ ∀ x H'', J.yld i H' x H'' → g x σ' H'' fun σ2 H3 => te σ2 H3 fun v H4 => (v = .bl true ∧ W (i + 1) σ2 H4) ∨ (v = .bl false ∧ Q (.bl false) H4))) :
    ∀ (n i : Nat) (s₀ s : Shared) (σ : L2.St) (H : Hp), n + i = Nn → Inv (gx X N sc C code builtinsNs s4 H4 (B.deeper (gEnv X sc C code builtinsNs)) fp) [(a, go)] σ H s → (∀ b ∈ fp, H b = none) → tn i s.heap → W i σ H →
      Seg (model X.prog X.w) B (RG X s4 H4 fp Q) (YG X s4 H4 fp a gn Q) n s₀ (.compLoop (.GeneratorExp elt [⟨tg, iter, [], 0⟩] sc pos) 0 (.ref it) .none (gEnv X sc C code builtinsNs))
        ((model X.prog X.w).den (.compLoop (.GeneratorExp elt [⟨tg, iter, [], 0⟩] sc pos) 0 (.ref it) .none (gEnv X sc C code builtinsNs))) [] s := by
  have ov : B.over (.compLoop (.GeneratorExp elt [⟨tg, iter, [], 0⟩] sc pos) 0 (.ref it) .none (gEnv X sc C code builtinsNs)) [] = (gx X N sc C code builtinsNs s4 H4 (B.deeper (gEnv X sc C code builtinsNs)) fp).A := over_comp
  intro n
  induction n with
  | zero =>
    intro i s₀ s σ H hn I fr st w
    have hi : i = Nn := by omega
    show Seg _ B _ _ _ s₀ _ ((compTurn (.GeneratorExp elt [⟨tg, iter, [], 0⟩] sc pos) 0 (.ref it) .none (gEnv X sc C code builtinsNs)).onRaise (leaving (gEnv X sc C code builtinsNs))) [] s
    rw [compTurn_gen, Sem.onRaise_eq_wrap]
    refine seg_bind_wrap (wpAny_standAt ?_)
    rcases step i σ H w with ⟨_, stop, q⟩ | ⟨lt, _⟩
    · refine seg_bind_wrap ?_
      rw [ov]
      refine wpAny_mono (T.done (gx X N sc C code builtinsNs s4 H4 (B.deeper (gEnv X sc C code builtinsNs)) fp) rfl rfl rfl rfl i [(a, go)] s σ H _ I (stat H fr) st stop) (fun r s1 ⟨hr, I1⟩ => ?_) fun _ _ e => e
      subst hr
      exact seg_end (.ok .next) (.inl ⟨.inr rfl, H, ⟨I1.os, I1.bare, I1.base, I1.hok⟩, q⟩)
    · omega
  | succ n ih =>
    intro i s₀ s σ H hn I fr st w
    show Seg _ B _ _ _ s₀ _ ((compTurn (.GeneratorExp elt [⟨tg, iter, [], 0⟩] sc pos) 0 (.ref it) .none (gEnv X sc C code builtinsNs)).onRaise (leaving (gEnv X sc C code builtinsNs))) [] s
    rw [compTurn_gen, Sem.onRaise_eq_wrap]
    refine seg_bind_wrap (wpAny_standAt ?_)
    rcases step i σ H w with ⟨e, _⟩ | ⟨lt, hgo1, nxt⟩
    · omega
    · refine seg_bind_wrap ?_
      rw [ov]
      refine wpAny_mono (T.item (gx X N sc C code builtinsNs s4 H4 (B.deeper (gEnv X sc C code builtinsNs)) fp) rfl rfl rfl rfl i [(a, go)] s σ H _ I (stat H fr) st hgo1) (fun r s1 ⟨u, hr, hq⟩ => ?_) fun _ _ e => e
      subst hr
      refine seg_bind_wrap ?_
      rw [ov]
      refine wpAny_mono hq (fun _ s2 ⟨x, H2, I2, rv, yl, st2, fr2⟩ => ?_) fun _ _ e => e
      have I2p := I2.pinned (stat H2 fr2) (fun b hb => T.obj _ _ st2 b hb)
      refine seg_bind_wrap ?_
      rw [ov]
      refine wpAny_mono (hg.run _ s2 σ H2 x u _ I2p rv (nxt x H2 yl)) (fun _ s3 ⟨σ3, H3, I3, q3⟩ => ?_) fun _ _ e => False.elim e
      refine seg_bind_wrap ?_
      simp only [List.forIn_nil]
      refine wpAny_pure ?_
      simp only [if_true]
      have hy : ∀ v, yieldOut (gEnv X sc C code builtinsNs) v = yieldValue v := fun v => by
        have : (gEnv X sc C code builtinsNs).scope.isCoroutine = false := hco
        simp only [yieldOut, this, Bool.false_eq_true, if_false]
      simp only [hy]
      rw [Sem.bind_eq_wrap', Sem.bind_eq_wrap', Sem.wrap_wrap, Sem.wrap_wrap]
      refine seg_wrap ?_
      rw [ov]
      refine wpAny_mono (he.run _ s3 σ3 H3 _ I3 q3) (fun y s5 ⟨v, H5, I5, r5, q5⟩ => ?_) fun _ _ e => False.elim e
      have fr5 : ∀ b ∈ fp, H5 b = none := fun b hb => by
        obtain ⟨o, ho, _⟩ := T.obj _ _ st2 b hb
        exact (I5.pin (b, o) (List.mem_append_right _ (List.mem_append_right _ (mem_pinsAt hb ho)))).2.1
      have st5 : tn (i + 1) s5.heap := T.keep _ _ _ st2 fun b hb o ho => (I5.pin (b, o) (List.mem_append_right _ (List.mem_append_right _ (mem_pinsAt hb ho)))).1
      have I6 := I5.unpinned
      have hga : s5.heap.get? a = some go := (I6.pin (a, go) (List.mem_append_right _ List.mem_cons_self)).1
      refine seg_at (seg_yield rfl rfl rfl ⟨I6.nolimit, hgo _ hga, H5, ⟨I6.os, I6.bare, I6.base, I6.hok⟩, ?_⟩)
      rcases q5 with ⟨rfl, w5⟩ | ⟨rfl, q5⟩
      · refine .inl ⟨r5, fun s6 hh ho hb => ?_⟩
        have I7 := inv_swap I6 hh ho hb
        exact seg_again rfl (ih (i + 1) s6 s6 σ3 H5 (by omega) I7 fr5 (by rw [hh]; exact st5) w5)
      · exact .inr ⟨r5, q5⟩

theorem seg_ga0 (hco : sc.isCoroutine = false) (T : Turn X.prog X.w X.K tg J fp it tn)
    (hg : PG (gx X N sc C code builtinsNs s4 H4 (B.deeper (gEnv X sc C code builtinsNs)) fp) tg g) (he : PE (gx X N sc C code builtinsNs s4 H4 (B.deeper (gEnv X sc C code builtinsNs)) fp) elt te)
    (hgo : ∀ h : Heap, h.get? a = some go → h.IsGen a gn)
    (stat : ∀ H', (∀ b ∈ fp, H' b = none) → ∀ b ∈ fp, FpOk (gx X N sc C code builtinsNs s4 H4 (B.deeper (gEnv X sc C code builtinsNs)) fp) [(a, go)] H' b)
    (step : ∀ i σ' H', W i σ' H' → (i = Nn ∧ J.stop i H' ∧ Q (.bl true) H') ∨ (i < Nn ∧ J.go i H' ∧ ∀ x H'', J.yld i H' x H'' → g x σ' H'' fun σ2 H3 => te σ2 H3 fun v H4 => (v = .bl true ∧ W (i + 1) σ2 H4) ∨ (v = .bl false ∧ Q (.bl false) H4)))
    (s₀ s : Shared) (σ : L2.St) (H : Hp) (I : Inv (gx X N sc C code builtinsNs s4 H4 (B.deeper (gEnv X sc C code builtinsNs)) fp) [(a, go)] σ H s) (fr : ∀ b ∈ fp, H b = none) (st : tn 0 s.heap) (w : W 0 σ H) :
      Seg (model X.prog X.w) B (RG X s4 H4 fp Q) (YG X s4 H4 fp a gn Q) Nn s₀ (.compStart (.GeneratorExp elt [⟨tg, iter, [], 0⟩] sc pos) 0 (.ref it) .none (gEnv X sc C code builtinsNs))
        ((model X.prog X.w).den (.compStart (.GeneratorExp elt [⟨tg, iter, [], 0⟩] sc pos) 0 (.ref it) .none (gEnv X sc C code builtinsNs))) [] s := by
  have loop := seg_ga (pos := pos) (iter := iter) hco T hg he hgo stat step Nn 0 s₀ s σ H (Nat.add_zero _) I fr st w
  show Seg _ B _ _ _ s₀ _ ((compStart (.GeneratorExp elt [⟨tg, iter, [], 0⟩] sc pos) 0 (.ref it) .none (gEnv X sc C code builtinsNs)).onRaise (leaving (gEnv X sc C code builtinsNs))) [] s
  unfold compStart
  rw [Sem.onRaise_eq_wrap]
  show Seg _ B _ _ _ s₀ _ ((ask >>= _).wrap _ _ _ _) [] s
  refine seg_bind_wrap (wpAny_askSetting ?_)
  split
  · exact seg_again rfl loop
  · first
      | exact seg_bind_wrap (wpAny_rule (seg_bind_wrap (wpAny_standAt (seg_bind_wrap (T.self _ 0 s _ _ st (seg_again rfl loop))))))
      | (refine seg_bind_wrap (wpAny_rule ?_); show Seg _ B _ _ _ s₀ _ ((standAt iter.pos >>= _).wrap _ _ _ _) [] s; exact seg_bind_wrap (wpAny_standAt (seg_bind_wrap (T.self _ 0 s _ _ st (seg_again rfl loop)))))
end
/-! ### all over such a generator -/
theorem At.kept {X : Cx} {s4 : Shared} {H : Hp} {fp : List Addr} {H' : Hp} {s s' : Shared} (h : At X s4 H fp H' s) (k : ∀ b o, s.heap.get? b = some o → s'.heap.get? b = some o) (ho : s'.os = s.os) (hb : AllBare s'.gens) : At X s4 H fp H' s' :=
  ⟨ho.trans h.1, hb, h.2.2.1.trans (Un.kept k), h.2.2.2.kept k⟩
section
variable {X : Cx} {s4 : Shared} {H4 : Hp} {fp : List Addr} {a : Addr} {gn : Nat} {Q : VK} {A : Around} {R : Result → Shared → Prop}
theorem all_ga (hh : A.handled = none) (hd : A.depth < recursionLimit) (hT : ∀ s' H' b, At X s4 H4 fp H' s' → Q (.bl b) H' → R (.ok (.ret (.bool b))) s') :
    ∀ (n : Nat) (s : Shared), s.heap.IsGen a gn → s.heap.NoLimit →
      (∃ gs, s.gens[gn]? = some gs ∧ gs.Goes (model X.prog X.w) A.in1.in1 (RG X s4 H4 fp Q) (YG X s4 H4 fp a gn Q) n (.send .none) (s.setGen gn .running)) →
      codeAny (model X.prog X.w) A (.builtin "all.loop" ⟨[.ref a], []⟩) R s := by
  have goes : ∀ {gs : GenState} {B : Around} {n : Nat} {r : Resume} {s : Shared}, gs.Goes (model X.prog X.w) B (RG X s4 H4 fp Q) (YG X s4 H4 fp a gn Q) n r s →
      gs.Goes (model X.prog X.w) B (fun n s₀ r s1 => ((r = .ok (.ret .none) ∨ r = .ok .next) ∧ (∃ H', At X s4 H4 fp H' s1 ∧ Q (.bl true) H')) ∨ ∃ e, r = .error e ∧ False) (YG X s4 H4 fp a gn Q) n r s := fun h => h
  intro n
  induction n with
  | zero =>
    intro s hg hl ⟨gs, hgs, hgo⟩
    refine codeAny_builtin F.entry_all_loop ?_
    rw [Around.under_plainId F.plain_all_loop _]
    show wpAny _ A.in1 (pyNext (.ref a) >>= _) _ _ s
    refine wpAny_bind (next_genG (A := A.in1) (Er := fun _ _ => False) hh hl hd hg hgs (goes hgo) (fun v s₁ gs' hbare hv => ?_) (fun s₁ hp h' hk => ?_) fun e s₁ he => he.elim)
    · obtain ⟨_, _, H', at1, hv⟩ := hv
      rcases hv with ⟨_, k⟩ | ⟨rfl, q⟩
      · exact False.elim (k s₁ rfl rfl at1.2.1)
      · refine wpAny_bind (wpAny_holding (wpAny_truthy_bool ?_))
        refine wpAny_bind (wpAny_letGo ?_)
        simp only [Bool.false_eq_true, if_false]
        refine wpAny_bind (wpAny_rule (wpAny_pure ?_))
        exact hT _ H' false (at1.kept (fun _ _ e => e) rfl (allBare_setGen at1.2.1 hbare)) q
    · obtain ⟨H', at1, q⟩ := hp
      refine wpAny_bind (wpAny_rule (wpAny_pure ?_))
      exact hT _ H' true (at1.kept hk rfl (allBare_setGen at1.2.1 rfl)) q
  | succ n ih =>
    intro s hg hl ⟨gs, hgs, hgo⟩
    have hgl : gn < s.gens.size := (Array.getElem?_eq_some_iff.mp hgs).1
    refine codeAny_builtin F.entry_all_loop ?_
    rw [Around.under_plainId F.plain_all_loop _]
    show wpAny _ A.in1 (pyNext (.ref a) >>= _) _ _ s
    refine wpAny_bind (wpAny_gsz (n := gn + 1) hgl (next_genG (A := A.in1) (Er := fun _ _ => False) hh hl hd hg hgs (goes hgo) (fun v s₁ gs' hbare hv => ?_) (fun s₁ hp h' hk => ?_) fun e s₁ he => he.elim))
    · intro hsz
      obtain ⟨hl1, hg1, H', at1, hv⟩ := hv
      rcases hv with ⟨rfl, k⟩ | ⟨rfl, q⟩
      · refine wpAny_bind (wpAny_holding (wpAny_truthy_bool ?_))
        refine wpAny_bind (wpAny_letGo ?_)
        simp only [if_true]
        have hsz1 : gn < s₁.gens.size := by
          have q : (s₁.setGen gn gs').gens.size = s₁.gens.size := setGen_size _ _ _
          have hsz' : gn + 1 ≤ (s₁.setGen gn gs').gens.size := hsz
          omega
        refine wpAny_pure ⟨plainId_quiet F.plain_all_loop _, ih (s₁.setGen gn gs') hg1 hl1 ⟨gs', setGen_at hsz1, ?_⟩⟩
        exact k _ rfl rfl (allBare_setGen (allBare_setGen at1.2.1 hbare) rfl)
      · refine wpAny_bind (wpAny_holding (wpAny_truthy_bool ?_))
        refine wpAny_bind (wpAny_letGo ?_)
        simp only [Bool.false_eq_true, if_false]
        refine wpAny_bind (wpAny_rule (wpAny_pure ?_))
        exact hT _ H' false (at1.kept (fun _ _ e => e) rfl (allBare_setGen at1.2.1 hbare)) q
    · intro hsz
      obtain ⟨H', at1, q⟩ := hp
      refine wpAny_bind (wpAny_rule (wpAny_pure ?_))
      exact hT _ H' true (at1.kept hk rfl (allBare_setGen at1.2.1 rfl)) q
end

/-! ### the expression -/
/-- all(elt for target in iter): Nn turns at most; W what holds ahead of the i-th -/
def tAllW (X : Cx) (P : Addr) (N : List Str) (nx : Nat) (wi : TI) (g : TG) (te : TE) : TE := fun σ H Q => wi σ H fun J H1 => TabG H1 P ∧ ∀ H2, Tabbed P H1 H2 →
  ∃ (Nn : Nat) (W : Nat → L2.St → Hp → Prop), W 0 (caps X N nx σ) H2 ∧ ∀ i σ' H', W i σ' H' → (i = Nn ∧ J.stop i H' ∧ Q (.bl true) H') ∨
    (i < Nn ∧ J.go i H' ∧ ∀ x H'', J.yld i H' x H'' → g x σ' H'' fun σ2 H3 => te σ2 H3 fun v H4 => (v = .bl true ∧ W (i + 1) σ2 H4) ∨ (v = .bl false ∧ Q (.bl false) H4))
section
variable {X : Cx} {pl : List (Addr × Obj)} {st : L2.St} {hp : Hp} {z : Shared}
theorem pe_allW {c P : Addr} {elt iter tg : Expr} {p pos gp : Pos} {sc : Scope} {N : List Str} {nx : Nat} {wi : TI} {g : TG} {te : TE} {k : Nat}
    (room : Room (k + 1) X.A) (hg : Gl X "all") (hm : X.mg "all" = none) (hb : bootBuiltins "all" = some (.builtin "all")) (tb : TabB X.base X.mg c P) (cd : X.env.code = .ref c) (G : GSc X N nx sc) (hx : nx ≤ N.length) (hi : PI X tg iter wi)
    (hpg : ∀ (C : Addr) (code : Value) (s4 : Shared) (H4 : Hp) (A : Around) (fp : List Addr), Room k A → PG (gx X N sc C code builtinsNs s4 H4 A fp) tg g)
    (hpe : ∀ (C : Addr) (code : Value) (s4 : Shared) (H4 : Hp) (A : Around) (fp : List Addr), Room k A → PE (gx X N sc C code builtinsNs s4 H4 A fp) elt te)
    (fold : ∀ v, genFold iter X.env v = pure v)
    (se : starEach [.GeneratorExp elt [⟨tg, iter, [], 0⟩] sc gp] X.env = (false, eval (.GeneratorExp elt [⟨tg, iter, [], 0⟩] sc gp) X.env) :: starEach [] X.env := by rfl) :
    PE X (.Call (.Name "all" p) [.GeneratorExp elt [⟨tg, iter, [], 0⟩] sc gp] [] pos) (tAllW X P N nx wi g te) := by
  refine ⟨fun pl z st hp Q inv yes => ?_⟩
  have glob : X.env.globals = mainGlobals := inv.ok.glob
  refine wpAny_Call_Name_kw (ld_blt inv hg hm hb ?_)
  refine PyProof.Rows.callWith_builtin1 ?_ se (by rfl)
  rw [se]
  show wpAny _ _ (spliced ((false, eval (.GeneratorExp elt [⟨tg, iter, [], 0⟩] sc gp) X.env) :: backTo pos (starEach [] X.env))) _ _ z
  refine Calls.spliced_cons ?_
  have hfree : ∀ y ∈ sc.names, y.2 = .free → ∃ c, X.env.cells.lookup y.1 = some c := fun y hy e => inv.ok.has _ (G.free y hy e)
  refine wpAny_GeneratorExp_make G.co (closure_ok hfree) G.cell G.dot G.kind (by have := room.dp; omega) ?_ fold
  refine thn (hi.run pl z st hp _ inv yes) fun xv s1 h1 => thn h1 fun itv s2 ⟨it, fp, tn, J, H1, e1, I2, T, st2, f2, ⟨⟨tab, hT, tri⟩, yes2⟩⟩ => ⟨I2.nolimit, ?_⟩
  subst e1
  have tabAt : s2.heap.get? P = some { cls := .none, data := .fields tab } := I2.hok P _ hT
  have code2 : PySem.W.CodeHd s2.heap c P := tb.code.keeps fun b u q => I2.bk b u q
  have nsG : s2.heap.Ns mainGlobals X.mg := I2.mod.glob.keeps I2.bk
  have fpP : ∀ b ∈ fp, b ≠ P := fun b hb e => by
    have h0 := (f2 b hb).1
    rw [e, hT] at h0
    cases h0
  have rest : ∀ (cv : Value) (h3 : Heap) (t3 : Nat) (tab' : Array Value), Heap.ExtBut P s2.heap h3 → s2.heap.objs.size ≤ h3.objs.size → h3.get? P = some { cls := .none, data := .fields tab' } →
      (∃ more, tab' = tab ++ more) → TriplesOk tab'.toList →
      wpAny (model X.prog X.w) X.A (builtinsFor X.env.globals X.env.builtins) (fun bi s₄ => ∀ h', h'.Ns s₄.heap.objs.size (fun y => if y = ".0" then some (.ref it) else none) → Heap.SameBut s₄.heap.objs.size (s₄.heap.push { cls := .type "frame", data := .dict #[] }) h' →
        wpAny (model X.prog X.w) X.A (spliced (backTo pos (starEach [] X.env))) (fun vs s' => wpAny (model X.prog X.w) X.A (call (.builtin "all") (.ref h'.objs.size :: vs)) (EP X pl st Q) X.xe s') X.xe { s₄ with
            gens := s₄.gens.push (.fresh (.compStart (.GeneratorExp elt [⟨tg, iter, [], 0⟩] sc gp) 0 (.ref it) .none (genEnv sc (cloFrom X.env.cells sc.names []) s₄.heap.objs.size cv bi X.env))),
            toks := s₄.toks + 1 + 1 + 1,
            heap := h'.push { cls := .type "generator", data := .fields #[.int s₄.gens.size 0, .str "<genexpr>" (s₄.toks + 1), .str (X.env.qual ++ "<genexpr>") (s₄.toks + 1 + 1)] } }) X.xe { s2 with heap := h3, toks := t3 } := by
    intro cv h3 t3 tab' ext big tabAt3 ⟨more, em⟩ tri3
    obtain ⟨bm, ob, b1, b2, b3, b4, b5, b6, b7, b8⟩ := tb.bm
    have stay : ∀ b u, b ≠ P → s2.heap.get? b = some u → h3.get? b = some u := fun b u hb q => ext b u hb q
    have nsG3 : h3.Ns mainGlobals X.mg := nsG.extBut ext tb.gP
    refine wpAny_builtinsFor (m := X.mg) (by rw [glob]; exact nsG3) b1 b2 (stay _ _ b4 (I2.bk _ _ b5)) b6 b7 b8 ?_
    intro h' hns hsb
    have I4 := inv_tab (more := more) (h' := h3) (g' := s2.gens) (d' := s2.drawn) (t' := t3) I2 hT (fun b u hb q => stay b u hb q) (by rw [← em]; exact tabAt3) I2.bare
    have td : Tabbed P H1 (upd H1 P (.tbl (tab ++ more))) := ⟨⟨tab ++ more, upd_same, by rw [← em]; exact tri3⟩, fun b hb => upd_ne hb⟩
    obtain ⟨Nn, W, w0, step⟩ := yes2 _ td
    have f4 : ∀ b ∈ fp, FpOk X pl (upd H1 P (.tbl (tab ++ more))) b := fun b hb => ⟨by rw [upd_ne (fpP b hb)]; exact (f2 b hb).1, (f2 b hb).2⟩
    have st4 : tn 0 h3 := T.keep _ _ _ st2 fun b hb o q => stay b o (fpP b hb) q
    have hfo : ∀ b ∈ fp, b < h3.objs.size := fun b hb => by
      obtain ⟨o, q, _⟩ := T.obj _ _ st4 b hb
      exact Heap.lt_size q
    have hsz : h'.objs.size = h3.objs.size + 1 := by rw [hsb.1, Heap.size_push]
    have keep' : ∀ b o, h3.get? b = some o → h'.get? b = some o := fun b o e => hsb.extBut b o (Nat.ne_of_lt (Heap.lt_size e)) (Heap.get?_push_of_some _ e)
    refine Calls.spliced_nil ?_
    have keep5 : ∀ b o, h3.get? b = some o → (h'.push { cls := .type "generator", data := .fields #[.int s2.gens.size 0, .str "<genexpr>" (t3 + 1), .str (X.env.qual ++ "<genexpr>") (t3 + 1 + 1)] }).get? b = some o :=
      fun b o e => Heap.get?_push_of_some _ (keep' b o e)
    have hgen : ∀ h : Heap, h.get? h'.objs.size = some { cls := .type "generator", data := .fields #[.int s2.gens.size 0, .str "<genexpr>" (t3 + 1), .str (X.env.qual ++ "<genexpr>") (t3 + 1 + 1)] } → h.IsGen h'.objs.size s2.gens.size := fun h e => ⟨_, _, _, e, rfl, rfl, rfl⟩
    have hge : (h'.push { cls := .type "generator", data := .fields #[.int s2.gens.size 0, .str "<genexpr>" (t3 + 1), .str (X.env.qual ++ "<genexpr>") (t3 + 1 + 1)] }).get? h'.objs.size = some { cls := .type "generator", data := .fields #[.int s2.gens.size 0, .str "<genexpr>" (t3 + 1), .str (X.env.qual ++ "<genexpr>") (t3 + 1 + 1)] } := Heap.get?_push_size _ rfl
    have bare5 : AllBare (s2.gens.push (.fresh (.compStart (.GeneratorExp elt [⟨tg, iter, [], 0⟩] sc gp) 0 (.ref it) .none (genEnv sc (cloFrom X.env.cells sc.names []) h3.objs.size cv builtinsNs X.env)))) := I2.bare.push rfl
    refine call_function_tree F.kind_all F.plain_all F.entry_all (F.args_all1 _) ?_
    unfold Builtin.«all»
    refine wpAny_bind (m := oneArg "all" _) (wpAny_pure ?_)
    refine wpAny_bind (wpAny_pyIter_gen (hgen _ hge) ?_)
    refine wpAny_pure ⟨plainId_quiet F.plain_all_loop _, ?_⟩
    refine all_ga (X := X) (s4 := { s2 with heap := h3, toks := t3 }) (H4 := upd H1 P (.tbl (tab ++ more))) (fp := fp) (Q := Q) (gn := s2.gens.size) (A := X.A) room.hd (by have := room.dp; omega) (fun s' H' b at1 q => ?_) Nn _ (hgen _ hge) (I4.nolimit.keeps keep5) ⟨_, Array.getElem?_push_size .., rfl, ?_⟩
    · have I9 := I4.call' (ch := fp) at1.1 at1.2.2.1 at1.2.2.2 at1.2.1 fun b hb => ⟨(f4 b hb).2.2.2.1, (f4 b hb).2.1, (f4 b hb).2.2.2.2.1, (f4 b hb).2.2.2.2.2⟩
      exact ⟨.bl b, H', I9, rfl, q⟩
    · have ha : h3.objs.size < h'.objs.size := by omega
      have roomB : Room k (X.A.in1.in1.deeper (gEnv X sc h3.objs.size cv builtinsNs)) := ⟨room.hd, by have := room.dp; show X.A.depth + 1 + 3 * k + 5 < _; omega, by have := room.un; show X.A.units + 1 + 1 + 3 + 16 * k + 200 < _; omega⟩
      have I5 := inv_gx (X := X) (B := X.A.in1.in1) (code := cv) (fp := fp) (a := h'.objs.size) (it := .ref it) (s4 := { s2 with heap := h3, toks := t3 })
        (s5 := Shared.setGen { s2 with gens := s2.gens.push (.fresh (.compStart (.GeneratorExp elt [⟨tg, iter, [], 0⟩] sc gp) 0 (.ref it) .none (genEnv sc (cloFrom X.env.cells sc.names []) h3.objs.size cv builtinsNs X.env))), toks := t3 + 1 + 1 + 1, heap := h'.push { cls := .type "generator", data := .fields #[.int s2.gens.size 0, .str "<genexpr>" (t3 + 1), .str (X.env.qual ++ "<genexpr>") (t3 + 1 + 1)] } } s2.gens.size .running)
        G hx I4 I4.ok.frames room.hd f4 hfo keep5 (hns.push _) rfl (allBare_setGen bare5 rfl) ha hge (fun v q => by cases q)
      refine seg_ga0 (X := X) (N := N) (sc := sc) (C := h3.objs.size) (code := cv) (s4 := { s2 with heap := h3, toks := t3 }) (H4 := upd H1 P (.tbl (tab ++ more))) (B := X.A.in1.in1) (fp := fp) (a := h'.objs.size) (gn := s2.gens.size) (Q := Q) (W := W) (Nn := Nn)
        G.co T (hpg _ _ _ _ _ _ roomB) (hpe _ _ _ _ _ _ roomB) hgen (fun H' hn b hb => ?_) step _ _ _ _ I5 (fun b hb => (f4 b hb).1) (T.keep _ _ _ st4 fun b hb o q => keep5 b o q) w0
      refine ⟨hn b hb, Nat.ne_of_lt (hfo b hb), fun hm => ?_, .inl hb, fun y c h => (f4 b hb).2.2.2.2.1 y c (clo_eq hfree h), fun q hq => ?_⟩
      · rcases List.mem_cons.mp (I4.stkSub b hm) with z | z
        · exact (f4 b hb).2.1 z
        · exact (f4 b hb).2.2.1 z
      · have h7 := hq
        simp [gx] at h7
        rw [h7]
        exact Nat.ne_of_gt (Nat.lt_trans (hfo b hb) ha)
  cases among : codeAmong gp tab.toList with
  | none =>
    refine wpAny_genexprCodeX cd (code2.code tabAt tri) (code2.tab tabAt) among fun c2 h2 t2 ext ge lt isC _ tabE _ => ?_
    obtain ⟨o1, vs, f1, tf, fl, tg', inF, tx, tt, op, _, _, _, _, _, _, _, _, _, tr2, _⟩ := isC
    exact rest _ h2 t2 _ ext (Nat.le_trans ge (Nat.le_of_lt lt)) tabE.2 ⟨_, rfl⟩ tr2
  | some cv =>
    refine wpAny_genexprCode_hit cd (code2.code tabAt tri) among ?_
    exact rest cv s2.heap s2.toks tab (Heap.ExtBut.refl _ _) (Nat.le_refl _) tabAt ⟨#[], by simp⟩ tri
end
end GA
namespace GA
open PySem PySem.Spec PyProof.Rows L2 GxR GenW
/-- a scope without captured names -/
theorem gsc0 {X : Cx} {N : List Str} {nx : Nat} {sc : Scope} (h1 : sc.kind = .function) (h2 : sc.isCoroutine = false) (h3 : sc.names.lookup (".0" : Str) = some NameKind.local)
    (h4 : (sc.names.all fun y => decide (y.2 ≠ .cell) && decide (y.2 ≠ .free)) = true) (h5 : N.length ≤ nx) : GSc X N nx sc := by
  have q : ∀ y ∈ sc.names, y.2 ≠ .cell ∧ y.2 ≠ .free := fun y hy => by
    have := List.all_eq_true.mp h4 y hy
    rw [Bool.and_eq_true, decide_eq_true_eq, decide_eq_true_eq] at this
    exact this
  exact ⟨h1, h2, fun y hy => (q y hy).1, h3, fun y hy e => absurd e (q y hy).2, fun i y hi hn => absurd (List.getElem?_eq_some_iff.mp hi).1 (by omega)⟩
/-- a def as it stands behind the top, its code object at c -/
structure DefC (K : PySem.W.Frag) (x qual : Str) (st : Stmt) (c : Addr) (f : Addr) (fd : FuncData) : Prop where
  ex : ∃ (oc : Value) (od : Option Addr) (dV kV doc pm : Value) (an : Option Addr) (ct : Value) (osl : Array (Option Value)),
    fd = PySem.W.fnOf x qual (defArgs st) (defBody st) (defScope st) dV kV doc pm an (.ref c) ct ∧ K.lookup f = some ⟨oc, od, .func fd, osl⟩ ∧ PySem.W.codeIn K (.ref c) qual = true
section
variable {P : Program} {w : World} {K : PySem.W.Frag} {mg : Str → Option Value} {base : Heap} {x qual : Str} {st : Stmt} {c f : Addr} {fd : FuncData}
theorem DefC.ok {CX : CXT} {N ps : List Str} {k : Nat} {sp : Sp} (F : DefC K x qual st c f fd) (S : FnScope N ps (defScope st)) (len : ∀ vs H Q E, sp vs H Q E → vs.length = ps.length)
    (hbody : ∀ (A : Around) (outer : List Env) (s : Shared) (H : Hp) (vs : List V) (Q : VK) (E : XK), Room k (A.deeper (envOfC qual (defScope st) s.heap.objs.size f (.ref c))) → sp vs H Q E →
      ∃ t, PSs (cxOf CX P w K mg base N qual (defScope st) f (.ref c) A outer s H E) (defBody st) t ∧ t { nx := fun _ H' => Q .non H', rt := Q } (start N vs) H) : FnOk P w K mg base CX (k + 1) f fd ps sp := by
  obtain ⟨oc, od, dV, kV, doc, pm, an, ct, osl, rfl, lk, hcd⟩ := F.ex
  exact fn_of lk hcd S len fun A outer s H vs Q E hr hsp => hbody A outer s H vs Q E hr hsp
end
end GA

namespace SL
open PySem PySem.Spec PyProof.Rows L2 SX
/-! ### texts by their code points: rules -/
variable {X : Cx}
theorem pe_strL {x : Str} {j pos} (l : List Nat) (h : x = S l) : PE X (.Constant (.str x) j pos) (tC (.str (S l))) := by
  subst h
  exact pe_str
theorem V_str_S {a b : List Nat} : decide (V.str (S a) = V.str (S b)) = decide (a = b) := by
  rw [decide_eq_decide]
  exact ⟨fun h => S_inj (V.str.inj h), fun h => by rw [h]⟩
def rEqL : R2 := fun x y H Q => ∃ a b, x = .str (S a) ∧ y = .str (S b) ∧ Q (.bl (decide (a = b))) H
def rNeL : R2 := fun x y H Q => ∃ a b, x = .str (S a) ∧ y = .str (S b) ∧ Q (.bl (!decide (a = b))) H
theorem op_eqL : OpR X (compareOp .Eq) rEqL := by
  intro pins s σ H x y v u Q I rx ry h
  obtain ⟨a, b, rfl, rfl, q⟩ := h
  exact op_eq pins s σ H _ _ v u Q I rx ry ⟨rfl, by rw [V_str_S]; exact q⟩
theorem op_neL : OpR X (compareOp .NotEq) rNeL := by
  intro pins s σ H x y v u Q I rx ry h
  obtain ⟨a, b, rfl, rfl, q⟩ := h
  exact op_ne pins s σ H _ _ v u Q I rx ry ⟨rfl, by rw [V_str_S]; exact q⟩
theorem sz {n : Nat} (h : n ≤ 100000) : n ≤ sizeLine := Nat.le_trans h (by decide)
def rAddL : R2 := fun x y H Q => ∃ a b, x = .str (S a) ∧ y = .str (S b) ∧ a.length + b.length ≤ 100000 ∧ Q (.str (S (a ++ b))) H
theorem op_addL : OpR X (binaryOp .Add) rAddL := by
  intro pins s σ H x y v u Q I rx ry h
  obtain ⟨a, b, rfl, rfl, hz, q⟩ := h
  exact op_add_str pins s σ H _ _ v u Q I rx ry ⟨S a, S b, rfl, rfl, by rw [S_len, S_len]; exact sz hz, by rw [S_cat]; exact q⟩
theorem iop_addL : OpR X (inplaceOp .Add) rAddL := by
  intro pins s σ H x y v u Q I rx ry h
  obtain ⟨a, b, rfl, rfl, hz, q⟩ := h
  exact iop_add_str pins s σ H _ _ v u Q I rx ry ⟨S a, S b, rfl, rfl, by rw [S_len, S_len]; exact sz hz, by rw [S_cat]; exact q⟩
theorem occ_nil (a : List Nat) : (!(Builtin.Str.occurrences (S a) (S []) 0 (S a).length 1).isEmpty) = true :=
  (StrLaws.found_iff (S a) (S [])).mpr ⟨0, Nat.zero_le _, by rw [StrLaws.subAt_eq]; rfl⟩
/-- is b, a sign or nothing, in a -/
def inL (b a : List Nat) : Bool := match b with
  | [] => true
  | c :: _ => decide (c ∈ a)
theorem occ_in {b a : List Nat} (h : b.length ≤ 1) : (!(Builtin.Str.occurrences (S a) (S b) 0 (S a).length 1).isEmpty) = inL b a := by
  match b, h with
  | [], _ => exact occ_nil a
  | [c], _ => exact in_one a c
  | _ :: _ :: _, h => simp at h
def rInL : R2 := fun x y H Q => ∃ b a, x = .str (S b) ∧ y = .str (S a) ∧ b.length ≤ 1 ∧ Q (.bl (inL b a)) H
def rNotInL : R2 := fun x y H Q => ∃ b a, x = .str (S b) ∧ y = .str (S a) ∧ b.length ≤ 1 ∧ Q (.bl (!inL b a)) H
theorem op_inL : OpR X (compareOp .In) rInL := by
  intro pins s σ H x y v u Q I rx ry h
  obtain ⟨b, a, rfl, rfl, hz, q⟩ := h
  exact op_in_str pins s σ H _ _ v u Q I rx ry ⟨S b, S a, rfl, rfl, by rw [occ_in hz]; exact q⟩
theorem op_notInL : OpR X (compareOp .NotIn) rNotInL := by
  intro pins s σ H x y v u Q I rx ry h
  obtain ⟨b, a, rfl, rfl, hz, q⟩ := h
  exact op_notin_str pins s σ H _ _ v u Q I rx ry ⟨S b, S a, rfl, rfl, by rw [occ_in hz]; exact q⟩
/-- an item, from the left -/
def rIxSL : R2 := fun x y H Q => ∃ a i, x = .str (S a) ∧ y = .int i ∧ a.length ≤ 100000 ∧ 0 ≤ i ∧ i < a.length ∧ ∀ c, a[i.toNat]? = some c → Q (.str (S [c])) H
theorem ix_strL : IxR X rIxSL := by
  have hh : ∀ {x y : V} {H : Hp} {Q : VK}, rIxSL x y H Q → rIxS x y H Q := by
    intro x y H Q h
    obtain ⟨a, i, rfl, rfl, hz, h0, h1, q⟩ := h
    obtain ⟨n, rfl⟩ := Int.eq_ofNat_of_zero_le h0
    have hn : n < a.length := by omega
    have e : a[n]? = some a[n] := List.getElem?_eq_getElem hn
    exact ⟨S a, (n : Int), a[n], rfl, rfl, by rw [S_len]; exact sz hz, atI_nat e, q _ e⟩
  intro value slice pins s σ H x y v u Q I rx ry h hsub
  exact ix_str value slice pins s σ H x y v u Q I rx ry (hh h) hsub
/-- slices with bounds from the left -/
def cutL (a : List Nat) (lo hi : Option Int) : List Nat := match hi with
  | none => a.drop (lo.getD 0).toNat
  | some h => (a.take h.toNat).drop (lo.getD 0).toNat
theorem sIx_pos {n d : Nat} {i : Int} (h : 0 ≤ i) : HT.sIx n d (some i) = min i.toNat n := by
  unfold HT.sIx
  first
    | (rw [if_neg (by omega)]; omega)
    | (simp only; split <;> omega)
theorem cutS_L {a : List Nat} {lo hi : Option Int} (h1 : 0 ≤ lo.getD 0) (h2 : 0 ≤ hi.getD 0) : cutS (S a) lo hi = S (cutL a lo hi) := by
  have hl : (S a).length = a.length := S_len a
  have e0 : HT.sIx (S a).length 0 lo = min (lo.getD 0).toNat a.length := by
    rw [hl]
    cases lo with
    | none => show (0 : Nat) = _; simp
    | some i => exact sIx_pos h1
  unfold cutS
  rw [e0]
  refine congrArg S ?_
  show (a.drop _).take _ = _
  cases hi with
  | none =>
    have e1 : HT.sIx (S a).length (S a).length none = a.length := by rw [hl]; rfl
    rw [e1]
    show _ = a.drop (lo.getD 0).toNat
    rw [List.take_of_length_le (by rw [List.length_drop]; omega)]
    by_cases z : (lo.getD 0).toNat ≤ a.length
    · rw [Nat.min_eq_left z]
    · rw [Nat.min_eq_right (by omega), List.drop_eq_nil_of_le (Nat.le_refl _), List.drop_eq_nil_of_le (by omega)]
  | some h =>
    have e1 : HT.sIx (S a).length (S a).length (some h) = min h.toNat a.length := by rw [hl]; exact sIx_pos h2
    rw [e1]
    show _ = (a.take h.toNat).drop (lo.getD 0).toNat
    generalize (lo.getD 0).toNat = p
    generalize h.toNat = q
    rw [← List.drop_take]
    have ht : a.take (min q a.length) = a.take q := by
      by_cases z : q ≤ a.length
      · rw [Nat.min_eq_left z]
      · rw [Nat.min_eq_right (by omega), List.take_of_length_le (Nat.le_refl _), List.take_of_length_le (by omega)]
    rw [ht]
    by_cases z : p ≤ a.length
    · rw [Nat.min_eq_left z]
    · rw [Nat.min_eq_right (by omega), List.drop_eq_nil_of_le (by rw [List.length_take]; omega), List.drop_eq_nil_of_le (by rw [List.length_take]; omega)]
def rSlL : V → Option Int → Option Int → Hp → VK → Prop := fun x lo hi H Q => ∃ a, x = .str (S a) ∧ (a.length ≤ 100000 ∧ 0 ≤ lo.getD 0 ∧ 0 ≤ hi.getD 0) ∧ Q (.str (S (cutL a lo hi))) H
theorem sl_L : SlR X rSlL := by
  intro pins s σ H x v vl vu lo hi sl Q I rx hs pl pu h
  obtain ⟨a, rfl, ⟨hz, h1, h2⟩, q⟩ := h
  exact sl_str pins s σ H _ v vl vu lo hi sl Q I rx hs pl pu ⟨S a, rfl, by rw [S_len]; exact sz hz, by rw [cutS_L h1 h2]; exact q⟩
theorem call_lenL : CallR X (.builtin "len") (fun xs H Q => ∃ a, xs = [.str (S a)] ∧ a.length ≤ 100000 ∧ Q (.int a.length) H) := by
  intro pins s σ H xs us Q I r h
  obtain ⟨a, rfl, hz, q⟩ := h
  exact call_len_str pins s σ H _ us Q I r ⟨S a, rfl, by rw [S_len]; exact sz hz, by rw [S_len]; exact q⟩
end SL

/-! dotted names: a text as its parts, joined by points -/
namespace DN
open PySem PySem.Spec PyProof.Rows L2 SX
def dot (ps : List (List Nat)) : List Nat := TL.joinL [46] ps
theorem dot_nil : dot [] = [] := rfl
theorem dot_one (p : List Nat) : dot [p] = p := rfl
theorem dot_cons (p : List Nat) {ps : List (List Nat)} (h : ps ≠ []) : dot (p :: ps) = p ++ 46 :: dot ps := by
  cases ps with
  | nil => exact absurd rfl h
  | cons q r => rfl
theorem dot_snoc : ∀ {ps : List (List Nat)} (p : List Nat), ps ≠ [] → dot (ps ++ [p]) = dot ps ++ 46 :: p
  | [], _, h => absurd rfl h
  | [q], p, _ => rfl
  | q :: z :: r, p, _ => by
    rw [List.cons_append, dot_cons q (by simp), dot_snoc (ps := z :: r) p (by simp), dot_cons q (by simp), List.append_assoc]
    rfl
theorem dot_app : ∀ {ps qs : List (List Nat)}, ps ≠ [] → qs ≠ [] → dot (ps ++ qs) = dot ps ++ 46 :: dot qs
  | [], _, h, _ => absurd rfl h
  | [p], qs, _, hq => dot_cons p hq
  | p :: z :: r, qs, _, hq => by
    rw [List.cons_append, dot_cons p (by simp), dot_app (ps := z :: r) (by simp) hq, dot_cons p (by simp), List.append_assoc]
    rfl
/-- parts without a point, not empty -/
def GP (ps : List (List Nat)) : Prop := ∀ p ∈ ps, p ≠ [] ∧ 46 ∉ p
theorem GP.tail {p : List Nat} {ps : List (List Nat)} (h : GP (p :: ps)) : GP ps := fun q hq => h q (List.mem_cons_of_mem _ hq)
theorem GP.head {p : List Nat} {ps : List (List Nat)} (h : GP (p :: ps)) : p ≠ [] ∧ 46 ∉ p := h p List.mem_cons_self
theorem GP.take {ps : List (List Nat)} (h : GP ps) (k : Nat) : GP (ps.take k) := fun q hq => h q (List.mem_of_mem_take hq)
theorem GP.app {ps qs : List (List Nat)} (h : GP ps) (g : GP qs) : GP (ps ++ qs) := fun q hq => (List.mem_append.mp hq).elim (h q) (g q)
theorem GP.left {ps qs : List (List Nat)} (h : GP (ps ++ qs)) : GP ps := fun q hq => h q (List.mem_append_left _ hq)
theorem GP.right {ps qs : List (List Nat)} (h : GP (ps ++ qs)) : GP qs := fun q hq => h q (List.mem_append_right _ hq)
theorem split_dot {ps : List (List Nat)} (h0 : ps ≠ []) (h : GP ps) : Txt.split (S (dot ps)) (S [46]) = ps.map S := by
  rw [split_S (by simp) (by decide)]
  exact congrArg (List.map S) (TL.spl_join (s := 46) (S := []) h0 fun p hp => (h p hp).2)
theorem partsFrom_len (x : Str) (w : Nat) : ∀ (cuts : List Nat) (a : Nat), (PySem.StrLaws.partsFrom x w a cuts).length = cuts.length + 1
  | [], _ => rfl
  | c :: r, a => by
    show (PySem.StrLaws.partsFrom x w (c + w) r).length + 1 = r.length + 1 + 1
    rw [partsFrom_len x w r]
theorem count_dot {ps : List (List Nat)} (h0 : ps ≠ []) (h : GP ps) : Txt.count (S (dot ps)) (S [46]) = ((ps.length - 1 : Nat) : Int) := by
  obtain ⟨f, g, hn⟩ := PySem.StrLaws.occ_tight (S (dot ps)) (S [46]) (by decide)
  have key := TL.parts_spl (x := S (dot ps)) (y := S [46]) (by simp [S, TL.tl]) _ 0 f (Nat.zero_le _) g hn
  have e1 := congrArg List.length key
  rw [List.length_map, partsFrom_len] at e1
  have e2 : (TL.spl (TL.tl (S [46])) 0 [] ((TL.tl (S (dot ps))).drop 0)).length = ps.length := by
    rw [List.drop_zero]
    exact congrArg List.length (TL.spl_join (s := 46) (S := []) h0 fun p hp => (h p hp).2)
  rw [e2] at e1
  show ((_ : Nat) : Int) = _
  omega
theorem dot_ne {ps : List (List Nat)} (h0 : ps ≠ []) (h : GP ps) : dot ps ≠ [] := by
  cases ps with
  | nil => exact absurd rfl h0
  | cons p r =>
    intro e
    cases r with
    | nil => exact h.head.1 e
    | cons q r =>
      rw [dot_cons p (by simp)] at e
      simp at e
theorem dot_inj {ps qs : List (List Nat)} (hp : GP ps) (hq : GP qs) (e : dot ps = dot qs) : ps = qs := by
  by_cases h0 : ps = []
  · subst h0
    by_cases h1 : qs = []
    · exact h1.symm
    · exact absurd e.symm (dot_ne h1 hq)
  · by_cases h1 : qs = []
    · subst h1
      exact absurd e (dot_ne h0 hp)
    · have a := split_dot h0 hp
      rw [e, split_dot h1 hq] at a
      have b := congrArg (List.map TL.tl) a
      rw [map_S_tl, map_S_tl] at b
      exact b.symm
/-- what stands ahead of the last point -/
theorem last_dot {ps : List (List Nat)} (p : List Nat) (h0 : ps ≠ []) (hp : 46 ∉ p) : Builtin.Str.lastOccurrence (S (dot (ps ++ [p]))) (S [46]) 0 (S (dot (ps ++ [p]))).length = some (dot ps).length := by
  have at1 : ∀ i, PySem.StrLaws.At (S (dot (ps ++ [p]))) (S [46]) (S (dot (ps ++ [p]))).length i ↔ (dot (ps ++ [p]))[i]? = some 46 := fun i => PySem.StrLaws.subAt_one (S (dot (ps ++ [p]))) 46 i
  have hat : (dot (ps ++ [p]))[(dot ps).length]? = some 46 := by
    rw [dot_snoc p h0, List.getElem?_append_right (Nat.le_refl _), Nat.sub_self]
    rfl
  have hno : ∀ k, (dot ps).length < k → (dot (ps ++ [p]))[k]? ≠ some 46 := fun k hk e => by
    rw [dot_snoc p h0, List.getElem?_append_right (Nat.le_of_lt hk)] at e
    obtain ⟨j, hj⟩ : ∃ j, k - (dot ps).length = j + 1 := ⟨k - (dot ps).length - 1, by omega⟩
    rw [hj] at e
    exact hp (List.mem_of_getElem? (show p[j]? = some 46 from e))
  rcases PySem.StrLaws.last_spec (S (dot (ps ++ [p]))) (S [46]) with ⟨_, no⟩ | ⟨i, e, h1, h2⟩
  · exact absurd ((at1 _).mpr hat) (no _)
  · rw [e]
    have h1' := (at1 i).mp h1
    rcases Nat.lt_trichotomy i (dot ps).length with z | z | z
    · exact absurd ((at1 _).mpr hat) (h2 _ z)
    · rw [z]
    · exact absurd h1' (hno i z)
theorem last_one {p : List Nat} (hp : 46 ∉ p) : Builtin.Str.lastOccurrence (S p) (S [46]) 0 (S p).length = none := by
  rcases PySem.StrLaws.last_spec (S p) (S [46]) with ⟨e, _⟩ | ⟨i, e, h1, h2⟩
  · exact e
  · exact absurd (List.mem_of_getElem? ((PySem.StrLaws.subAt_one (S p) 46 i).mp h1)) hp
/-- a name begins with another one and a point -/
theorem take_dot : ∀ {ps qs : List (List Nat)}, ps ≠ [] → qs ≠ [] → GP ps → GP qs → ((dot ps).take (dot qs ++ [46]).length = dot qs ++ [46] ↔ ∃ r, r ≠ [] ∧ ps = qs ++ r)
  | p :: ps, [], _, h, _, _ => absurd rfl h
  | [], _, h, _, _, _ => absurd rfl h
  | p :: ps, q :: qs, _, _, hp, hq => by
    have key : ∀ {a b u v : List Nat}, 46 ∉ a → 46 ∉ b → a ++ 46 :: u = b ++ 46 :: v → a = b ∧ u = v := by
      intro a
      induction a with
      | nil =>
        intro b u v ha hb e
        cases b with
        | nil => exact ⟨rfl, by simpa using e⟩
        | cons c r =>
          have : 46 = c := by simpa using (congrArg List.head? e)
          exact absurd (by rw [this]; exact List.mem_cons_self) hb
      | cons c r ih =>
        intro b u v ha hb e
        cases b with
        | nil =>
          have : c = 46 := by simpa using (congrArg List.head? e)
          exact absurd (by rw [this]; exact List.mem_cons_self) ha
        | cons d s =>
          obtain ⟨e1, e2⟩ := List.cons.inj e
          obtain ⟨e3, e4⟩ := ih (fun z => ha (List.mem_cons_of_mem _ z)) (fun z => hb (List.mem_cons_of_mem _ z)) e2
          exact ⟨by rw [e1, e3], e4⟩
    constructor
    · intro e
      have e1 : ∃ t, dot (p :: ps) = dot (q :: qs) ++ 46 :: t := ⟨(dot (p :: ps)).drop (dot (q :: qs) ++ [46]).length, by
        have := List.take_append_drop (dot (q :: qs) ++ [46]).length (dot (p :: ps))
        rw [e, List.append_assoc] at this
        exact this.symm⟩
      obtain ⟨t, e1⟩ := e1
      by_cases h1 : qs = []
      · subst h1
        rw [dot_one] at e1
        by_cases h2 : ps = []
        · subst h2
          rw [dot_one] at e1
          exact absurd (by rw [e1]; exact List.mem_append_right _ List.mem_cons_self) hp.head.2
        · rw [dot_cons p h2] at e1
          obtain ⟨e2, _⟩ := key hp.head.2 hq.head.2 e1
          exact ⟨ps, h2, by rw [e2]; rfl⟩
      · rw [dot_cons q h1, List.append_assoc] at e1
        by_cases h2 : ps = []
        · subst h2
          rw [dot_one] at e1
          exact absurd (by rw [e1]; exact List.mem_append_right _ List.mem_cons_self) hp.head.2
        · rw [dot_cons p h2] at e1
          obtain ⟨e2, e3⟩ := key hp.head.2 hq.head.2 e1
          have e4 : (dot ps).take (dot qs ++ [46]).length = dot qs ++ [46] := by
            have e3' : dot ps = (dot qs ++ [46]) ++ t := by rw [e3, List.append_assoc]; rfl
            rw [e3', List.take_left']
            rfl
          obtain ⟨r, hr, er⟩ := (take_dot h2 h1 hp.tail hq.tail).mp e4
          exact ⟨r, hr, by rw [e2, er]; rfl⟩
    · rintro ⟨r, hr, e⟩
      rw [e, dot_app (by simp) hr]
      have : dot (q :: qs) ++ 46 :: dot r = (dot (q :: qs) ++ [46]) ++ dot r := by rw [List.append_assoc]; rfl
      rw [this, List.take_left']
      rfl
termination_by ps => ps.length
end DN

namespace OQ
open PySem PySem.Spec PyProof.Rows L2 SX
/-! ### s.rpartition('.'), s.split('.'), s.count('.'), s.partition('.') of dotted names -/
section
variable {X : Cx}
theorem mt_rpart : MtR X "str.rpartition" (fun x xs H Q => ∃ ps : List (List Nat), x = .str (S (DN.dot ps)) ∧ xs = [.str (S [46])] ∧ ps ≠ [] ∧ DN.GP ps ∧ (DN.dot ps).length ≤ 100000 ∧
    ∀ p a b, H p = none → Q (.ref p) (upd H p (.tup [.str (S (DN.dot ps.dropLast)), .str a, .str b]))) := by
  intro pins s σ H x xs v us Q I rx rs h
  obtain ⟨ps, rfl, rfl, h0, hg, hz, h⟩ := h
  obtain ⟨t, rfl⟩ := rx
  cases rs with
  | cons r1 rs =>
    cases rs
    obtain ⟨u, rfl⟩ := r1
    refine call_meets F.slot_str_rpartition (typeIs_str _ _ _) F.entry_str_rpartition (F.args_str_rpartition_2 _ _) (meets_str_rpartition (S (DN.dot ps)) (S [46]) t u rfl (by rw [S_len]; exact SL.sz hz)) ?_
    have e0 : ps = ps.dropLast ++ [ps.getLast h0] := (List.dropLast_concat_getLast h0).symm
    have hl : 46 ∉ ps.getLast h0 := (hg _ (List.getLast_mem h0)).2
    by_cases h1 : ps.dropLast = []
    · have e1 : ps = [ps.getLast h0] := by rw [h1] at e0; exact e0
      have e2 : DN.dot ps = ps.getLast h0 := (congrArg DN.dot e1).trans (DN.dot_one _)
      rw [e2, DN.last_one hl]
      rw [h1] at h
      exact L2.laid_parts I (fun p hp => h p _ _ hp)
    · have e2 : DN.dot ps = DN.dot (ps.dropLast ++ [ps.getLast h0]) := by rw [← e0]
      rw [e2, DN.last_dot _ h1 hl]
      have e3 : Builtin.Str.strSub (S (DN.dot (ps.dropLast ++ [ps.getLast h0]))) 0 (DN.dot ps.dropLast).length = S (DN.dot ps.dropLast) := by
        refine TL.ext_tl ?_
        rw [TL.tl_strSub]
        show ((DN.dot (ps.dropLast ++ [ps.getLast h0])).drop 0).take _ = DN.dot ps.dropLast
        rw [List.drop_zero, DN.dot_snoc _ h1, Nat.sub_zero, List.take_left']
        rfl
      dsimp only
      rw [e3]
      exact L2.laid_parts I (fun p hp => h p _ _ hp)
theorem mt_splitD : MtR X "str.split" (fun x xs H Q => ∃ ps : List (List Nat), x = .str (S (DN.dot ps)) ∧ xs = [.str (S [46])] ∧ ps ≠ [] ∧ DN.GP ps ∧ (DN.dot ps).length ≤ 100000 ∧ ∀ p, H p = none → Q (.ref p) (upd H p (.lst (ps.map fun q => V.str (S q))))) := by
  intro pins s σ H x xs v us Q I rx rs h
  obtain ⟨ps, rfl, rfl, h0, hg, hz, h⟩ := h
  refine L2.mt_split pins s σ H _ _ v us Q I rx rs ⟨S (DN.dot ps), S [46], rfl, rfl, rfl, by rw [S_len]; exact Nat.le_trans (Nat.add_le_add_right hz 2) (by decide), ?_⟩
  rw [DN.split_dot h0 hg]
  intro p hp
  have := h p hp
  rw [show (ps.map S).map V.str = ps.map (fun q => V.str (S q)) by rw [List.map_map]; rfl]
  exact this
theorem mt_countD : MtR X "str.count" (fun x xs H Q => ∃ ps : List (List Nat), x = .str (S (DN.dot ps)) ∧ xs = [.str (S [46])] ∧ ps ≠ [] ∧ DN.GP ps ∧ Q (.int ((ps.length - 1 : Nat) : Int)) H) := by
  intro pins s σ H x xs v us Q I rx rs h
  obtain ⟨ps, rfl, rfl, h0, hg, h⟩ := h
  exact L2.mt_count pins s σ H _ _ v us Q I rx rs ⟨S (DN.dot ps), S [46], rfl, rfl, by rw [DN.count_dot h0 hg]; exact h⟩
/-- name.startswith(other + '.') -/
theorem mt_swD : MtR X "str.startswith" (fun x xs H Q => ∃ ps qs : List (List Nat), x = .str (S (DN.dot ps)) ∧ xs = [.str (S (DN.dot qs ++ [46]))] ∧ ps ≠ [] ∧ qs ≠ [] ∧ DN.GP ps ∧ DN.GP qs ∧ ∀ b : Bool, (b = true ↔ ∃ r, r ≠ [] ∧ ps = qs ++ r) → Q (.bl b) H) := by
  intro pins s σ H x xs v us Q I rx rs h
  obtain ⟨ps, qs, rfl, rfl, h0, h1, hp, hq, h⟩ := h
  refine L2.mt_startswith pins s σ H _ _ v us Q I rx rs ⟨S (DN.dot ps), S (DN.dot qs ++ [46]), rfl, rfl, ?_⟩
  refine h _ ?_
  rw [← DN.take_dot h0 h1 hp hq]
  unfold Txt.startswith
  rw [StrLaws.subAt_eq]
  show (decide (0 + (DN.dot qs ++ [46]).length ≤ (DN.dot ps).length) && (((DN.dot ps).drop 0).take (DN.dot qs ++ [46]).length == DN.dot qs ++ [46])) = true ↔ _
  rw [List.drop_zero]
  simp only [Bool.and_eq_true, decide_eq_true_eq, beq_iff_eq]
  constructor
  · exact fun h => h.2
  · intro e
    refine ⟨?_, e⟩
    have := congrArg List.length e
    rw [List.length_take] at this
    omega
theorem mt_partD : MtR X "str.partition" (fun x xs H Q => ∃ ps : List (List Nat), x = .str (S (DN.dot ps)) ∧ xs = [.str (S [46])] ∧ ps ≠ [] ∧ DN.GP ps ∧ (DN.dot ps).length ≤ 100000 ∧
    ∀ p m, H p = none → Q (.ref p) (upd H p (.tup [.str (S (ps.headD [])), .str m, .str (S (DN.dot ps.tail))]))) := by
  intro pins s σ H x xs v us Q I rx rs h
  obtain ⟨ps, rfl, rfl, h0, hg, hz, h⟩ := h
  refine L2.mt_partition pins s σ H _ _ v us Q I rx rs ⟨S (DN.dot ps), S [46], rfl, rfl, rfl, by rw [S_len]; exact SL.sz hz, fun p hp => ?_⟩
  cases ps with
  | nil => exact absurd rfl h0
  | cons q r =>
    by_cases h1 : r = []
    · subst h1
      have e := TL.partition_none (y := S [46]) (s := 46) (S := []) rfl (a := S q) hg.head.2
      rw [DN.dot_one, e]
      exact h p _ hp
    · have e := TL.partition_app (y := S [46]) (s := 46) (S := []) rfl (a := S q) (b := S (DN.dot r)) hg.head.2
      have e2 : S (DN.dot (q :: r)) = S q ++ S [46] ++ S (DN.dot r) := by
        rw [DN.dot_cons q h1, S_cat, S_cat, List.append_assoc]
        rfl
      rw [e2, e]
      exact h p _ hp
end
/-! ### == and != of instances of plain classes -/
/-- a class of the module over object alone, without __eq__ and __ne__ -/
def cmpB (K : PySem.W.Frag) (C : Addr) : Bool := match K.lookup C with
  | some ⟨.type c, _, .cls cd, sl⟩ => decide (c = "type") && (!cd.hasDel && ((match cd.mro with
    | .ref C' :: bm => decide (C' = C) && decide (bm = [.type "object"])
    | _ => false) && ((match sl.toList with
    | [_, _, _, _, some (.builtin _), _] => true
    | _ => false) && (PySem.W.nsOkIn K cd.ns && (He.eqO (PySem.W.nsIn K cd.ns "__eq__") (some none) && He.eqO (PySem.W.nsIn K cd.ns "__ne__") (some none))))))
  | _ => false
structure CmpC (K : PySem.W.Frag) (C : Addr) : Prop where
  b : cmpB K C = true
theorem CmpC.inst {K : PySem.W.Frag} {C dx x : Addr} {h : Heap} (c : CmpC K C) (X : K.In h) (hx : h.get? x = some (PySem.W.instObj C dx)) : h.CmpInst x C [.type "object"] := by
  have q := c.b
  unfold cmpB at q
  split at q
  · rename_i c dd cd sl ho
    obtain ⟨h1, q⟩ := He.ba q
    obtain ⟨h2, q⟩ := He.ba q
    obtain ⟨h3, q⟩ := He.ba q
    obtain ⟨h4, q⟩ := He.ba q
    obtain ⟨h5, q⟩ := He.ba q
    obtain ⟨h6, h7⟩ := He.ba q
    split at h3
    · rename_i C' bm hm
      obtain ⟨h8, h9⟩ := He.ba h3
      split at h4
      · rename_i k0 k1 k2 k3 n k5 hs
        have e1 := of_decide_eq_true h1
        have e2 := of_decide_eq_true h8
        have e3 := of_decide_eq_true h9
        subst e1 e2 e3
        obtain ⟨nm, bs, mro, ns, qn, hd, sn, sub, ab, col, del⟩ := cd
        dsimp only at hm h2 h5 h6 h7
        subst hm
        have e4 : del = false := by
          cases del with
          | false => rfl
          | true => cases h2
        subst e4
        have hsl : sl = #[k0, k1, k2, k3, some (.builtin n), k5] := by
          obtain ⟨l⟩ := sl
          simp only at hs
          rw [hs]
        subst hsl
        exact ⟨_, nm, qn, ns, bs, hd, sn, sub, ab, col, dd, k0, k1, k2, k3, k5, n, _, hx, rfl, X _ _ ho, .of_isNs (PySem.W.isNs_of_in X h5), PySem.W.nsMap_none_of_in X h5 (He.eqO_ok h6), PySem.W.nsMap_none_of_in X h5 (He.eqO_ok h7)⟩
      · cases h4
    · cases h3
  · cases q
/-- an instance of such a class stands at a -/
def ObjA (K : PySem.W.Frag) (H : Hp) (a : Addr) : Prop := ∃ C dx fs, H a = some (.ins C dx fs) ∧ CmpC K C
section
variable {X : Cx} {pins : List (Addr × Obj)} {σ : L2.St} {H : Hp} {s : Shared} {a b : Addr}
theorem ObjA.inst (I : Inv X pins σ H s) (h : ObjA X.K H a) : ∃ C, s.heap.CmpInst a C [.type "object"] := by
  obtain ⟨C, dx, fs, ha, c⟩ := h
  obtain ⟨d, z, ne, ob, r⟩ := (show ObjOk X.prog X.w H s.heap a (.ins C dx fs) from I.hok a _ ha)
  exact ⟨C, c.inst I.kIn ob⟩
theorem rc_obj {A : Around} (I : Inv X pins σ H s) (h1 : ObjA X.K H a) (h2 : ObjA X.K H b) (ne : a ≠ b) (hu : A.units < cLine) : SeqAt.RcAt A s (.ref a) (.ref b) false := fun prog w E Q q => by
  obtain ⟨C, i1⟩ := h1.inst I
  obtain ⟨D, i2⟩ := h2.inst I
  exact richCompare_eq_other F.cmp_object F.cmp_object i1 i2 ne hu q
theorem eq_obj {A : Around} (I : Inv X pins σ H s) (h1 : ObjA X.K H a) (h2 : ObjA X.K H b) (hu : A.units < cLine) : SeqAt.EqAt A s (.ref a) (.ref b) (decide (a = b)) := by
  by_cases e : a = b
  · subst e
    rw [decide_eq_true rfl]
    exact SeqAt.EqAt.same _
  · rw [decide_eq_false e]
    exact SeqAt.EqAt.of_refs e (rc_obj I h1 h2 e hu)
end
section
variable {X : Cx}
def rEqO (K : PySem.W.Frag) : R2 := fun x y H Q => ∃ a b, x = .ref a ∧ y = .ref b ∧ ObjA K H a ∧ ObjA K H b ∧ Q (.bl (decide (a = b))) H
theorem op_eqO (hu : X.A.units + 64 < cLine) : OpR X (compareOp .Eq) (rEqO X.K) := by
  intro pins s σ H x y v u Q I rx ry h
  obtain ⟨a, b, rfl, rfl, h1, h2, q⟩ := h
  cases rx
  cases ry
  have hu0 : X.A.units < cLine := by omega
  obtain ⟨C, i1⟩ := h1.inst I
  obtain ⟨D, i2⟩ := h2.inst I
  by_cases e : a = b
  · subst e
    rw [decide_eq_true rfl] at q
    exact compareOp_eq_same F.cmp_object i1 hu0 ⟨.bl true, H, I, rfl, q⟩
  · rw [decide_eq_false e] at q
    exact compareOp_eq_other F.cmp_object F.cmp_object i1 i2 e hu0 ⟨.bl false, H, I, rfl, q⟩
def rNeO (K : PySem.W.Frag) : R2 := fun x y H Q => (x = .non ∧ y = .non ∧ Q (.bl false) H) ∨ ∃ a b, x = .ref a ∧ y = .ref b ∧ ObjA K H a ∧ ObjA K H b ∧ Q (.bl (!decide (a = b))) H
theorem op_neO (hu : X.A.units + 64 < cLine) : OpR X (compareOp .NotEq) (rNeO X.K) := by
  intro pins s σ H x y v u Q I rx ry h
  rcases h with ⟨rfl, rfl, q⟩ | h
  · exact op_ne pins s σ H _ _ v u Q I rx ry ⟨rfl, by simpa using q⟩
  obtain ⟨a, b, rfl, rfl, h1, h2, q⟩ := h
  cases rx
  cases ry
  have hu0 : X.A.units + 1 < cLine := by omega
  obtain ⟨C, i1⟩ := h1.inst I
  obtain ⟨D, i2⟩ := h2.inst I
  by_cases e : a = b
  · subst e
    rw [decide_eq_true rfl] at q
    exact compareOp_ne_same F.cmp_object i1 hu0 ⟨.bl false, H, I, rfl, q⟩
  · rw [decide_eq_false e] at q
    exact compareOp_ne_other F.cmp_object F.cmp_object i1 i2 e hu0 ⟨.bl true, H, I, rfl, q⟩
/-! lists of such -/
theorem vals_refs {as : List Addr} {its : List Value} (r : Vals (as.map V.ref) its) : its = as.map Value.ref := by
  induction as generalizing its with
  | nil => cases r; rfl
  | cons a as ih =>
    cases r with
    | cons r1 rs =>
      cases r1
      rw [ih rs]
      rfl
def rNeLO (K : PySem.W.Frag) : R2 := fun x y H Q => ∃ (p q : Addr) (as bs : List Addr), x = .ref p ∧ y = .ref q ∧ SqL K H p (as.map V.ref) ∧ SqL K H q (bs.map V.ref) ∧ (∀ a ∈ as, ObjA K H a) ∧ (∀ b ∈ bs, ObjA K H b) ∧ Q (.bl (!decide (as = bs))) H
theorem op_neLO (hu : X.A.units + 64 < cLine) : OpR X (compareOp .NotEq) (rNeLO X.K) := by
  intro pins s σ H x y v u Q I rx ry h
  obtain ⟨p, q, as, bs, rfl, rfl, h1, h2, o1, o2, hq⟩ := h
  cases rx
  cases ry
  obtain ⟨i1, r1, l1, _⟩ := I.list h1
  obtain ⟨i2, r2, l2, _⟩ := I.list h2
  have e1 := vals_refs r1
  have e2 := vals_refs r2
  subst e1 e2
  have fin : ∀ b : Bool, b = (!decide (as = bs)) → EP X pins σ Q (.bool b) s := fun b e => ⟨.bl b, H, I, rfl, by rw [e]; exact hq⟩
  by_cases hs : as.length = bs.length
  · refine SeqAt.RcNeAt.lists (e := fun j => decide (as[j]? = bs[j]?)) l1.isList l2.isList (by simpa using hs) (by omega) (fun j j1 j2 => ?_) X.prog X.w _ _ (fin _ ?_)
    · have k1 : j < as.length := by simpa using j1
      have k2 : j < bs.length := by simpa using j2
      have z := eq_obj (A := X.A.in1) I (o1 _ (List.getElem_mem k1)) (o2 _ (List.getElem_mem k2)) (by show X.A.units + 1 < cLine; omega)
      have e3 : decide (as[j] = bs[j]) = decide (as[j]? = bs[j]?) := by
        rw [List.getElem?_eq_getElem k1, List.getElem?_eq_getElem k2]
        simp
      rw [← e3]
      simpa using z
    · congr 1
      rw [Bool.eq_iff_iff, List.all_eq_true]
      simp only [decide_eq_true_eq]
      constructor
      · intro h
        refine List.ext_getElem? fun j => ?_
        by_cases hj : j < as.length
        · exact h j (List.mem_range.mpr (by simpa using hj))
        · rw [List.getElem?_eq_none (by omega), List.getElem?_eq_none (by omega)]
      · intro h j _
        rw [h]
  · refine SeqAt.RcNeAt.lists_lengths l1.isList l2.isList (by simpa using hs) (by omega) X.prog X.w _ _ (fin _ ?_)
    rw [decide_eq_false fun e => hs (by rw [e])]
    rfl
end
end OQ

/-! the head by facts, with the tables of code objects -/
namespace HdF
open PySem PySem.Spec PyProof.Rows L2 He SuX
/-- a def's own code object -/
theorem defC_of {K : PySem.W.Frag} {x qual : Str} {st : Stmt} {dvs : List V} {kws : List (Str × V)} {p : Str × Option Str} {fd : FuncData} (F : FunD K x qual (defArgs st) (defBody st) (defScope st) dvs kws (fAd K p) fd) : GA.DefC K x qual st (cT K p).1 (fAd K p) fd := by
  obtain ⟨oc, od, dV, kV, doc, pm, an, cdv, ct, osl, e, lk, hcd, _⟩ := F.ex
  obtain ⟨c, rfl⟩ := codeIn_ref hcd
  have ec : codeOf K p = c := codeOf_eq lk (by rw [e])
  refine ⟨⟨oc, od, dV, kV, doc, pm, an, ct, osl, ?_, lk, ?_⟩⟩
  · rw [e]
    show _ = PySem.W.fnOf x qual (defArgs st) (defBody st) (defScope st) dV kV doc pm an (.ref (codeOf K p)) ct
    rw [ec]
  · show PySem.W.codeIn K (.ref (codeOf K p)) qual = true
    rw [ec]
    exact hcd
theorem tabG_new {H : Hp} {P : Addr} (h : H P = some (.tbl #[])) : GxR.TabG H P := ⟨#[], h, by trivial⟩
abbrev AlY : Type := AlF × Bool
def obsY (F : Fs) (tf : List Defn) (as : List Addr) (g : Addr → Option Obj) : AlY := (obsF F (frT g as), tabsB g tf (frT g as))
structure SaysY (F : Fs) (tf : List Defn) (w : World) (h : Heap) (K : PySem.W.Frag) : Prop where
  f : SaysF F w K
  hd : ∀ p ∈ tf, PySem.W.codeHdIn K (cT K p).1 (cT K p).2 = true
  out : ∀ p ∈ tf, K.lookup (cT K p).2 = none
  empty : ∀ p ∈ tf, h.get? (cT K p).2 = some { cls := .none, data := .fields #[] }
theorem saysY_of {F : Fs} {tf : List Defn} {as : List Addr} {w : World} {h : Heap} (e : obsY F tf as h.get? = (valF F w, true)) : SaysY F tf w h (frT h.get? as) := by
  have e1 : SaysF F w (frT h.get? as) := congrArg (fun z : AlY => z.1) e
  have h2 : tabsB h.get? tf (frT h.get? as) = true := congrArg (fun z : AlY => z.2) e
  have key : ∀ p ∈ tf, PySem.W.codeHdIn (frT h.get? as) (cT (frT h.get? as) p).1 (cT (frT h.get? as) p).2 = true ∧ ∃ o, h.get? (cT (frT h.get? as) p).2 = some o ∧ emptyTab o = true := fun p hp => by
    obtain ⟨h3, h4⟩ := ba (List.all_eq_true.mp h2 p hp)
    refine ⟨h3, ?_⟩
    cases q : h.get? (cT (frT h.get? as) p).2 with
    | none =>
      rw [q] at h4
      cases h4
    | some o =>
      rw [q] at h4
      exact ⟨o, rfl, h4⟩
  exact ⟨e1, fun p hp => (key p hp).1, fun p hp => by
    obtain ⟨_, o, q, z⟩ := key p hp
    exact frT_none q z, fun p hp => by
    obtain ⟨_, o, q, z⟩ := key p hp
    rw [q, emptyTab_eq z]⟩
def hookY (as : List Addr) (F : Fs) (tf : List Defn) : PySem.W.Hook where
  α := AlY
  obs := fun s => obsY F tf as s.heap.get?
  val := fun w => (valF F w, true)
  says := fun w h => ∃ K : PySem.W.Frag, K.In h ∧ SaysY F tf w h K
  of := fun _ _ e => ⟨_, frT_in, saysY_of e⟩
  keeps := fun _ _ _ ⟨K, hK, c⟩ k => ⟨K, PySem.W.Frag.In.keeps hK k, ⟨c.f, c.hd, c.out, fun p hp => k _ _ (c.empty p hp)⟩⟩
theorem obsY_eq {F : Fs} {tf : List Defn} {as : List Addr} {g : Addr → Option Obj} {s : Shared} (h : ∀ a, g a = s.heap.get? a) : obsY F tf as g = (hookY as F tf).obs s := by
  have e : g = s.heap.get? := funext h
  rw [e] <;> rfl
end HdF

namespace My
open PySem PySem.Spec PyProof.Rows L2
/-! ### try with several clauses 'except X as n', of which the first always is the one -/
def wFst (K : PySem.W.Frag) (c : Value) (i : Nat) (ts : Addr → Value → Option Addr → TS) (D : Ends) : WX := fun cl dd st hp =>
  PySem.W.exmOne K cl c = some true ∧ ∀ a, hp a = none → ts a cl dd { nx := fun x y => D.nx (x.set i none) y, rt := D.rt, bk := fun x y => D.bk (x.set i none) y, ct := fun x y => D.ct (x.set i none) y } (st.set i (some (.ref a))) hp
section
variable {X : Cx} {x n : Str} {c : Value} {i : Nat} {body su : List Stmt} {b1 : Stmt} {np ps ps' : Pos} {more : List ExceptHandler} {tb : WX → TS} {ts : Addr → Value → Option Addr → TS}
theorem ps_try_fst (e1 : X.stack = X.env :: X.outer) (e2 : X.env.frame = some X.env.locals) (nd : X.N.Nodup) (ei : X.N[i]? = some n) (el : X.env.kindOf n = some .local) (nc : Names X x c)
    (run : ∀ (W : WX) (pl : List (Addr × Obj)) (xe : Value → Shared → Prop), Takes (X.tr pl xe) W → PassesOwn (model X.prog X.w) X.A X.env xe → PSs (X.tr pl xe) body (tb W))
    (suite : ∀ (a : Addr) (oe : Obj) (cl : Value) (dd : Option Addr) (pl : List (Addr × Obj)), Zc cl dd oe → (∃ vs, oe.data = .fields vs) → PSs (X.suite a ((a, oe) :: pl)) (b1 :: su) (ts a cl dd)) :
    PS X (.Try body (.ExceptHandler (some (.Name x np)) (some n) (b1 :: su) ps' :: more) [] [] ps) (fun D st hp => tb (wFst X.K c i ts D) D st hp) := by
  refine ⟨fun pl s st hp D inv yes => ?_⟩
  have good := inv.ok
  have fr : X.A.frames = some (X.env :: X.outer) := by rw [good.frames, e1]
  have lc : Loc X.env.scope n := .inl el
  refine wpAny_Try_except (wpAny_mono ((run (wFst X.K c i ts D) (X.pn ++ pl) (fun ex z1 => wpAny (model X.prog X.w) X.A (noteFrame ex X.env) (fun _ z2 => wpAny (model X.prog X.w) X.A (setFlight ex none) (fun _ z3 =>
    wpAny (model X.prog X.w) X.A (handleBy ex X.env (.ExceptHandler (some (.Name x np)) (some n) (b1 :: su) ps' :: more)) (SP X pl D) X.xe z3) X.xe z2) X.xe z1) (fun u z' got => ?_) PassesOwn.looking).run [] s st hp D (inv.toTry _) yes) (fun fl z1 end1 => ?_) (fun ex z1 w => w))
  · obtain ⟨a, gr, si, pl', st1, hp1, cl, dd, rfl, j0, nb, up, sky, na, os, ag, hit, wish⟩ := got
    have j1 : Inv X pl st1 hp1 si := j0.ofTry good
    have sk : Sky gr (X.env :: X.outer) a (Zc cl dd) X.env.locals z'.heap := by rw [← e1]; exact sky
    show wpAny _ X.A (noteFrame (.ref a) X.env) _ _ _
    refine Sky.land Zc.steady fr e2 sk fun k3 f3 u3 => ?_
    have j3 : Inv X pl st1 hp1 { z' with heap := k3 } := j1.landed nb f3.1 (up.trans u3) os ag
    obtain ⟨o3, w3, r3, t3, q3⟩ := f3.there
    have off : a ∉ frs (X.env :: X.outer) := fun m => by
      obtain ⟨_, o4, r4, none4⟩ := f3.2.2.1.mem m
      rw [r3] at r4; cases r4
      exact none4 _ q3
    have l3 : a ≠ X.env.locals := fun z => off (List.mem_filterMap.mpr ⟨X.env, List.mem_cons_self, by rw [e2, z]⟩)
    have f4 : a ∉ X.fs := fun m => by
      obtain ⟨v, hv, hq⟩ := List.mem_filterMap.mp m
      exact off (List.mem_filterMap.mpr ⟨v, List.mem_cons_of_mem _ hv, hq⟩)
    have s3 := j3.suite r3 q3 na l3 f4
    refine wpAny_handleBy_cons (codeAny_handlers_test ?_) (by intro q; cases q)
    have kind : PySem.W.Looks (model X.prog X.w) k3 (typeOf (.ref a)) cl := fun _ _ _ _ k q => wpAny_typeOf_ref (k _ _ r3) (by rw [t3.1]; exact q)
    have fits := PySem.W.exm_one (M := model X.prog X.w) (j3.kIn) kind hit
    have name : ∀ {Q E : Value → Shared → Prop}, Q c { z' with heap := k3 } → wpAny (model X.prog X.w) (X.A.mark (some (.ref a))) (eval (.Name x np) X.env) Q E { z' with heap := k3 } := fun q => by
      obtain ⟨g1, g2, g3 | ⟨g3, g4, g5⟩⟩ := nc
      · exact ld_glob (X := X.suite a ((a, o3) :: (X.pn ++ pl))) s3 g1 g3 q g2
      · exact ld_blt (X := X.suite a ((a, o3) :: (X.pn ++ pl))) s3 g1 g3 g4 q g5 g2
    refine name (fits.here (codeAny_handlers_suite_as (HandSPX.lands_againZ f3 fun k4 f5 u4 => ?_)))
    have j4 : Inv X pl st1 hp1 { z' with heap := k4 } := j1.landed nb f5.1 ((up.trans u3).trans u4) os ag
    obtain ⟨o5, w5, r5, t5, q5⟩ := f5.there
    have s4 := j4.suite r5 q5 na l3 f4
    refine store_ok (X := X.suite a ((a, o5) :: (X.pn ++ pl))) (v := .ref a) s4 nd ei lc rfl (fun z5 s5 => ?_) (.inr el)
    refine wpAny_mono ((suite a o5 cl dd (X.pn ++ pl) t5 ⟨_, q5⟩).run [] z5 _ hp1 _ s5 (wish a na)) (fun fl z6 end6 => ?_) (fun _ _ z => False.elim z)
    have out : ∀ {st6 : L2.St} {hp6 : Hp} {Q : Shared → Prop}, Inv (X.suite a ((a, o5) :: (X.pn ++ pl))) [] st6 hp6 z6 → (∀ z7, Inv X pl (st6.set i none) hp6 z7 → Q z7) →
        wpAny (model X.prog X.w) X.A (do bindName X.env n .none; unbindBehindTheSuite X.env n ps') (fun _ z7 => Q z7) X.xe z6 := fun s6 q => gone_ok (s6.unsuite good) nd ei el q
    cases fl with
    | next => obtain ⟨_, _, s6, q6⟩ := end6; exact out s6 fun _ j7 => ⟨_, _, j7, q6⟩
    | brk => obtain ⟨_, _, s6, q6⟩ := end6; exact out s6 fun _ j7 => ⟨_, _, j7, q6⟩
    | cont => obtain ⟨_, _, s6, q6⟩ := end6; exact out s6 fun _ j7 => ⟨_, _, j7, q6⟩
    | ret u => obtain ⟨_, _, _, s6, r6, q6⟩ := end6; exact out s6 fun _ j7 => ⟨_, _, _, j7, r6, q6⟩
  · cases fl with
    | next => obtain ⟨_, _, j, q⟩ := end1; exact wpAny_execs_nil ⟨_, _, j.ofTry good, q⟩
    | brk => obtain ⟨_, _, j, q⟩ := end1; exact ⟨_, _, j.ofTry good, q⟩
    | cont => obtain ⟨_, _, j, q⟩ := end1; exact ⟨_, _, j.ofTry good, q⟩
    | ret u => obtain ⟨_, _, _, j, r, q⟩ := end1; exact ⟨_, _, _, j.ofTry good, r, q⟩
end
/-! ### a new instance whose __init__ may raise, in a try -/
def tMkS (C : Addr) (sp : Sp) (dvs : List V) (E : L2.St → XK) (t : TA) : TE := fun st hp Q => t st hp fun vs h1 => ∀ x dx, h1 x = none → h1 dx = none → dx ≠ x →
  sp (.ref x :: (vs ++ dvs)) (upd (upd h1 dx (.own x)) x (.ins C dx [])) (fun v h2 => v = .non ∧ Q (.ref x) h2) (E st)
section
variable {X : Cx} {CX : CXT} {k : Nat} {f C : Addr} {fd : FuncData} {ps : List Str} {sp : Sp} {dvs : List V} {ds : List Value} {E : L2.St → XK} {x : Str} {p pos : Pos} {e : Expr} {es : List Expr} {t : TA}
theorem pe_mkS (M : Mk X.K C f) (F : FnOk X.prog X.w X.K X.mg X.base CX k f fd ps sp) (room : Room (k + 1) X.A) (gl : Gl X x) (gm : X.mg x = some (.ref C)) (bi : Binds X.K fd ps ds) (dv : Vals dvs ds) (let_ : ∀ st, PassesAt CX X st (E st))
    (arg : PA X (e :: es) t) (nb : (x == ("__debug__" : Str)) = false := by decide) (st1 : starEach (e :: es) X.env = (false, eval e X.env) :: starEach es X.env := by rfl) (st2 : (backTo pos (starEach es X.env)).any (·.1) = false := by rfl) :
    PE X (.Call (.Name x p) (e :: es) [] pos) (tMkS C sp dvs E t) := by
  refine ⟨fun pl z st hp Q inv yes => wpAny_Call_Name_kw (ld_glob inv gl gm ?_ nb)⟩
  refine PySem.W.callWith_K (h₀ := X.base) inv.ok.mod.kin M.kp (thn (arg.run pos pl z st hp _ inv yes) fun us z1 ⟨vs, h1, j1, r, q⟩ => ⟨j1.kIn, ?_⟩) st1 st2
  have go := q (z1.heap.objs.size + 1) z1.heap.objs.size (j1.hok.fresh (Nat.le_succ _)) (j1.hok.fresh (Nat.le_refl _)) (Nat.ne_of_lt (Nat.lt_succ_self _))
  have j2 := Inv.made (C := C) j1
  have rr : Vals (V.ref (z1.heap.objs.size + 1) :: (vs ++ dvs)) (Value.ref (z1.heap.objs.size + 1) :: (us ++ ds)) := .cons rfl (r.append dv)
  have ll : (Value.ref (z1.heap.objs.size + 1) :: us ++ ds).length = ps.length := by
    have w := rr.length
    rw [F.len _ _ _ _ go] at w
    exact w.symm
  refine wpAny_call (make_map (f := f) j1.kIn M.makes M.init (beq_iff_eq.mp M.fn) (codeAny_mono (F.run _ X.stack _ _ ⟨Value.ref (z1.heap.objs.size + 1) :: us, []⟩ (Value.ref (z1.heap.objs.size + 1) :: (us ++ ds)) _ _ (E st) (room.make C us [])
    (j2.env0.make C us []) (bi _ (Value.ref (z1.heap.objs.size + 1) :: us) j2.kIn ll) rr go) fun res z2 got => ?_))
  cases res with
  | error ex => exact let_ st pl _ _ ex z2 j2 got
  | ok fl =>
    cases fl with
    | ret u =>
      obtain ⟨v, h3, j3, rv, ev, q3⟩ := j2.after got
      subst ev
      exact ⟨rv, ⟨V.ref (z1.heap.objs.size + 1), h3, j3, rfl, q3⟩⟩
    | next => exact False.elim got
    | brk => exact False.elim got
    | cont => exact False.elim got
end
/-! ### e.f in the suite, e the exception that it handles -/
def tErrS (C : Addr) (f : Str) (a : Addr) (cl : Value) (dd : Option Addr) (te : TE) : TE := fun st hp Q => te st hp fun x h1 => x = .ref a ∧ cl = .ref C ∧ ∃ (d : Addr) (v : V), dd = some d ∧ h1 d = some (.xd [(f, v)]) ∧ Q v h1
theorem pe_errS {X : Cx} {C fI : Addr} {cn f : Str} {a : Addr} {oe : Obj} {cl : Value} {dd : Option Addr} {pl : List (Addr × Obj)} {e : Expr} {te : TE} {pos : Pos} (T : ErrTxt X.K X.mg cn f C fI) (zc : Zc cl dd oe) (fl : ∃ vs, oe.data = .fields vs)
    (hz : PE (X.suite a ((a, oe) :: pl)) e te) (ab : attributeBase e f X.env (eval e X.env) = eval e X.env := by rfl) : PE (X.suite a ((a, oe) :: pl)) (.Attribute e f pos) (tErrS C f a cl dd te) := by
  refine ⟨fun pl2 z st hp Q inv yes => attr_of ab (thn (hz.run pl2 z st hp _ inv yes) fun u z1 got => ?_)⟩
  obtain ⟨x, h1, j1, rx, rfl, rfl, d, v, rfl, ed, q⟩ := got
  obtain rfl : u = Value.ref a := rx
  obtain ⟨at_, _⟩ := j1.pin (a, oe) (List.mem_append_left _ List.mem_cons_self)
  obtain ⟨mA, hns, hr⟩ := (show ObjOk X.prog X.w h1 z1.heap d (.xd [(f, v)]) from j1.hok d _ ed)
  obtain ⟨od, hod, hl⟩ := lookIn_ns hns
  have l : List.lookup f [((f : Str), v)] = some v := by simp [List.lookup]
  obtain ⟨u, hu, ru⟩ := RelO.some_of (v := v) (o := mA f) (by rw [← l]; exact hr f)
  have J : PySem.W.InstAt z1.heap a oe C (some od) := ⟨at_, zc.1, (by obtain ⟨w, hw⟩ := fl; show PySem.W.notCls oe = true; unfold PySem.W.notCls; rw [hw]), (by rw [zc.2]; exact hod)⟩
  exact HandSPX.exc_get j1.kIn J T.ga T.gg T.exC (PySem.W.findObj_own T.hdC T.noN rfl (by rw [hl, hu])) (handed_of ru) ⟨v, h1, j1.tok _, ru, q⟩
end My

namespace My
open PySem PySem.Spec PyProof.Rows L2
/-! ### a token is out behind a written text; a walk whose body wants one -/
section
variable {X : Cx}
theorem tup_tok {x : Str} {j : Nat} {c0 pos : Pos} {k : Nat} {es : List Expr} {t : TA} (rest : PA X es t) {pl : List (Addr × Obj)} {z : Shared} {st : L2.St} {hp : Hp} {Q : VK} (inv : Inv X pl st hp z) (yes : tTup (tCons (tC (.str x)) t) st hp Q)
    (sp : starEach (.Constant (.str x) j c0 :: es) X.env = (false, eval (.Constant (.str x) j c0) X.env) :: starEach es X.env := by rfl) :
    wpAny (model X.prog X.w) X.A (eval (.Tuple (.Constant (.str x) j c0 :: es) k pos) X.env) (fun v z1 => 1 ≤ z1.toks ∧ EP X pl st Q v z1) X.xe z := by
  refine Tuple_ ?_
  rw [sp]
  show wpAny _ _ (spliced ((false, eval (.Constant (.str x) j c0) X.env) :: backTo pos (starEach es X.env))) _ _ z
  refine Calls.spliced_cons (Calls.Constant_str ?_)
  have go := wpAny_toks_of (n := 1) (show 1 ≤ z.toks + 1 by omega) (rest.run pos pl { z with toks := z.toks + 1 } st hp _ (inv.tok _) yes)
  refine wpAny_mono go (fun us z1 got => ?_) fun _ _ w => w.2
  obtain ⟨k1, xs, h1, j1, r1, lz, q⟩ := got
  have rr : Vals (V.str x :: xs) (Value.str x z.toks :: us) := .cons ⟨_, rfl⟩ r1
  refine wpAny_mono (wpAny_toks_of (n := 1) k1 (Q := EP X pl st Q) (E := X.xe) (wpAny_newObj_type ?_ (by show (Value.str x z.toks :: us).toArray.size ≤ sizeLine; rw [List.size_toArray, ← rr.length]; exact lz))) (fun _ _ w => w) fun _ _ w => w.2
  have free : h1 z1.heap.objs.size = none := j1.hok.fresh (Nat.le_refl _)
  refine ⟨.ref z1.heap.objs.size, upd h1 z1.heap.objs.size (.tup (V.str x :: xs)), j1.laid (t' := z1.toks) (fun b u e => Heap.get?_push_of_some _ e) (Nat.le_refl _) ?_, rfl, q _ free⟩
  exact ⟨lz, _, rr, ⟨_, Heap.get?_push_size _ rfl, rfl, _, rfl⟩⟩
/-- tg = ('..', ..): then what wants a token -/
theorem pss_tupT {x : Str} {j : Nat} {c0 p1 pos : Pos} {k : Nat} {tg : Expr} {es : List Expr} {more : List Stmt} {t : TA} {g : TG} {u : TS} (rest : PA X es t) (hg : PG X tg g) (h2 : PSsT X more u)
    (hs : swapsWithSole [tg] (.Tuple (.Constant (.str x) j c0 :: es) k p1) pos.line X.env = pure false := by rfl) (hw : swappedStores [tg] (.Tuple (.Constant (.str x) j c0 :: es) k p1) X.env = pure none := by rfl)
    (h1 : (assignEach [tg] X.env).map (·.2) = [assign tg X.env] := by rfl) (sp : starEach (.Constant (.str x) j c0 :: es) X.env = (false, eval (.Constant (.str x) j c0) X.env) :: starEach es X.env := by rfl) :
    PSs X (.Assign [tg] (.Tuple (.Constant (.str x) j c0 :: es) k p1) pos :: more) (tSeq (tAsg (tTup (tCons (tC (.str x)) t)) g) u) := by
  refine ⟨fun pl z st hp D inv yes => wpAny_execs_cons (wpAny_Assign_stores (wpAny_mono (tup_tok rest inv (show tTup (tCons (tC (V.str x)) t) st hp (fun y h1 => g y st h1 (u D)) from yes) sp) (fun v z1 got => ?_) fun _ _ w => w) hs hw)⟩
  obtain ⟨k1, xv, h3, j1, r1, q⟩ := got
  rw [h1]
  refine wpAny_mono (wpAny_toks_of (n := 1) k1 (hg.run pl z1 st h3 xv v _ j1 r1 q)) (fun _ z2 w => ?_) fun _ _ w => w.2
  obtain ⟨k2, st2, h4, j2, q2⟩ := w
  exact h2 pl z2 st2 h4 D k2 j2 q2
theorem pst_forT {tg iter : Expr} {body : List Stmt} {wi : TI} {g : TG} {tb : TS} {pos : Pos} (po : PassesOwn (model X.prog X.w) X.A X.env X.xe) (ca : X.calm = true) (wk : PI X tg iter wi) (hg : PG X tg g) (hb : PSsT X body tb)
    (nf : ∀ x, foldedSetIterable iter X.env x = pure x := by intro _; rfl) : PST X (.For tg iter body [] pos) (tFor wi g tb) := by
  intro pl z st hp D k0 inv yes
  refine wpAny_For (wpAny_mono (wpAny_toks_of (n := 1) k0 (wk.run pl z st hp _ inv yes)) (fun v z1 got => wpAny_mono (wpAny_toks_of (n := 1) got.1 got.2) (fun itv z2 got2 => ?_) fun _ _ w => w.2) fun _ _ w => w.2) nf
  obtain ⟨k2, it, fp, tn, J, h2, rfl, j2, tu, s2, f2, W, ⟨m0, w0⟩, turn⟩ := got2
  have own : ∀ {h' : Hp}, (∀ b ∈ fp, h' b = none) → ∀ b ∈ fp, FpOk X pl h' b := fun hn b hb => ⟨hn b hb, (f2 b hb).2⟩
  refine codeAny_forLoop_any (fun n z' => ∃ i st' h', 1 ≤ z'.toks ∧ Inv X pl st' h' z' ∧ tn i z'.heap ∧ (∀ b ∈ fp, h' b = none) ∧ W i n st' h') ?_ m0 ⟨0, st, h2, k2, j2, s2, fun b hb => (f2 b hb).1, w0⟩
  rintro n z3 ⟨i, st3, h3, k3, j3, s3, f3, w3⟩
  rcases turn i n st3 h3 w3 with ⟨stop, qn⟩ | ⟨go, N, hN, step⟩
  · refine wpAny_passesOwn po (thn (tu.done X rfl rfl rfl ca i pl z3 st3 h3 X.xe j3 (own f3) s3 stop) fun r z4 ⟨hr, j4⟩ => ?_)
    subst hr
    exact wpAny_execs_nil ⟨st3, h3, j4, qn⟩
  · refine wpAny_passesOwn po (wpAny_mono (wpAny_toks_of (n := 1) k3 (tu.item X rfl rfl rfl ca i pl z3 st3 h3 X.xe j3 (own f3) s3 go)) (fun r z4 ⟨k4, u, hr, h4⟩ => ?_) fun _ _ w => w.2)
    subst hr
    refine wpAny_passesOwn po (wpAny_mono (wpAny_toks_of (n := 1) k4 h4) (fun _ z5 ⟨k5, x, h5, j5, r5, y5, s5, f5⟩ => ?_) fun _ _ w => w.2)
    have j5' := j5.pinned (own f5) (tu.obj _ _ s5)
    refine wpAny_passesOwn po (wpAny_mono (wpAny_toks_of (n := 1) k5 (hg.run _ z5 st3 h5 x u _ j5' r5 (step x h5 y5))) (fun _ z6 ⟨k6, st6, h6, j6, q6⟩ => ?_) fun _ _ w => w.2)
    refine wpAny_passesOwn po (wpAny_mono (wpAny_toks_of (n := 1) k6 (hb _ z6 st6 h6 _ k6 j6 q6)) (fun f z7 ⟨k7, q7⟩ => ?_) fun _ _ w => w.2)
    have next : ∀ {st7 : L2.St} {h7 : Hp}, Inv X (pl ++ pinsAt fp z5.heap) st7 h7 z7 → N st7 h7 → ∃ m, m < n ∧ ∃ i st' h', 1 ≤ z7.toks ∧ Inv X pl st' h' z7 ∧ tn i z7.heap ∧ (∀ b ∈ fp, h' b = none) ∧ W i m st' h' := fun {st7 h7} j7 n7 => by
      obtain ⟨m', hm, w7⟩ := hN st7 h7 n7
      have pinned : ∀ b ∈ fp, ∀ o, z5.heap.get? b = some o → (b, o) ∈ X.pn ++ (pl ++ pinsAt fp z5.heap) := fun b hb o e => List.mem_append_right _ (List.mem_append_right _ (mem_pinsAt hb e))
      refine ⟨m', hm, i + 1, st7, h7, k7, j7.unpinned, tu.keep _ _ _ s5 fun b hb o e => (j7.pin (b, o) (pinned b hb o e)).1, fun b hb => ?_, w7⟩
      obtain ⟨o, e, _⟩ := tu.obj _ _ s5 b hb
      exact (j7.pin (b, o) (pinned b hb o e)).2.1
    cases f with
    | next => obtain ⟨_, _, j7, n7⟩ := q7; exact next j7 n7
    | cont => obtain ⟨_, _, j7, n7⟩ := q7; exact next j7 n7
    | brk => obtain ⟨_, _, j7, q8⟩ := q7; exact ⟨_, _, j7.unpinned, q8⟩
    | ret v => obtain ⟨_, _, _, j7, r7, q8⟩ := q7; exact ⟨_, _, _, j7.unpinned, r7, q8⟩
theorem pst_setT {i : Nat} {x : Str} {e : Expr} {te : TE} {p1 pos : Pos} (nd : X.N.Nodup) (ei : X.N[i]? = some x) (lc : Loc X.env.scope x) (he : PET X e te) (hs : swapsWith e (some (.Name x p1)) pos.line X.env = pure false := by rfl)
    (hf : X.fn x = true ∨ X.env.scope.names.lookup x = some .local := by first | exact .inl rfl | exact .inr rfl | assumption) : PST X (.Assign [.Name x p1] e pos) (tAsg te (gName i)) := by
  intro pl z st hp D k0 inv yes
  refine wpAny_Assign_Name (thn (he pl z st hp _ k0 inv yes) fun v z1 ⟨y, h1, j1, r1, q⟩ => ?_) hs
  exact store_ok j1 nd ei lc r1 (fun z2 j2 => ⟨_, h1, j2, q⟩) hf
end
end My

namespace My
open PySem PySem.Spec PyProof.Rows L2
/-! ### two clauses 'except X as n', 'except Y as n' -/
def inSuite (i : Nat) (a : Addr) (D : Ends) : Ends := { nx := fun x y => D.nx (x.set i none) y, rt := D.rt, bk := fun x y => D.bk (x.set i none) y, ct := fun x y => D.ct (x.set i none) y }
def wTwo (K : PySem.W.Frag) (c c' : Value) (i : Nat) (ts ts' : Addr → Value → Option Addr → TS) (D : Ends) : WX := fun cl dd st hp =>
  (PySem.W.exmOne K cl c = some true ∧ ∀ a, hp a = none → ts a cl dd (inSuite i a D) (st.set i (some (.ref a))) hp) ∨
  (PySem.W.exmOne K cl c = some false ∧ PySem.W.exmOne K cl c' = some true ∧ ∀ a, hp a = none → ts' a cl dd (inSuite i a D) (st.set i (some (.ref a))) hp)
section
variable {X : Cx} {x x' n : Str} {c c' : Value} {i : Nat} {body su su' : List Stmt} {b1 b1' : Stmt} {np ps np' ps' pos : Pos} {more : List ExceptHandler} {tb : WX → TS} {ts ts' : Addr → Value → Option Addr → TS}
theorem ps_try_two (e1 : X.stack = X.env :: X.outer) (e2 : X.env.frame = some X.env.locals) (nd : X.N.Nodup) (ei : X.N[i]? = some n) (el : X.env.kindOf n = some .local) (nc : Names X x c) (nc' : Names X x' c')
    (run : ∀ (W : WX) (pl : List (Addr × Obj)) (xe : Value → Shared → Prop), Takes (X.tr pl xe) W → PassesOwn (model X.prog X.w) X.A X.env xe → PSs (X.tr pl xe) body (tb W))
    (suite : ∀ (a : Addr) (oe : Obj) (cl : Value) (dd : Option Addr) (pl : List (Addr × Obj)), Zc cl dd oe → (∃ vs, oe.data = .fields vs) → PSs (X.suite a ((a, oe) :: pl)) (b1 :: su) (ts a cl dd))
    (suite' : ∀ (a : Addr) (oe : Obj) (cl : Value) (dd : Option Addr) (pl : List (Addr × Obj)), Zc cl dd oe → (∃ vs, oe.data = .fields vs) → PSs (X.suite a ((a, oe) :: pl)) (b1' :: su') (ts' a cl dd)) :
    PS X (.Try body (.ExceptHandler (some (.Name x np)) (some n) (b1 :: su) ps :: .ExceptHandler (some (.Name x' np')) (some n) (b1' :: su') ps' :: more) [] [] pos)
      (fun D st hp => tb (wTwo X.K c c' i ts ts' D) D st hp) := by
  refine ⟨fun pl s st hp D inv yes => ?_⟩
  have good := inv.ok
  have fr : X.A.frames = some (X.env :: X.outer) := by rw [good.frames, e1]
  have lc : Loc X.env.scope n := .inl el
  refine wpAny_Try_except (wpAny_mono ((run (wTwo X.K c c' i ts ts' D) (X.pn ++ pl) (fun ex z1 => wpAny (model X.prog X.w) X.A (noteFrame ex X.env) (fun _ z2 => wpAny (model X.prog X.w) X.A (setFlight ex none) (fun _ z3 =>
    wpAny (model X.prog X.w) X.A (handleBy ex X.env (.ExceptHandler (some (.Name x np)) (some n) (b1 :: su) ps :: .ExceptHandler (some (.Name x' np')) (some n) (b1' :: su') ps' :: more)) (SP X pl D) X.xe z3) X.xe z2) X.xe z1) (fun u z' got => ?_) PassesOwn.looking).run [] s st hp D (inv.toTry _) yes) (fun fl z1 end1 => ?_) (fun ex z1 w => w))
  · obtain ⟨a, gr, si, pl', st1, hp1, cl, dd, rfl, j0, nb, up, sky, na, os, ag, wish⟩ := got
    have j1 : Inv X pl st1 hp1 si := j0.ofTry good
    have sk : Sky gr (X.env :: X.outer) a (Zc cl dd) X.env.locals z'.heap := by rw [← e1]; exact sky
    show wpAny _ X.A (noteFrame (.ref a) X.env) _ _ _
    refine Sky.land Zc.steady fr e2 sk fun k3 f3 u3 => ?_
    have j3 : Inv X pl st1 hp1 { z' with heap := k3 } := j1.landed nb f3.1 (up.trans u3) os ag
    obtain ⟨o3, w3, r3, t3, q3⟩ := f3.there
    have off : a ∉ frs (X.env :: X.outer) := fun m => by
      obtain ⟨_, o4, r4, none4⟩ := f3.2.2.1.mem m
      rw [r3] at r4; cases r4
      exact none4 _ q3
    have l3 : a ≠ X.env.locals := fun z => off (List.mem_filterMap.mpr ⟨X.env, List.mem_cons_self, by rw [e2, z]⟩)
    have f4 : a ∉ X.fs := fun m => by
      obtain ⟨v, hv, hq⟩ := List.mem_filterMap.mp m
      exact off (List.mem_filterMap.mpr ⟨v, List.mem_cons_of_mem _ hv, hq⟩)
    have s3 := j3.suite r3 q3 na l3 f4
    have kind : PySem.W.Looks (model X.prog X.w) k3 (typeOf (.ref a)) cl := fun _ _ _ _ k q => wpAny_typeOf_ref (k _ _ r3) (by rw [t3.1]; exact q)
    have name : ∀ {y : Str} {d : Value} {npp : Pos}, Names X y d → ∀ {Q E : Value → Shared → Prop}, Q d { z' with heap := k3 } → wpAny (model X.prog X.w) (X.A.mark (some (.ref a))) (eval (.Name y npp) X.env) Q E { z' with heap := k3 } := fun {y d npp} nn {Q E} q => by
      obtain ⟨g1, g2, g3 | ⟨g3, g4, g5⟩⟩ := nn
      · exact ld_glob (X := X.suite a ((a, o3) :: (X.pn ++ pl))) s3 g1 g3 q g2
      · exact ld_blt (X := X.suite a ((a, o3) :: (X.pn ++ pl))) s3 g1 g3 g4 q g5 g2
    have land : ∀ {bb : Stmt} {ss : List Stmt} {tt : Addr → Value → Option Addr → TS} {hs : List ExceptHandler} {np0 ps0 : Pos} {y : Str},
        (∀ (a : Addr) (oe : Obj) (cl : Value) (dd : Option Addr) (pl : List (Addr × Obj)), Zc cl dd oe → (∃ vs, oe.data = .fields vs) → PSs (X.suite a ((a, oe) :: pl)) (bb :: ss) (tt a cl dd)) →
        (∀ a, hp1 a = none → tt a cl dd (inSuite i a D) (st1.set i (some (.ref a))) hp1) → ∀ {d : Value}, Names X y d → PySem.W.exmOne X.K cl d = some true →
        wpAny (model X.prog X.w) X.A (handleBy (.ref a) X.env (.ExceptHandler (some (.Name y np0)) (some n) (bb :: ss) ps0 :: hs)) (SP X pl D) X.xe { z' with heap := k3 } := fun {bb ss tt hs np0 ps0 y} sut wsh {d} nn hit => by
      refine wpAny_handleBy_cons (codeAny_handlers_test ?_) (by intro q; cases q)
      have fits := PySem.W.exm_one (M := model X.prog X.w) (j3.kIn) kind hit
      refine name nn (fits.here (codeAny_handlers_suite_as (HandSPX.lands_againZ f3 fun k4 f5 u4 => ?_)))
      have j4 : Inv X pl st1 hp1 { z' with heap := k4 } := j1.landed nb f5.1 ((up.trans u3).trans u4) os ag
      obtain ⟨o5, w5, r5, t5, q5⟩ := f5.there
      have s4 := j4.suite r5 q5 na l3 f4
      refine store_ok (X := X.suite a ((a, o5) :: (X.pn ++ pl))) (v := .ref a) s4 nd ei lc rfl (fun z5 s5 => ?_) (.inr el)
      refine wpAny_mono ((sut a o5 cl dd (X.pn ++ pl) t5 ⟨_, q5⟩).run [] z5 _ hp1 _ s5 (wsh a na)) (fun fl z6 end6 => ?_) (fun _ _ z => False.elim z)
      have out : ∀ {st6 : L2.St} {hp6 : Hp} {Q : Shared → Prop}, Inv (X.suite a ((a, o5) :: (X.pn ++ pl))) [] st6 hp6 z6 → (∀ z7, Inv X pl (st6.set i none) hp6 z7 → Q z7) →
          wpAny (model X.prog X.w) X.A (do bindName X.env n .none; unbindBehindTheSuite X.env n ps0) (fun _ z7 => Q z7) X.xe z6 := fun s6 q => gone_ok (s6.unsuite good) nd ei el q
      cases fl with
      | next => obtain ⟨_, _, s6, q6⟩ := end6; exact out s6 fun _ j7 => ⟨_, _, j7, q6⟩
      | brk => obtain ⟨_, _, s6, q6⟩ := end6; exact out s6 fun _ j7 => ⟨_, _, j7, q6⟩
      | cont => obtain ⟨_, _, s6, q6⟩ := end6; exact out s6 fun _ j7 => ⟨_, _, j7, q6⟩
      | ret u => obtain ⟨_, _, _, s6, r6, q6⟩ := end6; exact out s6 fun _ j7 => ⟨_, _, _, j7, r6, q6⟩
    rcases wish with ⟨hit, wsh⟩ | ⟨miss, hit, wsh⟩
    · exact land suite wsh nc hit
    · refine wpAny_handleBy_cons (codeAny_handlers_test ?_) (by intro q; cases q)
      have not_ := PySem.W.exm_one (M := model X.prog X.w) (j3.kIn) kind miss
      refine name nc (not_.here ?_)
      show wpAny _ X.A (handleBy (.ref a) X.env _) _ _ _
      exact land suite' wsh nc' hit
  · cases fl with
    | next => obtain ⟨_, _, j, q⟩ := end1; exact wpAny_execs_nil ⟨_, _, j.ofTry good, q⟩
    | brk => obtain ⟨_, _, j, q⟩ := end1; exact ⟨_, _, j.ofTry good, q⟩
    | cont => obtain ⟨_, _, j, q⟩ := end1; exact ⟨_, _, j.ofTry good, q⟩
    | ret u => obtain ⟨_, _, _, j, r, q⟩ := end1; exact ⟨_, _, _, j.ofTry good, r, q⟩
end
end My

namespace My
open PySem PySem.Spec PyProof.Rows L2
/-- dict(zip(ks, xs)): two lists, the first one of texts -/
def tDZ (K : PySem.W.Frag) (t : TA) : TE := fun σ H Q => t σ H fun vs H1 => ∃ (a b : Addr) (ks : List Str) (xs : List V), vs = [.ref a, .ref b] ∧ SqL K H1 a (ks.map V.str) ∧ SqL K H1 b xs ∧
  ∀ p, H1 p = none → Q (.ref p) (upd H1 p (.dK (mergeK [] ((ks.zip xs).map fun kv => (Sum.inr kv.1, kv.2)))))
theorem kv_zip : ∀ {ks : List Str} {xs : List V} {us ws : List Value}, Vals (ks.map V.str) us → Vals xs ws →
    ∃ prs : List (Key × Value), KV ((ks.zip xs).map fun kv => ((Sum.inr kv.1 : Key), kv.2)) prs ∧ prs.length = min us.length ws.length ∧
      ∀ (i : Nat) (key v : Value), us[i]? = some key → ws[i]? = some v → ∃ k, prs[i]? = some (k, v) ∧ keyIs k key = true
  | [], xs, us, ws, h1, _ => by
    cases h1
    exact ⟨[], .nil, by simp, fun i key v h => by simp at h⟩
  | k :: ks, [], us, ws, h1, h2 => by
    cases h2
    exact ⟨[], .nil, by simp, fun i key v _ h => by simp at h⟩
  | k :: ks, x :: xs, us, ws, h1, h2 => by
    cases h1 with
    | cons r t =>
      cases h2 with
      | cons r2 t2 =>
        obtain ⟨prs, q1, q2, q3⟩ := kv_zip t t2
        obtain ⟨tk, rfl⟩ := (show ∃ t, _ = Value.str k t from r)
        rename_i u _
        refine ⟨(Sum.inr k, u) :: prs, .cons ⟨rfl, r2⟩ q1, ?_, ?_⟩
        · simp only [List.length_cons, q2]; omega
        · intro i key v e1 e2
          cases i with
          | zero =>
            simp at e1 e2
            subst e1 e2
            exact ⟨_, rfl, by simp [keyIs, Value.isStrOf]⟩
          | succ i =>
            simp at e1 e2
            obtain ⟨k', e3, e4⟩ := q3 i key v e1 e2
            exact ⟨k', by simpa using e3, e4⟩
section
variable {X : Cx}
theorem pe_dictZip {e1 e2 : Expr} {ta : TA} {p pos p2 pos2 : Pos} (hc : X.calm = true) (hg : Gl X "dict") (hm : X.mg "dict" = none) (hg2 : Gl X "zip") (hm2 : X.mg "zip" = none) (ha : PA X [e1, e2] ta)
    (hs : starEach [e1, e2] X.env = (false, eval e1 X.env) :: starEach [e2] X.env := by rfl) (hpl : (backTo pos2 (starEach [e2] X.env)).any (·.1) = false := by rfl)
    (hs2 : starEach [(.Call (.Name "zip" p2) [e1, e2] [] pos2)] X.env = (false, eval (.Call (.Name "zip" p2) [e1, e2] [] pos2) X.env) :: starEach [] X.env := by rfl) :
    PE X (.Call (.Name "dict" p) [.Call (.Name "zip" p2) [e1, e2] [] pos2] [] pos) (tDZ X.K ta) := by
  refine ⟨fun pins s σ H Q I h => ?_⟩
  refine wpAny_Call_Name_kw (ld_blt I hg hm PyProof.Rows.boot_dict ?_)
  refine PyProof.Rows.callWith_type1 ?_ hs2 (by rfl)
  rw [hs2]
  show wpAny _ _ (spliced ((false, eval _ X.env) :: backTo pos (starEach [] X.env))) _ _ s
  refine Calls.spliced_cons ?_
  refine wpAny_Call_Name_kw (ld_blt I hg2 hm2 PyProof.Rows.boot_zip ?_)
  refine PyProof.Rows.callWith_type1 (thn (ha.run pos2 pins s σ H _ I h) fun us s1 hh => ?_) hs hpl
  obtain ⟨vs, H1, I1, r1, a, b, ks, xs, rfl, hqx, hqy, q⟩ := hh
  cases r1 with
  | cons r rr =>
    cases rr with
    | cons r' rr =>
      cases rr
      cases r
      cases r'
      obtain ⟨its, rv, p1, _⟩ := I1.list hqx
      obtain ⟨its2, rv2, p2, hz2⟩ := I1.list hqy
      have la : a < s1.heap.objs.size := p1.lt
      have lb : b < s1.heap.objs.size := p2.lt
      refine call_zip_2 p1.isList p2.isList fun h' hz hTI hTO hi1 hi2 hsz hk => ?_
      refine Calls.spliced_nil ?_
      obtain ⟨prs, rel, hl, hpr⟩ := kv_zip rv rv2
      have P := PairArg.zip (prog := X.prog) (w := X.w) _ _ _ _ _ _ _ (PySem.W.ktu_apart s1.heap.objs.size a b la lb) its.toArray its2.toArray
      have hlen : prs.length = min its.toArray.size its2.toArray.size := by simpa using hl
      refine PySem.call_dict_pairs (knd := mixKind X.prog X.w) (kvs := prs) (s := { s1 with heap := h' }) P (I.ok.hd hc) ⟨hz, hTI, ⟨_, _, hTO⟩, hi1, hi2, p1.isList.at fun o e => hk _ o e, p2.isList.at fun o e => hk _ o e⟩ ⟨hlen, ?_⟩ ?_ ?_
      · rintro i key v ⟨e3, e4⟩
        exact hpr i key v (by simpa using e3) (by simpa using e4)
      · have e5 : xs.length = its2.length := rv2.length
        have e6 : its2.toArray.size = its2.length := by simp
        rw [e6]
        exact Nat.le_trans (Nat.min_le_right _ _) (e5 ▸ hz2)
      · intro h'' tk hd hkk
        have old : ∀ c o, s1.heap.get? c = some o → h''.get? c = some o := fun c o e => by
          have lt := Heap.lt_size e
          refine hkk c o ?_ (hk c o e)
          intro hmem
          have e' : c = s1.heap.objs.size + 4 ∨ c = s1.heap.objs.size + 3 ∨ c = s1.heap.objs.size ∨ c = s1.heap.objs.size + 1 := by simpa using hmem
          have hle : s1.heap.objs.size ≤ c := by
            rcases e' with z | z | z | z
            · rw [z]; exact Nat.le_add_right _ _
            · rw [z]; exact Nat.le_add_right _ _
            · rw [z]; exact Nat.le_refl _
            · rw [z]; exact Nat.le_add_right _ _
          exact absurd lt (Nat.not_lt.mpr hle)
        have big : s1.heap.objs.size ≤ h'.objs.size := by omega
        have hm' : (h'.objs.size == sysModules) = false := by
          exact beq_eq_false_iff_ne.mpr (Nat.ne_of_gt (Nat.lt_of_lt_of_le I1.big big))
        have hlen2 : (mergeK [] ((ks.zip xs).map fun kv => ((Sum.inr kv.1 : Key), kv.2))).length ≤ sizeLine := by
          refine Nat.le_trans (length_mergeK _ []) ?_
          simp only [List.length_nil, List.length_map, List.length_zip]
          omega
        exact ⟨.ref h'.objs.size, _, I1.laid (t' := tk) old big (show ObjOk X.prog X.w _ _ _ (.dK (mergeK [] ((ks.zip xs).map fun kv => (Sum.inr kv.1, kv.2)))) from ⟨hlen2, hm', merged [] prs, KV.merge rel .nil, hd⟩), rfl, q _ (I1.hok.fresh big)⟩
end
end My

namespace My
open PySem PySem.Spec PyProof.Rows L2
/-! ### rules that leave the heap a letter: what stood stands, what is new is told -/
theorem sameNew {H : Hp} {x : Addr} {o : HO} (hx : H x = none) : Same H (upd H x o) := fun b u e => by
  rw [upd_ne (ne_of_none e hx)]
  exact e
section
variable {X : Cx}
/-- [a, b] -/
def tLstG (t : TA) : TE := fun σ H Q => t σ H fun xs H1 => xs.length ≤ sizeLine ∧ ∀ (p : Addr) (H' : Hp), H1 p = none → H' p = some (.lst xs) → Same H1 H' → Q (.ref p) H'
theorem pe_lstG {es : List Expr} {t : TA} {pos : Pos} (h : PA X es t) : PE X (.List es pos) (tLstG t) := by
  refine ⟨fun pins s σ H Q I hq => ?_⟩
  refine wpAny_List_spliced (thn (h.run pos pins s σ H _ I hq) fun us s1 hh => ?_)
  obtain ⟨xs, H1, I1, r, z, q⟩ := hh
  have hf : H1 s1.heap.objs.size = none := I1.hok.fresh (Nat.le_refl _)
  exact ⟨by rw [← r.length]; exact z, .ref s1.heap.objs.size, upd H1 s1.heap.objs.size (.lst xs),
    I1.laid (t' := s1.toks) (fun b u e => Heap.get?_push_of_some _ e) (Nat.le_refl _) (show ObjOk X.prog X.w _ _ _ (.lst xs) from ⟨z, us, 0, r, Heap.get?_push_size _ rfl⟩), rfl, q _ _ hf upd_same (sameNew hf)⟩
/-- xs + ys, two lists -/
def rCatG : R2 := fun x y H Q => ∃ l b xs zs, x = .ref l ∧ y = .ref b ∧ H l = some (.lst xs) ∧ H b = some (.lst zs) ∧ xs.length + zs.length ≤ sizeLine ∧
  ∀ (p : Addr) (H' : Hp), H p = none → H' p = some (.lst (xs ++ zs)) → Same H H' → Q (.ref p) H'
theorem op_catG : OpR X (binaryOp .Add) rCatG := fun pins s σ H x y v u Q I rx ry h => op_cat pins s σ H x y v u Q I rx ry (by
  obtain ⟨l, b, xs, zs, e1, e2, h1, h2, hz, q⟩ := h
  exact ⟨l, b, xs, zs, e1, e2, h1, h2, hz, fun p hp => q p _ hp upd_same (sameNew hp)⟩)
/-- a new error as a value -/
def tErrG (C : Addr) (f : Str) (t : TA) : TE := fun σ H Q => t σ H fun vs H1 => ∃ v, vs = [v] ∧
  ∀ (a d : Addr) (H' : Hp), H1 a = none → H' a = some (ExD C (some d) a) → H' d = some (.xd [(f, v)]) → Same H1 H' → Q (.ref a) H'
variable {C fI : Addr} {cn f : Str}
theorem pe_errG {a : Expr} {ta : TA} {p pos : Pos} {k : Nat} (T : ErrTxt X.K X.mg cn f C fI) (hr : Room k X.A) (ha : PA X [a] ta) (hg : Gl X cn)
    (hdb : (cn == ("__debug__" : Str)) = false := by decide)
    (he : starEach (a :: []) X.env = (false, eval a X.env) :: starEach [] X.env := by rfl) (hpl : (backTo pos (starEach [] X.env)).any (·.1) = false := by rfl) :
    PE X (.Call (.Name cn p) [a] [] pos) (tErrG C f ta) := by
  refine ⟨fun pins s σ H Q I h => ?_⟩
  refine wpAny_Call_Name_kw (ld_glob I hg T.gC ?_ hdb)
  refine PySem.W.callWith_K (h₀ := X.base) I.ok.mod.kin T.kC (thn (ha.run pos pins s σ H _ I h) fun us s1 hh => ?_) he hpl
  obtain ⟨vs, H1, I1, r1, v, ev, q1⟩ := hh
  subst ev
  refine ⟨I1.kIn, ?_⟩
  cases r1 with
  | cons rv rn =>
    cases rn
    exact err_run T hr (.inl ⟨rfl, rfl⟩) I1 rv fun a d h1 h2 h3 => q1 a d _ h1 upd_same (by rw [upd_ne h3.symm]; exact upd_same) (fun b o e => by
      rw [upd_ne (ne_of_none e h1), upd_ne (ne_of_none e h2)]; exact e)
theorem pe_errGK {kws : List Keyword} {tk : TA} {p pos : Pos} {k : Nat} (T : ErrTxt X.K X.mg cn f C fI) (hr : Room k X.A) (ha : PK X kws tk) (hg : Gl X cn)
    (hall : (backToKw pos (keywordEach kws X.env)).all (·.1.isSome) = true := by rfl)
    (hks : (backToKw pos (keywordEach kws X.env)).filterMap (·.1) = [f] := by rfl)
    (hdb : (cn == ("__debug__" : Str)) = false := by decide)
    (hpl : ((backTo pos (starEach [] X.env)).any (·.1) || (backToKw pos (keywordEach kws X.env)).any (·.1.isNone)) = false := by rfl) :
    PE X (.Call (.Name cn p) [] kws pos) (tErrG C f tk) := by
  refine ⟨fun pins s σ H Q I h => ?_⟩
  refine wpAny_Call_Name_kw (ld_glob I hg T.gC ?_ hdb)
  refine PySem.W.callWith_KW0 (h₀ := X.base) I.ok.mod.kin T.kC hall (thn (ha.run pos pins s σ H _ I h) fun us s1 hh => ?_) hpl
  obtain ⟨vs, H1, I1, r1, v, ev, q1⟩ := hh
  subst ev
  refine ⟨I1.kIn, ?_⟩
  rw [hks]
  cases r1 with
  | cons rv rn =>
    cases rn
    exact err_run T hr (.inr ⟨rfl, rfl⟩) I1 rv fun a d h1 h2 h3 => q1 a d _ h1 upd_same (by rw [upd_ne h3.symm]; exact upd_same) (fun b o e => by
      rw [upd_ne (ne_of_none e h1), upd_ne (ne_of_none e h2)]; exact e)
end
end My

/-! what a program's object lays step by step, the objects apart from one another -/
namespace SuX
open PySem PySem.Spec PySem.Calls PyProof.Rows L2
theorem neN {H : Hp} {b x : Addr} {u : HO} (e : H b = some u) (hx : H x = none) : b ≠ x := fun z => by rw [z, hx] at e; cases e
/-- a class is made: its instance, its dict -/
abbrev mkH (H : Hp) (C c dc : Addr) : Hp := upd (upd H dc (.own c)) c (.ins C dc [])
theorem mkH_old {H : Hp} {C c dc b : Addr} {u : HO} (hc : H c = none) (hd : H dc = none) (e : H b = some u) : mkH H C c dc b = some u := by
  unfold mkH
  rw [upd_ne (neN e hc), upd_ne (neN e hd)]
  exact e
theorem mkH_none {H : Hp} {C c dc b : Addr} (h : mkH H C c dc b = none) : b ≠ c ∧ b ≠ dc ∧ H b = none := by
  unfold mkH at h
  have h1 : b ≠ c := fun z => by rw [z, upd_same] at h; cases h
  rw [upd_ne h1] at h
  have h2 : b ≠ dc := fun z => by rw [z, upd_same] at h; cases h
  rw [upd_ne h2] at h
  exact ⟨h1, h2, h⟩
/-- since H0 all but x stands; L: what has been laid -/
structure TK (H0 : Hp) (x : Addr) (L : List (Addr × HO)) (H : Hp) : Prop where
  at_ : ∀ p ∈ L, H p.1 = some p.2
  nd : (L.map (·.1)).Nodup
  nx : ∀ p ∈ L, p.1 ≠ x
  new : ∀ p ∈ L, H0 p.1 = none
  same : ∀ c u, c ≠ x → H0 c = some u → H c = some u
theorem TK.nil (H0 : Hp) (x : Addr) : TK H0 x [] H0 := ⟨fun _ h => absurd h List.not_mem_nil, List.nodup_nil, fun _ h => absurd h List.not_mem_nil, fun _ h => absurd h List.not_mem_nil, fun _ _ _ e => e⟩
theorem TK.setx {H0 H : Hp} {x : Addr} {L : List (Addr × HO)} {o : HO} (t : TK H0 x L H) : TK H0 x L (upd H x o) :=
  ⟨fun p hp => by rw [upd_ne (t.nx p hp)]; exact t.at_ p hp, t.nd, t.nx, t.new, fun c u n e => by rw [upd_ne n]; exact t.same c u n e⟩
theorem nd_app {A B : List (Addr × HO)} (a : (A.map (·.1)).Nodup) (b : (B.map (·.1)).Nodup) (h : ∀ p ∈ A, ∀ q ∈ B, p.1 ≠ q.1) : ((A ++ B).map (·.1)).Nodup := by
  rw [List.map_append, List.nodup_append]
  refine ⟨a, b, fun u hu v hv => ?_⟩
  obtain ⟨p, hp, rfl⟩ := List.mem_map.mp hu
  obtain ⟨q, hq, rfl⟩ := List.mem_map.mp hv
  exact h p hp q hq
/-- one more object, with what it lays (N) -/
theorem TK.lay {H0 H H' : Hp} {x C c dc : Addr} {ox : HO} {L N : List (Addr × HO)} (t : TK H0 x L H) (hx : H x = some ox) (hc : H c = none) (hd : H dc = none)
    (hN : ∀ p ∈ N, H' p.1 = some p.2 ∧ (p.1 = c ∨ mkH H C c dc p.1 = none)) (nd : (N.map (·.1)).Nodup) (s : ∀ b u, b ≠ c → mkH H C c dc b = some u → H' b = some u) : TK H0 x (L ++ N) H' ∧ H' x = some ox := by
  have nN : ∀ p ∈ N, H p.1 = none := fun p hp => by
    rcases (hN p hp).2 with e | e
    · rw [e]; exact hc
    · exact (mkH_none e).2.2
  have old : ∀ b u, H b = some u → H' b = some u := fun b u e => s b u (neN e hc) (mkH_old hc hd e)
  refine ⟨⟨fun p hp => ?_, nd_app t.nd nd fun p hp q hq => neN (t.at_ p hp) (nN q hq), fun p hp => ?_, fun p hp => ?_, fun b u n e => old b u (t.same b u n e)⟩, old x ox hx⟩
  · rcases List.mem_append.mp hp with hp | hp
    · exact old _ _ (t.at_ p hp)
    · exact (hN p hp).1
  · rcases List.mem_append.mp hp with hp | hp
    · exact t.nx p hp
    · exact (neN hx (nN p hp)).symm
  · rcases List.mem_append.mp hp with hp | hp
    · exact t.new p hp
    · cases e : H0 p.1 with
      | none => rfl
      | some u =>
        have z := t.same p.1 u (neN hx (nN p hp)).symm e
        rw [nN p hp] at z
        cases z
/-- .. which also changes what stands at a -/
theorem TK.layY {H0 H H' : Hp} {x C c dc a : Addr} {ox o o' : HO} {L N : List (Addr × HO)} (t : TK H0 x (L ++ [(a, o)]) H) (hx : H x = some ox) (hc : H c = none) (hd : H dc = none) (ha : H' a = some o')
    (hN : ∀ p ∈ N, H' p.1 = some p.2 ∧ (p.1 = c ∨ mkH H C c dc p.1 = none)) (nd : (N.map (·.1)).Nodup) (s : ∀ b u, b ≠ c → b ≠ a → mkH H C c dc b = some u → H' b = some u) : TK H0 x (L ++ N ++ [(a, o')]) H' ∧ H' x = some ox := by
  have nN : ∀ p ∈ N, H p.1 = none := fun p hp => by
    rcases (hN p hp).2 with e | e
    · rw [e]; exact hc
    · exact (mkH_none e).2.2
  have hA : H a = some o := t.at_ (a, o) (List.mem_append_right _ (List.mem_singleton.mpr rfl))
  have xa : a ≠ x := t.nx (a, o) (List.mem_append_right _ (List.mem_singleton.mpr rfl))
  have a0 : H0 a = none := t.new (a, o) (List.mem_append_right _ (List.mem_singleton.mpr rfl))
  have ndL : ((L ++ [(a, o)]).map (·.1)).Nodup := t.nd
  rw [List.map_append, List.nodup_append] at ndL
  have La : ∀ p ∈ L, p.1 ≠ a := fun p hp => ndL.2.2 p.1 (List.mem_map_of_mem hp) a (List.mem_singleton.mpr rfl)
  have old : ∀ b u, b ≠ a → H b = some u → H' b = some u := fun b u n e => s b u (neN e hc) n (mkH_old hc hd e)
  have sp : ∀ {p : Addr × HO} {R : Prop}, p ∈ L ++ N ++ [(a, o')] → (p ∈ L → R) → (p ∈ N → R) → (p = (a, o') → R) → R := fun hp h1 h2 h3 => by
    rcases List.mem_append.mp hp with hp | hp
    · rcases List.mem_append.mp hp with hp | hp
      · exact h1 hp
      · exact h2 hp
    · exact h3 (List.mem_singleton.mp hp)
  refine ⟨⟨fun p hp => sp hp (fun q => ?_) (fun q => (hN p q).1) (fun q => by rw [q]; exact ha), ?_, fun p hp => sp hp (fun q => t.nx p (List.mem_append_left _ q)) (fun q => (neN hx (nN p q)).symm) (fun q => by rw [q]; exact xa),
    fun p hp => sp hp (fun q => t.new p (List.mem_append_left _ q)) (fun q => ?_) (fun q => by rw [q]; exact a0), fun b u n e => ?_⟩, old x ox xa.symm hx⟩
  · exact old _ _ (La p q) (t.at_ p (List.mem_append_left _ q))
  · refine nd_app (nd_app ndL.1 nd fun p hp q hq => neN (t.at_ p (List.mem_append_left _ hp)) (nN q hq)) (List.nodup_cons.mpr ⟨by simp, List.nodup_nil⟩) fun p hp q hq => ?_
    rw [List.mem_singleton.mp hq]
    rcases List.mem_append.mp hp with hp | hp
    · exact La p hp
    · exact (neN hA (nN p hp)).symm
  · cases e : H0 p.1 with
    | none => rfl
    | some u =>
      have z := t.same p.1 u (neN hx (nN p q)).symm e
      rw [nN p q] at z
      cases z
  · exact old b u (fun z => by rw [z, a0] at e; cases e) (t.same b u n e)
end SuX

/-! texts by names: the maps that stores hold -/
namespace SuX
open PySem PySem.Spec PySem.Calls PyProof.Rows L2
structure Wn where
  (wr pa : Addr)
  l : List Nat
abbrev SMap := List (List Nat × Wn)
def kvS (m : SMap) : List (Key × V) := m.map fun e => (Sum.inr (SX.S e.1), V.ref e.2.wr)
def getM : SMap → List Nat → Option Wn
  | [], _ => none
  | e :: r, k => if e.1 = k then some e.2 else getM r k
def putM : SMap → List Nat → Wn → SMap
  | [], k, x => [(k, x)]
  | e :: r, k, x => if e.1 = k then (e.1, x) :: r else e :: putM r k x
def dropM (m : SMap) (k : List Nat) : SMap := m.filter fun e => decide (e.1 ≠ k)
theorem key_iff (e k : List Nat) : ((Sum.inr (SX.S e) : Key) = Sum.inr (SX.S k)) ↔ e = k := ⟨fun h => SX.S_inj (Sum.inr.inj h), fun h => by rw [h]⟩
theorem valV_kvS (k : List Nat) : ∀ m : SMap, valV (kvS m) (Sum.inr (SX.S k) : Key) = (getM m k).map fun x => V.ref x.wr
  | [] => rfl
  | e :: r => by
    unfold getM
    by_cases h : e.1 = k
    · rw [if_pos h]
      exact valV_pos (p := ((Sum.inr (SX.S e.1) : Key), V.ref e.2.wr)) ((key_iff e.1 k).mpr h)
    · rw [if_neg h, ← valV_kvS k r]
      exact valV_neg (p := ((Sum.inr (SX.S e.1) : Key), V.ref e.2.wr)) (fun z => h ((key_iff e.1 k).mp z))
theorem kvS_len (m : SMap) : (kvS m).length = m.length := List.length_map ..
theorem putM_len {m : SMap} {k : List Nat} {x : Wn} : (putM m k x).length ≤ m.length + 1 := by
  induction m with
  | nil => exact Nat.le_refl _
  | cons e r ih =>
    unfold putM
    split
    · exact Nat.le_succ _
    · exact Nat.succ_le_succ ih
theorem getM_none_mem {k : List Nat} : ∀ {m : SMap}, getM m k = none → ∀ e ∈ m, e.1 ≠ k
  | [], _, e, he => absurd he List.not_mem_nil
  | a :: r, h, e, he => by
    unfold getM at h
    split at h
    · cases h
    · rename_i q
      rcases List.mem_cons.mp he with rfl | he
      · exact q
      · exact getM_none_mem h e he
theorem getM_mem {k : List Nat} {x : Wn} : ∀ {m : SMap}, getM m k = some x → (k, x) ∈ m
  | [], h => by cases h
  | a :: r, h => by
    unfold getM at h
    split at h
    · rename_i q
      cases h
      rw [← q]
      exact List.mem_cons_self
    · exact List.mem_cons_of_mem _ (getM_mem h)
theorem map_id_of {k : List Nat} {v : V} : ∀ {m : SMap}, (∀ e ∈ m, e.1 ≠ k) → (kvS m).map (fun kv => if kv.1 = (Sum.inr (SX.S k) : Key) then (kv.1, v) else kv) = kvS m
  | [], _ => rfl
  | e :: r, h => by
    show (if (Sum.inr (SX.S e.1) : Key) = Sum.inr (SX.S k) then _ else _) :: _ = _
    rw [if_neg (fun z => h e List.mem_cons_self ((key_iff e.1 k).mp z))]
    exact congrArg (List.cons ((Sum.inr (SX.S e.1) : Key), V.ref e.2.wr)) (map_id_of fun a ha => h a (List.mem_cons_of_mem _ ha))
/-- the dict behind a store's put -/
theorem putK_kvS (k : List Nat) (x : Wn) : ∀ {m : SMap}, (m.map (·.1)).Nodup → putK (kvS m) (Sum.inr (SX.S k) : Key) (V.ref x.wr) = kvS (putM m k x)
  | [], _ => rfl
  | e :: r, nd => by
    have nd' : e.1 ∉ r.map (·.1) ∧ (r.map (·.1)).Nodup := List.nodup_cons.mp nd
    have ih := putK_kvS k x nd'.2
    unfold putM
    by_cases h : e.1 = k
    · rw [if_pos h]
      unfold putK
      have q : ((kvS (e :: r)).any fun kv => decide (kv.1 = (Sum.inr (SX.S k) : Key))) = true := by
        show (decide ((Sum.inr (SX.S e.1) : Key) = Sum.inr (SX.S k)) || _) = true
        rw [decide_eq_true ((key_iff e.1 k).mpr h)]; rfl
      rw [if_pos q]
      show (if (Sum.inr (SX.S e.1) : Key) = Sum.inr (SX.S k) then _ else _) :: _ = _
      rw [if_pos ((key_iff e.1 k).mpr h)]
      have hr : ∀ a ∈ r, a.1 ≠ k := fun a ha z => nd'.1 (by rw [h, ← z]; exact List.mem_map_of_mem ha)
      exact congrArg (List.cons ((Sum.inr (SX.S e.1) : Key), V.ref x.wr)) (map_id_of hr)
    · rw [if_neg h]
      have hk : ¬ ((Sum.inr (SX.S e.1) : Key) = Sum.inr (SX.S k)) := fun z => h ((key_iff e.1 k).mp z)
      have a1 : ((kvS (e :: r)).any fun kv => decide (kv.1 = (Sum.inr (SX.S k) : Key))) = ((kvS r).any fun kv => decide (kv.1 = (Sum.inr (SX.S k) : Key))) := by
        show (decide ((Sum.inr (SX.S e.1) : Key) = Sum.inr (SX.S k)) || _) = _
        rw [decide_eq_false hk]; rfl
      unfold putK at ih ⊢
      rw [a1]
      split at ih
      · rename_i q
        rw [if_pos q]
        show (if (Sum.inr (SX.S e.1) : Key) = Sum.inr (SX.S k) then _ else _) :: _ = _
        rw [if_neg hk]
        exact congrArg (List.cons ((Sum.inr (SX.S e.1) : Key), V.ref e.2.wr)) ih
      · rename_i q
        rw [if_neg q]
        exact congrArg (List.cons ((Sum.inr (SX.S e.1) : Key), V.ref e.2.wr)) ih
theorem dropK_kvS (k : List Nat) : ∀ m : SMap, dropK (kvS m) (Sum.inr (SX.S k) : Key) = kvS (dropM m k)
  | [] => rfl
  | e :: r => by
    have ih := dropK_kvS k r
    unfold dropK dropM at ih ⊢
    by_cases h : e.1 = k
    · rw [List.filter_cons_of_neg (by simp [h])]
      show List.filter _ (_ :: _) = _
      rw [List.filter_cons_of_neg (by simp [(key_iff e.1 k).mpr h])]
      exact ih
    · have hk : ¬ ((Sum.inr (SX.S e.1) : Key) = Sum.inr (SX.S k)) := fun z => h ((key_iff e.1 k).mp z)
      rw [List.filter_cons_of_pos (by simp [h])]
      show List.filter _ (_ :: _) = _ :: _
      rw [List.filter_cons_of_pos (by simp [hk])]
      exact congrArg (List.cons ((Sum.inr (SX.S e.1) : Key), V.ref e.2.wr)) ih
theorem putM_mem {k : List Nat} {y : Wn} : ∀ {m : SMap}, (m.map (·.1)).Nodup → ∀ e ∈ putM m k y, e = (k, y) ∨ (e ∈ m ∧ e.1 ≠ k)
  | [], _, e, he => .inl (List.mem_singleton.mp he)
  | a :: r, nd, e, he => by
    have nd' : a.1 ∉ r.map (·.1) ∧ (r.map (·.1)).Nodup := List.nodup_cons.mp nd
    unfold putM at he
    by_cases h : a.1 = k
    · rw [if_pos h] at he
      rcases List.mem_cons.mp he with rfl | he
      · exact .inl (by rw [h])
      · exact .inr ⟨List.mem_cons_of_mem _ he, fun z => nd'.1 (by rw [h, ← z]; exact List.mem_map_of_mem he)⟩
    · rw [if_neg h] at he
      rcases List.mem_cons.mp he with rfl | he
      · exact .inr ⟨List.mem_cons_self, h⟩
      · rcases putM_mem nd'.2 e he with z | ⟨z, q⟩
        · exact .inl z
        · exact .inr ⟨List.mem_cons_of_mem _ z, q⟩
theorem putM_nd {α : Type} (f : List Nat × Wn → α) {k : List Nat} {y : Wn} : ∀ {m : SMap}, (m.map (·.1)).Nodup → (m.map f).Nodup → (∀ e ∈ m, e.1 ≠ k → f e ≠ f (k, y)) → ((putM m k y).map f).Nodup
  | [], _, _, _ => List.nodup_cons.mpr ⟨List.not_mem_nil, List.nodup_nil⟩
  | a :: r, nd, nf, h => by
    have nd' : a.1 ∉ r.map (·.1) ∧ (r.map (·.1)).Nodup := List.nodup_cons.mp nd
    have nf' : f a ∉ r.map f ∧ (r.map f).Nodup := List.nodup_cons.mp nf
    unfold putM
    by_cases q : a.1 = k
    · rw [if_pos q]
      refine List.nodup_cons.mpr ⟨fun z => ?_, nf'.2⟩
      obtain ⟨e, he, z⟩ := List.mem_map.mp z
      refine h e (List.mem_cons_of_mem _ he) (fun x => nd'.1 (by rw [q, ← x]; exact List.mem_map_of_mem he)) ?_
      rw [z, q]
    · rw [if_neg q]
      refine List.nodup_cons.mpr ⟨fun z => ?_, putM_nd f nd'.2 nf'.2 fun e he => h e (List.mem_cons_of_mem _ he)⟩
      obtain ⟨e, he, z⟩ := List.mem_map.mp z
      rcases putM_mem nd'.2 e he with w | ⟨w, _⟩
      · rw [w] at z
        exact h a List.mem_cons_self q z.symm
      · exact nf'.1 (by rw [← z]; exact List.mem_map_of_mem w)
theorem kvS_same {k : List Nat} {x y : Wn} (h : y.wr = x.wr) : ∀ {m : SMap}, getM m k = some x → kvS (putM m k y) = kvS m
  | [], e => by cases e
  | a :: r, e => by
    unfold getM at e
    unfold putM
    by_cases q : a.1 = k
    · rw [if_pos q] at e ⊢
      cases e
      show ((Sum.inr (SX.S a.1) : Key), V.ref y.wr) :: _ = _
      rw [h]
      rfl
    · rw [if_neg q] at e ⊢
      exact congrArg (List.cons ((Sum.inr (SX.S a.1) : Key), V.ref a.2.wr)) (kvS_same h e)
end SuX

namespace My
open PySem PySem.Spec PyProof.Rows L2 SuX
def top (i : Nat) : Stmt := PySem.Challenge.pw_recordyard_k24_bars_and_disabled.main.body.getD i (.Pass ⟨0, 0, 0, 0⟩)
def keptNames : List (List Nat) := [[97, 114, 103, 115], [97, 115, 99, 116, 105, 109, 101], [99, 114, 101, 97, 116, 101, 100], [108, 101, 118, 101, 108, 110, 97, 109, 101], [108, 101, 118, 101, 108, 110, 111], [109, 101, 115, 115, 97, 103, 101], [109, 115, 101, 99, 115], [109, 115, 103], [110, 97, 109, 101]]
abbrev s__wall : Stmt := top 0
abbrev s_BadLevel___init__ : Stmt := inClass (top 3) 0
abbrev s_BadName___init__ : Stmt := inClass (top 4) 0
abbrev s_is_integer : Stmt := top 8
abbrev s_is_word_sign : Stmt := top 9
abbrev s_is_part : Stmt := top 10
abbrev s_is_dotted : Stmt := top 11
abbrev s_is_logger_name : Stmt := top 12
abbrev s_LevelTable___init__ : Stmt := inClass (top 18) 0
abbrev s_LevelTable_add_level_name : Stmt := inClass (top 18) 1
abbrev s_LevelTable_level_name : Stmt := inClass (top 18) 2
abbrev s_LevelTable_level_names : Stmt := inClass (top 18) 3
abbrev s_LevelTable_knows : Stmt := inClass (top 18) 4
abbrev s_LevelTable_number : Stmt := inClass (top 18) 5
abbrev s_LevelTable_stand_as : Stmt := inClass (top 18) 6
abbrev s_Handler___init__ : Stmt := inClass (top 20) 0
abbrev s_Handler_setLevel : Stmt := inClass (top 20) 1
abbrev s_Handler_setFormatter : Stmt := inClass (top 20) 2
abbrev s_Handler_setTerminator : Stmt := inClass (top 20) 3
abbrev s_Handler_setName : Stmt := inClass (top 20) 4
abbrev s_Handler_addFilter : Stmt := inClass (top 20) 5
abbrev s_Handler_removeFilter : Stmt := inClass (top 20) 6
abbrev s_Handler_filtered : Stmt := inClass (top 20) 7
abbrev s_Handler_handle : Stmt := inClass (top 20) 8
abbrev s_Handler_emit : Stmt := inClass (top 20) 9
abbrev s_Handler_formatted : Stmt := inClass (top 20) 10
abbrev s_Handler_line : Stmt := inClass (top 20) 11
abbrev s_Handler_flush : Stmt := inClass (top 20) 12
abbrev s_Handler_close : Stmt := inClass (top 20) 13
abbrev s_StreamHandler___init__ : Stmt := inClass (top 22) 0
abbrev s_StreamHandler_setStream : Stmt := inClass (top 22) 1
abbrev s_StreamHandler_emit : Stmt := inClass (top 22) 2
abbrev s_StreamHandler_setLevel : Stmt := inClass (top 22) 3
abbrev s_StreamHandler_setFormatter : Stmt := inClass (top 22) 4
abbrev s_StreamHandler_setTerminator : Stmt := inClass (top 22) 5
abbrev s_StreamHandler_setName : Stmt := inClass (top 22) 6
abbrev s_StreamHandler_addFilter : Stmt := inClass (top 22) 7
abbrev s_StreamHandler_removeFilter : Stmt := inClass (top 22) 8
abbrev s_StreamHandler_filtered : Stmt := inClass (top 22) 9
abbrev s_StreamHandler_handle : Stmt := inClass (top 22) 10
abbrev s_StreamHandler_formatted : Stmt := inClass (top 22) 11
abbrev s_StreamHandler_flush : Stmt := inClass (top 22) 12
abbrev s_StreamHandler_close : Stmt := inClass (top 22) 13
abbrev s_Roster___init__ : Stmt := inClass (top 24) 0
abbrev s_Roster_enter : Stmt := inClass (top 24) 1
abbrev s_Roster_lead : Stmt := inClass (top 24) 2
abbrev s_Roster_free : Stmt := inClass (top 24) 3
abbrev s_Roster_free_all : Stmt := inClass (top 24) 4
abbrev s_Roster_led_to : Stmt := inClass (top 24) 5
abbrev s_Roster_leading_names : Stmt := inClass (top 24) 6
abbrev s_Roster_fail : Stmt := inClass (top 24) 7
abbrev s_Roster_failures : Stmt := inClass (top 24) 8
abbrev s_Roster_keep_failures : Stmt := inClass (top 24) 9
abbrev s_Roster_close_all : Stmt := inClass (top 24) 10
abbrev s_Written___init__ : Stmt := inClass (top 26) 0
abbrev s_Written_grow : Stmt := inClass (top 26) 1
abbrev s_Written_whole : Stmt := inClass (top 26) 2
abbrev s_Store___init__ : Stmt := inClass (top 27) 0
abbrev s_Store_has : Stmt := inClass (top 27) 1
abbrev s_Store_put : Stmt := inClass (top 27) 2
abbrev s_Store_write : Stmt := inClass (top 27) 3
abbrev s_Store_take_away : Stmt := inClass (top 27) 4
abbrev s_Store_rename : Stmt := inClass (top 27) 5
abbrev s_Store_text : Stmt := inClass (top 27) 6
abbrev s_Store_length : Stmt := inClass (top 27) 7
abbrev s_Store_time_of : Stmt := inClass (top 27) 8
abbrev s_Store_stand_as : Stmt := inClass (top 27) 9
abbrev s_Store_all_names : Stmt := inClass (top 27) 10
abbrev s_Store_contents : Stmt := inClass (top 27) 11
abbrev s_Clock___init__ : Stmt := inClass (top 29) 0
abbrev s_Clock_now : Stmt := inClass (top 29) 1
abbrev s_Clock_advance : Stmt := inClass (top 29) 2
abbrev s_Logger___init__ : Stmt := inClass (top 31) 0
abbrev s_Logger_setLevel : Stmt := inClass (top 31) 1
abbrev s_Logger_setPropagate : Stmt := inClass (top 31) 2
abbrev s_Logger_setDisabled : Stmt := inClass (top 31) 3
abbrev s_Logger_getChild : Stmt := inClass (top 31) 4
abbrev s_Logger_getChildren : Stmt := inClass (top 31) 5
abbrev s_Logger_getEffectiveLevel : Stmt := inClass (top 31) 6
abbrev s_Logger_isEnabledFor : Stmt := inClass (top 31) 7
abbrev s_Logger_addHandler : Stmt := inClass (top 31) 8
abbrev s_Logger_removeHandler : Stmt := inClass (top 31) 9
abbrev s_Logger_hasHandlers : Stmt := inClass (top 31) 10
abbrev s_Logger_handlers_reached : Stmt := inClass (top 31) 11
abbrev s_Logger_addFilter : Stmt := inClass (top 31) 12
abbrev s_Logger_removeFilter : Stmt := inClass (top 31) 13
abbrev s_Logger_filtered : Stmt := inClass (top 31) 14
abbrev s_Logger_log : Stmt := inClass (top 31) 15
abbrev s_Logger_debug : Stmt := inClass (top 31) 16
abbrev s_Logger_info : Stmt := inClass (top 31) 17
abbrev s_Logger_warning : Stmt := inClass (top 31) 18
abbrev s_Logger_error : Stmt := inClass (top 31) 19
abbrev s_Logger_critical : Stmt := inClass (top 31) 20
abbrev s_Logger_handle : Stmt := inClass (top 31) 21
abbrev s_LoggerTree___init__ : Stmt := inClass (top 34) 0
abbrev s_LoggerTree_getLogger : Stmt := inClass (top 34) 1
abbrev s_LoggerTree_grow : Stmt := inClass (top 34) 2
abbrev s_LoggerTree_nearest : Stmt := inClass (top 34) 3
abbrev s_LoggerTree_made : Stmt := inClass (top 34) 4
abbrev s_LoggerTree_loggers : Stmt := inClass (top 34) 5
abbrev s_LoggerTree_roll : Stmt := inClass (top 34) 6
abbrev s_LoggerTree_disable : Stmt := inClass (top 34) 7
abbrev s_LoggerTree_bar : Stmt := inClass (top 34) 8
abbrev s_Yard___init__ : Stmt := inClass (top 36) 0
abbrev s_Yard_now : Stmt := inClass (top 36) 1
abbrev s_Yard_advance : Stmt := inClass (top 36) 2
abbrev s_Yard_text : Stmt := inClass (top 36) 3
abbrev s_Yard_streams : Stmt := inClass (top 36) 4
abbrev s_Yard_files : Stmt := inClass (top 36) 5
abbrev s_Yard_put_file : Stmt := inClass (top 36) 6
abbrev s_Yard_remove_file : Stmt := inClass (top 36) 7
abbrev s_Yard_add_level_name : Stmt := inClass (top 36) 8
abbrev s_Yard_level_name : Stmt := inClass (top 36) 9
abbrev s_Yard_level_names : Stmt := inClass (top 36) 10
abbrev s_Yard_make_record : Stmt := inClass (top 36) 11
abbrev s_Yard_getLogger : Stmt := inClass (top 36) 12
abbrev s_Yard_loggers : Stmt := inClass (top 36) 13
abbrev s_Yard_disable : Stmt := inClass (top 36) 14
abbrev s_Yard_bar : Stmt := inClass (top 36) 15
abbrev s_Yard_getHandlerByName : Stmt := inClass (top 36) 16
abbrev s_Yard_getHandlerNames : Stmt := inClass (top 36) 17
abbrev s_Yard_failures : Stmt := inClass (top 36) 18
abbrev s_Yard_shutdown : Stmt := inClass (top 36) 19
abbrev s__law_draw : Stmt := top 38
abbrev s__law_pick : Stmt := top 39
abbrev s__law_same : Stmt := top 40
abbrev s__law_parent : Stmt := top 41
abbrev s__law_chain : Stmt := top 42
abbrev s__law_tree : Stmt := top 43
abbrev s__law_made : Stmt := top 44
abbrev s__law_effective : Stmt := top 45
abbrev s__law_are_right : Stmt := top 46
abbrev s_law : Stmt := top 47
theorem sc_is_integer : FnScope ["thing"] ["thing"] (defScope s_is_integer) := ⟨rfl, rfl, rfl, by decide +kernel, rfl, by decide +kernel, by decide +kernel⟩
theorem sc_is_word_sign : FnScope ["sign"] ["sign"] (defScope s_is_word_sign) := ⟨rfl, rfl, rfl, by decide +kernel, rfl, by decide +kernel, by decide +kernel⟩
theorem sc_is_part : FnScope ["text", "sign"] ["text"] (defScope s_is_part) := ⟨rfl, rfl, rfl, by decide +kernel, rfl, by decide +kernel, by decide +kernel⟩
theorem sc_is_dotted : FnScope ["thing", "part"] ["thing"] (defScope s_is_dotted) := ⟨rfl, rfl, rfl, by decide +kernel, rfl, by decide +kernel, by decide +kernel⟩
theorem sc_is_logger_name : FnScope ["thing"] ["thing"] (defScope s_is_logger_name) := ⟨rfl, rfl, rfl, by decide +kernel, rfl, by decide +kernel, by decide +kernel⟩
theorem sc_LevelTable___init__ : FnScope ["self"] ["self"] (defScope s_LevelTable___init__) := ⟨rfl, rfl, rfl, by decide +kernel, rfl, by decide +kernel, by decide +kernel⟩
theorem sc_LevelTable_knows : FnScope ["self", "level"] ["self", "level"] (defScope s_LevelTable_knows) := ⟨rfl, rfl, rfl, by decide +kernel, rfl, by decide +kernel, by decide +kernel⟩
theorem sc_LevelTable_number : FnScope ["self", "level"] ["self", "level"] (defScope s_LevelTable_number) := ⟨rfl, rfl, rfl, by decide +kernel, rfl, by decide +kernel, by decide +kernel⟩
theorem sc_Handler___init__ : FnScope ["self", "yard"] ["self", "yard"] (defScope s_Handler___init__) := ⟨rfl, rfl, rfl, by decide +kernel, rfl, by decide +kernel, by decide +kernel⟩
theorem sc_StreamHandler___init__ : NdefX.NScope ["self", "yard", "stream", "__class__"] ["self", "yard", "stream"] ["__class__"] (defScope s_StreamHandler___init__) := NdefX.nscope_by (by decide +kernel)
theorem sc_Roster___init__ : FnScope ["self"] ["self"] (defScope s_Roster___init__) := ⟨rfl, rfl, rfl, by decide +kernel, rfl, by decide +kernel, by decide +kernel⟩
theorem sc_Roster_enter : FnScope ["self", "handler"] ["self", "handler"] (defScope s_Roster_enter) := ⟨rfl, rfl, rfl, by decide +kernel, rfl, by decide +kernel, by decide +kernel⟩
theorem sc_Written___init__ : FnScope ["self", "text", "time"] ["self", "text", "time"] (defScope s_Written___init__) := ⟨rfl, rfl, rfl, by decide +kernel, rfl, by decide +kernel, by decide +kernel⟩
theorem sc_Store___init__ : FnScope ["self", "clock"] ["self", "clock"] (defScope s_Store___init__) := ⟨rfl, rfl, rfl, by decide +kernel, rfl, by decide +kernel, by decide +kernel⟩
theorem sc_Clock___init__ : FnScope ["self", "shown"] ["self", "shown"] (defScope s_Clock___init__) := ⟨rfl, rfl, rfl, by decide +kernel, rfl, by decide +kernel, by decide +kernel⟩
theorem sc_Clock_now : FnScope ["self"] ["self"] (defScope s_Clock_now) := ⟨rfl, rfl, rfl, by decide +kernel, rfl, by decide +kernel, by decide +kernel⟩
theorem sc_Logger___init__ : FnScope ["self", "tree", "name", "level", "parent"] ["self", "tree", "name", "level", "parent"] (defScope s_Logger___init__) := ⟨rfl, rfl, rfl, by decide +kernel, rfl, by decide +kernel, by decide +kernel⟩
theorem sc_Logger_setLevel : FnScope ["self", "level"] ["self", "level"] (defScope s_Logger_setLevel) := ⟨rfl, rfl, rfl, by decide +kernel, rfl, by decide +kernel, by decide +kernel⟩
theorem sc_Logger_setDisabled : FnScope ["self", "flag"] ["self", "flag"] (defScope s_Logger_setDisabled) := ⟨rfl, rfl, rfl, by decide +kernel, rfl, by decide +kernel, by decide +kernel⟩
theorem sc_Logger_getEffectiveLevel : FnScope ["self", "logger"] ["self"] (defScope s_Logger_getEffectiveLevel) := ⟨rfl, rfl, rfl, by decide +kernel, rfl, by decide +kernel, by decide +kernel⟩
theorem sc_Logger_isEnabledFor : FnScope ["self", "level"] ["self", "level"] (defScope s_Logger_isEnabledFor) := ⟨rfl, rfl, rfl, by decide +kernel, rfl, by decide +kernel, by decide +kernel⟩
theorem sc_LoggerTree___init__ : FnScope ["self", "yard", "levels", "clock", "last_resort"] ["self", "yard", "levels", "clock", "last_resort"] (defScope s_LoggerTree___init__) := ⟨rfl, rfl, rfl, by decide +kernel, rfl, by decide +kernel, by decide +kernel⟩
theorem sc_LoggerTree_getLogger : FnScope ["self", "name"] ["self", "name"] (defScope s_LoggerTree_getLogger) := ⟨rfl, rfl, rfl, by decide +kernel, rfl, by decide +kernel, by decide +kernel⟩
theorem sc_LoggerTree_grow : FnScope ["self", "name", "logger", "other"] ["self", "name"] (defScope s_LoggerTree_grow) := ⟨rfl, rfl, rfl, by decide +kernel, rfl, by decide +kernel, by decide +kernel⟩
theorem sc_LoggerTree_nearest : FnScope ["self", "name", "above"] ["self", "name"] (defScope s_LoggerTree_nearest) := ⟨rfl, rfl, rfl, by decide +kernel, rfl, by decide +kernel, by decide +kernel⟩
theorem sc_LoggerTree_made : FnScope ["self", "name"] ["self"] (defScope s_LoggerTree_made) := ⟨rfl, rfl, rfl, by decide +kernel, rfl, by decide +kernel, by decide +kernel⟩
theorem sc_LoggerTree_loggers : FnScope ["self"] ["self"] (defScope s_LoggerTree_loggers) := ⟨rfl, rfl, rfl, by decide +kernel, rfl, by decide +kernel, by decide +kernel⟩
theorem sc_LoggerTree_disable : FnScope ["self", "level"] ["self", "level"] (defScope s_LoggerTree_disable) := ⟨rfl, rfl, rfl, by decide +kernel, rfl, by decide +kernel, by decide +kernel⟩
theorem sc_LoggerTree_bar : FnScope ["self"] ["self"] (defScope s_LoggerTree_bar) := ⟨rfl, rfl, rfl, by decide +kernel, rfl, by decide +kernel, by decide +kernel⟩
theorem sc_Yard___init__ : FnScope ["self", "now"] ["self", "now"] (defScope s_Yard___init__) := ⟨rfl, rfl, rfl, by decide +kernel, rfl, by decide +kernel, by decide +kernel⟩
theorem sc_Yard_getLogger : FnScope ["self", "name"] ["self", "name"] (defScope s_Yard_getLogger) := ⟨rfl, rfl, rfl, by decide +kernel, rfl, by decide +kernel, by decide +kernel⟩
theorem sc_Yard_disable : FnScope ["self", "level"] ["self", "level"] (defScope s_Yard_disable) := ⟨rfl, rfl, rfl, by decide +kernel, rfl, by decide +kernel, by decide +kernel⟩
theorem sc_Yard_bar : FnScope ["self"] ["self"] (defScope s_Yard_bar) := ⟨rfl, rfl, rfl, by decide +kernel, rfl, by decide +kernel, by decide +kernel⟩
theorem sc__law_draw : FnScope ["_law_s", "_law_many", "_law_digit", "_law_mixed", "_law_last"] ["_law_s", "_law_many"] (defScope s__law_draw) := ⟨rfl, rfl, rfl, by decide +kernel, rfl, by decide +kernel, by decide +kernel⟩
theorem sc__law_pick : FnScope ["_law_s", "_law_some"] ["_law_s", "_law_some"] (defScope s__law_pick) := ⟨rfl, rfl, rfl, by decide +kernel, rfl, by decide +kernel, by decide +kernel⟩
theorem sc__law_same : FnScope ["_law_found", "_law_due", "_law_one", "_law_two"] ["_law_found", "_law_due"] (defScope s__law_same) := ⟨rfl, rfl, rfl, by decide +kernel, rfl, by decide +kernel, by decide +kernel⟩
theorem sc__law_parent : FnScope ["_law_names", "_law_name", "_law_parts", "_law_found", "_law_many", "_law_above"] ["_law_names", "_law_name"] (defScope s__law_parent) := ⟨rfl, rfl, rfl, by decide +kernel, rfl, by decide +kernel, by decide +kernel⟩
theorem sc__law_chain : FnScope ["_law_names", "_law_name", "_law_found"] ["_law_names", "_law_name"] (defScope s__law_chain) := ⟨rfl, rfl, rfl, by decide +kernel, rfl, by decide +kernel, by decide +kernel⟩
theorem sc__law_tree : FnScope ["_law_m"] [] (defScope s__law_tree) := ⟨rfl, rfl, rfl, by decide +kernel, rfl, by decide +kernel, by decide +kernel⟩
theorem sc__law_made : FnScope ["_law_m", "_law_name"] ["_law_m", "_law_name"] (defScope s__law_made) := ⟨rfl, rfl, rfl, by decide +kernel, rfl, by decide +kernel, by decide +kernel⟩
theorem sc__law_effective : FnScope ["_law_m", "_law_name", "_law_one"] ["_law_m", "_law_name"] (defScope s__law_effective) := ⟨rfl, rfl, rfl, by decide +kernel, rfl, by decide +kernel, by decide +kernel⟩
theorem sc__law_are_right : FnScope ["_law_yard", "_law_known", "_law_m", "_law_name", "_law_least", "_law_number"] ["_law_yard", "_law_known", "_law_m"] (defScope s__law_are_right) := ⟨rfl, rfl, rfl, by decide +kernel, rfl, by decide +kernel, by decide +kernel⟩
theorem sc_law : FnScope ["_law_script", "_law_s", "_law_yards", "_law_trees", "_law_known", "_law_turn", "_law_at", "_law_way", "_law_yard", "_law_m", "_law_name", "_law_some", "_law_given", "_law_k"] ["_law_script"] (defScope s_law) := ⟨rfl, rfl, rfl, by decide +kernel, rfl, by decide +kernel, by decide +kernel⟩
structure Dfn (K : PySem.W.Frag) (mg : Str → Option Value) (x qual : Str) (st : Stmt) (ps : List Str) (f : Addr) (fd : FuncData) : Prop where
  F : Fun K x qual st f fd
  g : mg x = some (.ref f)
  b : Binds K fd ps []
structure DfnD (K : PySem.W.Frag) (mg : Str → Option Value) (x qual : Str) (st : Stmt) (ps : List Str) (dvs : List V) (f : Addr) (fd : FuncData) : Prop where
  F : FunD K x qual (defArgs st) (defBody st) (defScope st) dvs [] f fd
  g : mg x = some (.ref f)
  b : Binds K fd ps []
structure Blt (mg : Str → Option Value) : Prop where
  n_all : mg "all" = none
  n_bool : mg "bool" = none
  n_dict : mg "dict" = none
  n_int : mg "int" = none
  n_isinstance : mg "isinstance" = none
  n_len : mg "len" = none
  n_list : mg "list" = none
  n_max : mg "max" = none
  n_range : mg "range" = none
  n_sorted : mg "sorted" = none
  n_str : mg "str" = none
  n_super : mg "super" = none
  n_tuple : mg "tuple" = none
  n_zip : mg "zip" = none
structure Txt (K : PySem.W.Frag) (mg : Str → Option Value) where
  B : Blt mg
  f__wall : Addr
  fd__wall : FuncData
  D__wall : Dfn K mg "_wall" "_wall" s__wall ["k"] f__wall fd__wall
  f_is_integer : Addr
  fd_is_integer : FuncData
  D_is_integer : Dfn K mg "is_integer" "is_integer" s_is_integer ["thing"] f_is_integer fd_is_integer
  f_is_word_sign : Addr
  fd_is_word_sign : FuncData
  D_is_word_sign : Dfn K mg "is_word_sign" "is_word_sign" s_is_word_sign ["sign"] f_is_word_sign fd_is_word_sign
  f_is_part : Addr
  fd_is_part : FuncData
  D_is_part : Dfn K mg "is_part" "is_part" s_is_part ["text"] f_is_part fd_is_part
  f_is_dotted : Addr
  fd_is_dotted : FuncData
  D_is_dotted : Dfn K mg "is_dotted" "is_dotted" s_is_dotted ["thing"] f_is_dotted fd_is_dotted
  f_is_logger_name : Addr
  fd_is_logger_name : FuncData
  D_is_logger_name : Dfn K mg "is_logger_name" "is_logger_name" s_is_logger_name ["thing"] f_is_logger_name fd_is_logger_name
  f__law_draw : Addr
  fd__law_draw : FuncData
  D__law_draw : Dfn K mg "_law_draw" "_law_draw" s__law_draw ["_law_s", "_law_many"] f__law_draw fd__law_draw
  f__law_pick : Addr
  fd__law_pick : FuncData
  D__law_pick : Dfn K mg "_law_pick" "_law_pick" s__law_pick ["_law_s", "_law_some"] f__law_pick fd__law_pick
  f__law_same : Addr
  fd__law_same : FuncData
  D__law_same : Dfn K mg "_law_same" "_law_same" s__law_same ["_law_found", "_law_due"] f__law_same fd__law_same
  f__law_parent : Addr
  fd__law_parent : FuncData
  D__law_parent : Dfn K mg "_law_parent" "_law_parent" s__law_parent ["_law_names", "_law_name"] f__law_parent fd__law_parent
  f__law_chain : Addr
  fd__law_chain : FuncData
  D__law_chain : Dfn K mg "_law_chain" "_law_chain" s__law_chain ["_law_names", "_law_name"] f__law_chain fd__law_chain
  f__law_tree : Addr
  fd__law_tree : FuncData
  D__law_tree : Dfn K mg "_law_tree" "_law_tree" s__law_tree [] f__law_tree fd__law_tree
  f__law_made : Addr
  fd__law_made : FuncData
  D__law_made : Dfn K mg "_law_made" "_law_made" s__law_made ["_law_m", "_law_name"] f__law_made fd__law_made
  f__law_effective : Addr
  fd__law_effective : FuncData
  D__law_effective : Dfn K mg "_law_effective" "_law_effective" s__law_effective ["_law_m", "_law_name"] f__law_effective fd__law_effective
  f__law_are_right : Addr
  fd__law_are_right : FuncData
  D__law_are_right : Dfn K mg "_law_are_right" "_law_are_right" s__law_are_right ["_law_yard", "_law_known", "_law_m"] f__law_are_right fd__law_are_right
  f_law : Addr
  fd_law : FuncData
  D_law : Dfn K mg "law" "law" s_law ["_law_script"] f_law fd_law
  file : Str
  C_Clock : Addr
  g_Clock : mg "Clock" = some (.ref C_Clock)
  o_Clock : OC K C_Clock ["shown"]
  a_Clock_init : Addr
  fd_Clock_init : FuncData
  F_Clock_init : Fun K "__init__" "Clock.__init__" s_Clock___init__ a_Clock_init fd_Clock_init
  M_Clock : Mk K C_Clock a_Clock_init
  b_Clock_init : Binds K fd_Clock_init ["self", "shown"] []
  a_Clock_now : Addr
  fd_Clock_now : FuncData
  F_Clock_now : Fun K "now" "Clock.now" s_Clock_now a_Clock_now fd_Clock_now
  Me_Clock_now : Meth K C_Clock "now" a_Clock_now
  b_Clock_now : Binds K fd_Clock_now ["self"] []
  C_LevelTable : Addr
  g_LevelTable : mg "LevelTable" = some (.ref C_LevelTable)
  o_LevelTable : OC K C_LevelTable ["names", "numbers"]
  a_LevelTable_init : Addr
  fd_LevelTable_init : FuncData
  F_LevelTable_init : Fun K "__init__" "LevelTable.__init__" s_LevelTable___init__ a_LevelTable_init fd_LevelTable_init
  M_LevelTable : Mk K C_LevelTable a_LevelTable_init
  b_LevelTable_init : Binds K fd_LevelTable_init ["self"] []
  a_LevelTable_knows : Addr
  fd_LevelTable_knows : FuncData
  F_LevelTable_knows : Fun K "knows" "LevelTable.knows" s_LevelTable_knows a_LevelTable_knows fd_LevelTable_knows
  Me_LevelTable_knows : Meth K C_LevelTable "knows" a_LevelTable_knows
  b_LevelTable_knows : Binds K fd_LevelTable_knows ["self", "level"] []
  a_LevelTable_number : Addr
  fd_LevelTable_number : FuncData
  F_LevelTable_number : Fun K "number" "LevelTable.number" s_LevelTable_number a_LevelTable_number fd_LevelTable_number
  Me_LevelTable_number : Meth K C_LevelTable "number" a_LevelTable_number
  b_LevelTable_number : Binds K fd_LevelTable_number ["self", "level"] []
  C_Store : Addr
  g_Store : mg "Store" = some (.ref C_Store)
  o_Store : OC K C_Store ["clock", "kept"]
  a_Store_init : Addr
  fd_Store_init : FuncData
  F_Store_init : Fun K "__init__" "Store.__init__" s_Store___init__ a_Store_init fd_Store_init
  M_Store : Mk K C_Store a_Store_init
  b_Store_init : Binds K fd_Store_init ["self", "clock"] []
  C_Written : Addr
  g_Written : mg "Written" = some (.ref C_Written)
  o_Written : OC K C_Written ["parts", "size", "time"]
  a_Written_init : Addr
  fd_Written_init : FuncData
  F_Written_init : Fun K "__init__" "Written.__init__" s_Written___init__ a_Written_init fd_Written_init
  M_Written : Mk K C_Written a_Written_init
  b_Written_init : Binds K fd_Written_init ["self", "text", "time"] []
  C_Roster : Addr
  g_Roster : mg "Roster" = some (.ref C_Roster)
  o_Roster : OC K C_Roster ["handlers", "leading", "failed"]
  a_Roster_init : Addr
  fd_Roster_init : FuncData
  F_Roster_init : Fun K "__init__" "Roster.__init__" s_Roster___init__ a_Roster_init fd_Roster_init
  M_Roster : Mk K C_Roster a_Roster_init
  b_Roster_init : Binds K fd_Roster_init ["self"] []
  a_Roster_enter : Addr
  fd_Roster_enter : FuncData
  F_Roster_enter : Fun K "enter" "Roster.enter" s_Roster_enter a_Roster_enter fd_Roster_enter
  Me_Roster_enter : Meth K C_Roster "enter" a_Roster_enter
  b_Roster_enter : Binds K fd_Roster_enter ["self", "handler"] []
  C_Handler : Addr
  g_Handler : mg "Handler" = some (.ref C_Handler)
  o_Handler : OC K C_Handler []
  a_Handler_init : Addr
  fd_Handler_init : FuncData
  F_Handler_init : Fun K "__init__" "Handler.__init__" s_Handler___init__ a_Handler_init fd_Handler_init
  M_Handler : Mk K C_Handler a_Handler_init
  b_Handler_init : Binds K fd_Handler_init ["self", "yard"] []
  C_Logger : Addr
  g_Logger : mg "Logger" = some (.ref C_Logger)
  o_Logger : OC K C_Logger ["tree", "yard", "name", "level", "propagate", "disabled", "handlers", "filters", "parent"]
  a_Logger_init : Addr
  fd_Logger_init : FuncData
  F_Logger_init : Fun K "__init__" "Logger.__init__" s_Logger___init__ a_Logger_init fd_Logger_init
  M_Logger : Mk K C_Logger a_Logger_init
  b_Logger_init : Binds K fd_Logger_init ["self", "tree", "name", "level", "parent"] []
  a_Logger_setLevel : Addr
  fd_Logger_setLevel : FuncData
  F_Logger_setLevel : Fun K "setLevel" "Logger.setLevel" s_Logger_setLevel a_Logger_setLevel fd_Logger_setLevel
  Me_Logger_setLevel : Meth K C_Logger "setLevel" a_Logger_setLevel
  b_Logger_setLevel : Binds K fd_Logger_setLevel ["self", "level"] []
  a_Logger_setDisabled : Addr
  fd_Logger_setDisabled : FuncData
  F_Logger_setDisabled : Fun K "setDisabled" "Logger.setDisabled" s_Logger_setDisabled a_Logger_setDisabled fd_Logger_setDisabled
  Me_Logger_setDisabled : Meth K C_Logger "setDisabled" a_Logger_setDisabled
  b_Logger_setDisabled : Binds K fd_Logger_setDisabled ["self", "flag"] []
  a_Logger_getEffectiveLevel : Addr
  fd_Logger_getEffectiveLevel : FuncData
  F_Logger_getEffectiveLevel : Fun K "getEffectiveLevel" "Logger.getEffectiveLevel" s_Logger_getEffectiveLevel a_Logger_getEffectiveLevel fd_Logger_getEffectiveLevel
  Me_Logger_getEffectiveLevel : Meth K C_Logger "getEffectiveLevel" a_Logger_getEffectiveLevel
  b_Logger_getEffectiveLevel : Binds K fd_Logger_getEffectiveLevel ["self"] []
  a_Logger_isEnabledFor : Addr
  fd_Logger_isEnabledFor : FuncData
  F_Logger_isEnabledFor : Fun K "isEnabledFor" "Logger.isEnabledFor" s_Logger_isEnabledFor a_Logger_isEnabledFor fd_Logger_isEnabledFor
  Me_Logger_isEnabledFor : Meth K C_Logger "isEnabledFor" a_Logger_isEnabledFor
  b_Logger_isEnabledFor : Binds K fd_Logger_isEnabledFor ["self", "level"] []
  C_LoggerTree : Addr
  g_LoggerTree : mg "LoggerTree" = some (.ref C_LoggerTree)
  o_LoggerTree : OC K C_LoggerTree ["yard", "levels", "clock", "last_resort", "barred", "named", "root"]
  a_LoggerTree_init : Addr
  fd_LoggerTree_init : FuncData
  F_LoggerTree_init : Fun K "__init__" "LoggerTree.__init__" s_LoggerTree___init__ a_LoggerTree_init fd_LoggerTree_init
  M_LoggerTree : Mk K C_LoggerTree a_LoggerTree_init
  b_LoggerTree_init : Binds K fd_LoggerTree_init ["self", "yard", "levels", "clock", "last_resort"] []
  a_LoggerTree_getLogger : Addr
  fd_LoggerTree_getLogger : FuncData
  aGT_LoggerTree_getLogger : Addr
  F_LoggerTree_getLogger : FunD K "getLogger" "LoggerTree.getLogger" (defArgs s_LoggerTree_getLogger) (defBody s_LoggerTree_getLogger) (defScope s_LoggerTree_getLogger) [.str (SX.S [])] [] a_LoggerTree_getLogger fd_LoggerTree_getLogger
  Me_LoggerTree_getLogger : Meth K C_LoggerTree "getLogger" a_LoggerTree_getLogger
  b_LoggerTree_getLogger : Binds K fd_LoggerTree_getLogger ["self", "name"] []
  a_LoggerTree_grow : Addr
  fd_LoggerTree_grow : FuncData
  F_LoggerTree_grow : Fun K "grow" "LoggerTree.grow" s_LoggerTree_grow a_LoggerTree_grow fd_LoggerTree_grow
  Me_LoggerTree_grow : Meth K C_LoggerTree "grow" a_LoggerTree_grow
  b_LoggerTree_grow : Binds K fd_LoggerTree_grow ["self", "name"] []
  a_LoggerTree_nearest : Addr
  fd_LoggerTree_nearest : FuncData
  F_LoggerTree_nearest : Fun K "nearest" "LoggerTree.nearest" s_LoggerTree_nearest a_LoggerTree_nearest fd_LoggerTree_nearest
  Me_LoggerTree_nearest : Meth K C_LoggerTree "nearest" a_LoggerTree_nearest
  b_LoggerTree_nearest : Binds K fd_LoggerTree_nearest ["self", "name"] []
  a_LoggerTree_made : Addr
  fd_LoggerTree_made : FuncData
  F_LoggerTree_made : Fun K "made" "LoggerTree.made" s_LoggerTree_made a_LoggerTree_made fd_LoggerTree_made
  Me_LoggerTree_made : Meth K C_LoggerTree "made" a_LoggerTree_made
  b_LoggerTree_made : Binds K fd_LoggerTree_made ["self"] []
  a_LoggerTree_loggers : Addr
  fd_LoggerTree_loggers : FuncData
  F_LoggerTree_loggers : Fun K "loggers" "LoggerTree.loggers" s_LoggerTree_loggers a_LoggerTree_loggers fd_LoggerTree_loggers
  Me_LoggerTree_loggers : Meth K C_LoggerTree "loggers" a_LoggerTree_loggers
  b_LoggerTree_loggers : Binds K fd_LoggerTree_loggers ["self"] []
  a_LoggerTree_disable : Addr
  fd_LoggerTree_disable : FuncData
  aGT_LoggerTree_disable : Addr
  F_LoggerTree_disable : FunD K "disable" "LoggerTree.disable" (defArgs s_LoggerTree_disable) (defBody s_LoggerTree_disable) (defScope s_LoggerTree_disable) [.int 50] [] a_LoggerTree_disable fd_LoggerTree_disable
  Me_LoggerTree_disable : Meth K C_LoggerTree "disable" a_LoggerTree_disable
  b_LoggerTree_disable : Binds K fd_LoggerTree_disable ["self", "level"] []
  a_LoggerTree_bar : Addr
  fd_LoggerTree_bar : FuncData
  F_LoggerTree_bar : Fun K "bar" "LoggerTree.bar" s_LoggerTree_bar a_LoggerTree_bar fd_LoggerTree_bar
  Me_LoggerTree_bar : Meth K C_LoggerTree "bar" a_LoggerTree_bar
  b_LoggerTree_bar : Binds K fd_LoggerTree_bar ["self"] []
  C_StreamHandler : Addr
  g_StreamHandler : mg "StreamHandler" = some (.ref C_StreamHandler)
  o_StreamHandler : OC K C_StreamHandler ["yard", "level", "formatter", "filters", "name", "terminator", "closed", "stream"]
  a_StreamHandler_init : Addr
  fd_StreamHandler_init : FuncData
  F_StreamHandler_init : SupF K file "__init__" "StreamHandler.__init__" s_StreamHandler___init__ a_StreamHandler_init fd_StreamHandler_init C_StreamHandler
  M_StreamHandler : Mk K C_StreamHandler a_StreamHandler_init
  C_Yard : Addr
  g_Yard : mg "Yard" = some (.ref C_Yard)
  o_Yard : OC K C_Yard ["clock", "levels", "stream_store", "file_store", "roster", "tree", "root"]
  a_Yard_init : Addr
  fd_Yard_init : FuncData
  F_Yard_init : FunD K "__init__" "Yard.__init__" (defArgs s_Yard___init__) (defBody s_Yard___init__) (defScope s_Yard___init__) [.int 0] [] a_Yard_init fd_Yard_init
  M_Yard : Mk K C_Yard a_Yard_init
  a_Yard_getLogger : Addr
  fd_Yard_getLogger : FuncData
  aGT_Yard_getLogger : Addr
  F_Yard_getLogger : FunD K "getLogger" "Yard.getLogger" (defArgs s_Yard_getLogger) (defBody s_Yard_getLogger) (defScope s_Yard_getLogger) [.str (SX.S [])] [] a_Yard_getLogger fd_Yard_getLogger
  Me_Yard_getLogger : Meth K C_Yard "getLogger" a_Yard_getLogger
  b_Yard_getLogger : Binds K fd_Yard_getLogger ["self", "name"] []
  a_Yard_disable : Addr
  fd_Yard_disable : FuncData
  aGT_Yard_disable : Addr
  F_Yard_disable : FunD K "disable" "Yard.disable" (defArgs s_Yard_disable) (defBody s_Yard_disable) (defScope s_Yard_disable) [.int 50] [] a_Yard_disable fd_Yard_disable
  Me_Yard_disable : Meth K C_Yard "disable" a_Yard_disable
  b_Yard_disable : Binds K fd_Yard_disable ["self", "level"] []
  a_Yard_bar : Addr
  fd_Yard_bar : FuncData
  F_Yard_bar : Fun K "bar" "Yard.bar" s_Yard_bar a_Yard_bar fd_Yard_bar
  Me_Yard_bar : Meth K C_Yard "bar" a_Yard_bar
  b_Yard_bar : Binds K fd_Yard_bar ["self"] []
  dd_Yard_disable : ∃ ds, Vals [V.int 50] ds ∧ Binds K fd_Yard_disable ["self", "level"] ds
  cP : Addr
  PP : Addr
  W_P : GA.DefC K "is_part" "is_part" s_is_part cP f_is_part fd_is_part
  cD : Addr
  PD : Addr
  W_D : GA.DefC K "is_dotted" "is_dotted" s_is_dotted cD f_is_dotted fd_is_dotted
  dd_Yard_init : ∃ ds, Vals [V.int 0] ds ∧ Binds K fd_Yard_init ["self", "now"] ds
  c_BadLevel : Addr
  i_BadLevel : Addr
  E_BadLevel : ErrTxt K mg "BadLevel" "level" c_BadLevel i_BadLevel
  c_BadName : Addr
  i_BadName : Addr
  E_BadName : ErrTxt K mg "BadName" "name" c_BadName i_BadName
  aFN : Addr
  aFM : Addr
  k_FIRST_NAMES : ∃ u, mg "FIRST_NAMES" = some u ∧ RelV (.ref aFN) u
  k_FIRST_NUMBERS : ∃ u, mg "FIRST_NUMBERS" = some u ∧ RelV (.ref aFM) u
  k_NOTSET : ∃ u, mg "NOTSET" = some u ∧ RelV (.int 0) u
  k_WARNING : ∃ u, mg "WARNING" = some u ∧ RelV (.int 30) u
  k_LETTERS : ∃ u, mg "LETTERS" = some u ∧ RelV (.str (SX.S [97, 98, 99, 100, 101, 102, 103, 104, 105, 106, 107, 108, 109, 110, 111, 112, 113, 114, 115, 116, 117, 118, 119, 120, 121, 122, 65, 66, 67, 68, 69, 70, 71, 72, 73, 74, 75, 76, 77, 78, 79, 80, 81, 82, 83, 84, 85, 86, 87, 88, 89, 90])) u
  k_DIGITS : ∃ u, mg "DIGITS" = some u ∧ RelV (.str (SX.S [48, 49, 50, 51, 52, 53, 54, 55, 56, 57])) u
  aRN : Addr
  k_ROOT_NAMES : ∃ u, mg "ROOT_NAMES" = some u ∧ RelV (.ref aRN) u
  t_ROOT_NAMES : ∀ H, SqT K H aRN [V.str (SX.S []), V.str (SX.S [114, 111, 111, 116])]
  cmp_Logger : OQ.CmpC K C_Logger
  dd_StreamHandler_init : ∃ ds, Vals [V.str (SX.S [115, 116, 100, 101, 114, 114])] ds ∧ Binds K fd_StreamHandler_init ["self", "yard", "stream"] ds
  SM_StreamHandler_init : SupM K C_StreamHandler C_StreamHandler "__init__" a_Handler_init
def firstNames : List (Key × V) := [(.inl 50, .str (SX.S [67, 82, 73, 84, 73, 67, 65, 76])), (.inl 40, .str (SX.S [69, 82, 82, 79, 82])), (.inl 30, .str (SX.S [87, 65, 82, 78, 73, 78, 71])), (.inl 20, .str (SX.S [73, 78, 70, 79])), (.inl 10, .str (SX.S [68, 69, 66, 85, 71])), (.inl 0, .str (SX.S [78, 79, 84, 83, 69, 84]))]
def firstNumbers : List (Key × V) := [(.inr (SX.S [67, 82, 73, 84, 73, 67, 65, 76]), .int 50), (.inr (SX.S [70, 65, 84, 65, 76]), .int 50), (.inr (SX.S [69, 82, 82, 79, 82]), .int 40), (.inr (SX.S [87, 65, 82, 78, 73, 78, 71]), .int 30), (.inr (SX.S [87, 65, 82, 78]), .int 30), (.inr (SX.S [73, 78, 70, 79]), .int 20), (.inr (SX.S [68, 69, 66, 85, 71]), .int 10), (.inr (SX.S [78, 79, 84, 83, 69, 84]), .int 0)]
/-- what is asked of the program and its module's dicts -/
structure Dct (P : Program) (w : World) (K : PySem.W.Frag) (mg : Str → Option Value) (T : Txt K mg) : Prop where
  top : TopS P mg T.file
  n1 : DKc K P w T.aFN firstNames
  n2 : DKc K P w T.aFM firstNumbers
local macro_rules | `(tactic| walk_at "hp") => `(tactic| first | assumption | exact upd_same | (refine Eq.trans (upd_ne (by first | assumption | (apply Ne.symm; assumption))) ?_; walk_at "hp"))
local macro_rules | `(tactic| walk_at "ixl") => `(tactic| (refine' ⟨_, ?xs, _, ?vv, rfl, rfl, SqL.of ?hh, ?aa, ?qq⟩; (case hh => walk_at "hp"); (case aa => rfl)))
local macro_rules | `(tactic| walk_at "setl") => `(tactic| (refine' ⟨_, ?xs, _, ?jj, rfl, rfl, ?hh, ?aa, ?qq⟩; (case hh => walk_at "hp"); (case aa => rfl)))
local macro_rules | `(tactic| walk_at "cond") => `(tactic| first | exact ⟨_, rfl⟩ | exact Nat.le_of_lt (small1000 (Nat.le_of_ble_eq_true rfl)) | decide | omega | (dsimp only; omega) | exact ⟨by decide, by decide⟩ | exact Or.inr ⟨by decide, by decide⟩ | exact Or.inl ⟨by decide, by decide⟩ | exact ⟨by decide, by decide, by decide⟩ | exact ⟨by omega, by omega⟩ | exact ⟨by omega, by omega, by omega⟩ | (simp only [List.length_cons, List.length_nil, List.length_append, List.length_take, List.length_drop]; omega) | (refine ⟨?_, ?_, ?_⟩ <;> first | decide | omega | (simp only [List.length_cons, List.length_nil, List.length_append, List.length_take, List.length_drop, Option.getD_some, Option.getD_none]; omega)))
local macro_rules | `(tactic| walk_at "st") => `(tactic| repeat (first | refine ⟨_, rfl, ?_⟩ | refine ⟨_, _, rfl, rfl, ?_⟩ | walk_at "ixl" | walk_at "setl" | refine ⟨rfl, ?_⟩ | refine Or.inl ⟨_, rfl, ?_⟩ | refine And.intro (by walk_at "cond") ?_))
/-- what the stepper does not open -/
inductive Hd (p : Prop) : Prop where
  | a (h : p)
  | b (h : p)
theorem Hd.out {p : Prop} (h : Hd p) : p := by
  cases h <;> assumption
theorem if_true_of {c : Bool} {A B : Prop} (hc : c = true) (h : A) : if c = true then A else B := by
  rw [if_pos hc]
  exact h
theorem if_false_of {c : Bool} {A B : Prop} (hc : c = false) (h : B) : if c = true then A else B := by
  rw [hc, if_neg Bool.false_ne_true]
  exact h
/-- all but x stands -/
def SameX (x : Addr) (H H' : Hp) : Prop := ∀ c u, c ≠ x → H c = some u → H' c = some u
theorem SameX.refl (x : Addr) (H : Hp) : SameX x H H := fun _ _ _ e => e
theorem SameX.trans {x : Addr} {H H1 H2 : Hp} (a : SameX x H H1) (b : SameX x H1 H2) : SameX x H H2 := fun c u n e => b c u n (a c u n e)
theorem SameX.put {x : Addr} {H H' : Hp} {o : HO} (s : SameX x H H') : SameX x H (upd H' x o) := fun c u n e => by rw [upd_ne n]; exact s c u n e
theorem SameX.new {x a : Addr} {H H' : Hp} {o : HO} (s : SameX x H H') (ha : H a = none) : SameX x H (upd H' a o) := fun c u n e => by
  rw [upd_ne (fun z => by rw [z, ha] at e; cases e)]; exact s c u n e
section
variable {P : Program} {w : World} {K : PySem.W.Frag} {mg : Str → Option Value} {base : Heap}
/-! ### the clock -/
def spClock (C : Addr) : Sp := fun vs H Q _ => Hd (∃ (x dx : Addr) (v : V), vs = [.ref x, v] ∧ H x = some (.ins C dx []) ∧ ∀ H', H' x = some (.ins C dx [("shown", v)]) → SameX x H H' → Q .non H')
theorem ok_clock (T : Txt K mg) : FnOk P w K mg base CX0 1 T.a_Clock_init T.fd_Clock_init ["self", "shown"] (spClock T.C_Clock) := by
  refine T.F_Clock_init.ok sc_Clock___init__ (fun vs H Q E h => ?_) (fun cdv A outer s H vs Q E hr h => ?_)
  · obtain ⟨x, dx, v, rfl, _⟩ := h.out
    rfl
  · obtain ⟨x, dx, v, rfl, hx, k⟩ := h.out
    refine ⟨_, (pss_one (ps_fld (pv 0) (pv 1) rfl)), ?_⟩
    walk_at "st"
    refine ⟨x, T.C_Clock, dx, _, rfl, hx, T.o_Clock.cl, T.o_Clock.na _ (by decide), Nat.le_of_ble_eq_true rfl, ?_⟩
    exact k _ upd_same (SameX.refl _ _).put
def spNow (C : Addr) : Sp := fun vs H Q _ => Hd (∃ (x dx : Addr) (v : V), vs = [.ref x] ∧ H x = some (.ins C dx [("shown", v)]) ∧ Q v H)
theorem ok_now (T : Txt K mg) : FnOk P w K mg base CX0 1 T.a_Clock_now T.fd_Clock_now ["self"] (spNow T.C_Clock) := by
  refine T.F_Clock_now.ok sc_Clock_now (fun vs H Q E h => ?_) (fun cdv A outer s H vs Q E hr h => ?_)
  · obtain ⟨x, dx, v, rfl, _⟩ := h.out
    rfl
  · obtain ⟨x, dx, v, rfl, hx, k⟩ := h.out
    refine ⟨_, (pss_one (ps_ret (pe_fld (pv 0) rfl))), ?_⟩
    walk_at "st"
    exact ⟨x, T.C_Clock, dx, _, v, rfl, hx, T.o_Clock.cl, T.o_Clock.na _ (by decide), rfl, k⟩
end
end My

namespace My
open PySem PySem.Spec PyProof.Rows L2 SuX
local macro_rules | `(tactic| walk_at "hp") => `(tactic| first | assumption | exact upd_same | (refine Eq.trans (upd_ne (by first | assumption | (apply Ne.symm; assumption))) ?_; walk_at "hp"))
local macro_rules | `(tactic| walk_at "ixl") => `(tactic| (refine' ⟨_, ?xs, _, ?vv, rfl, rfl, SqL.of ?hh, ?aa, ?qq⟩; (case hh => walk_at "hp"); (case aa => rfl)))
local macro_rules | `(tactic| walk_at "setl") => `(tactic| (refine' ⟨_, ?xs, _, ?jj, rfl, rfl, ?hh, ?aa, ?qq⟩; (case hh => walk_at "hp"); (case aa => rfl)))
local macro_rules | `(tactic| walk_at "cond") => `(tactic| first | exact ⟨_, rfl⟩ | exact Nat.le_of_lt (small1000 (Nat.le_of_ble_eq_true rfl)) | decide | omega | (dsimp only; omega) | exact ⟨by decide, by decide⟩ | exact Or.inr ⟨by decide, by decide⟩ | exact Or.inl ⟨by decide, by decide⟩ | exact ⟨by decide, by decide, by decide⟩ | exact ⟨by omega, by omega⟩ | exact ⟨by omega, by omega, by omega⟩ | (simp only [List.length_cons, List.length_nil, List.length_append, List.length_take, List.length_drop]; omega) | (refine ⟨?_, ?_, ?_⟩ <;> first | decide | omega | (simp only [List.length_cons, List.length_nil, List.length_append, List.length_take, List.length_drop, Option.getD_some, Option.getD_none]; omega)))
local macro_rules | `(tactic| walk_at "st") => `(tactic| repeat (first | refine ⟨_, rfl, ?_⟩ | refine ⟨_, _, rfl, rfl, ?_⟩ | walk_at "ixl" | walk_at "setl" | refine ⟨rfl, ?_⟩ | refine Or.inl ⟨_, rfl, ?_⟩ | refine And.intro (by walk_at "cond") ?_))
section
variable {P : Program} {w : World} {K : PySem.W.Frag} {mg : Str → Option Value} {base : Heap}
/-! ### rosters -/
def fRo (a b c : Addr) : List (Str × V) := [("handlers", .ref a), ("leading", .ref b), ("failed", .ref c)]
def spRoster (C : Addr) : Sp := fun vs H Q _ => Hd (∃ (x dx : Addr), vs = [.ref x] ∧ H x = some (.ins C dx []) ∧
  ∀ H' a b c, H' x = some (.ins C dx (fRo a b c)) → H' a = some (.lst []) → H' b = some (.dK []) → H' c = some (.lst []) → H a = none → H b = none → H c = none → a ≠ b → a ≠ c → b ≠ c → SameX x H H' → Q .non H')
theorem ok_roster (T : Txt K mg) : FnOk P w K mg base CX0 1 T.a_Roster_init T.fd_Roster_init ["self"] (spRoster T.C_Roster) := by
  refine T.F_Roster_init.ok sc_Roster___init__ (fun vs H Q E h => ?_) (fun cdv A outer s H vs Q E hr h => ?_)
  · obtain ⟨x, dx, rfl, _⟩ := h.out
    rfl
  · obtain ⟨x, dx, rfl, hx, k⟩ := h.out
    refine ⟨_, (pss_cons (ps_fld (pv 0) (pe_lst pa_nil) rfl)
  (pss_cons (ps_fld (pv 0) pe_dnewK rfl)
  (pss_one (ps_fld (pv 0) (pe_lst pa_nil) rfl)))), ?_⟩
    walk_at "st"
    intro a ha
    have xa : x ≠ a := ne_of_none hx ha
    walk_at "st"
    refine ⟨x, T.C_Roster, dx, _, rfl, by rw [upd_ne xa]; exact hx, T.o_Roster.cl, T.o_Roster.na _ (by decide), Nat.le_of_ble_eq_true rfl, ?_⟩
    walk_at "st"
    intro b hb
    have xb : x ≠ b := ne_of_none upd_same hb
    have ab : a ≠ b := ne_of_none (by rw [upd_ne xa.symm]; exact upd_same) hb
    have hb0 : H b = none := by rw [upd_ne xb.symm, upd_ne ab.symm] at hb; exact hb
    walk_at "st"
    refine ⟨x, T.C_Roster, dx, _, rfl, by rw [upd_ne xb]; exact upd_same, T.o_Roster.cl, T.o_Roster.na _ (by decide), Nat.le_of_ble_eq_true rfl, ?_⟩
    walk_at "st"
    intro c hc
    have xc : x ≠ c := ne_of_none upd_same hc
    have bc : b ≠ c := ne_of_none (by rw [upd_ne xb.symm]; exact upd_same) hc
    have ac : a ≠ c := ne_of_none (by rw [upd_ne xa.symm, upd_ne ab, upd_ne xa.symm]; exact upd_same) hc
    have hc0 : H c = none := by rw [upd_ne xc.symm, upd_ne bc.symm, upd_ne xc.symm, upd_ne ac.symm] at hc; exact hc
    walk_at "st"
    refine ⟨x, T.C_Roster, dx, _, rfl, by rw [upd_ne xc]; exact upd_same, T.o_Roster.cl, T.o_Roster.na _ (by decide), Nat.le_of_ble_eq_true rfl, ?_⟩
    refine k _ a b c upd_same (by rw [upd_ne xa.symm, upd_ne ac, upd_ne xa.symm, upd_ne ab, upd_ne xa.symm]; exact upd_same) (by rw [upd_ne xb.symm, upd_ne bc, upd_ne xb.symm]; exact upd_same) (by rw [upd_ne xc.symm]; exact upd_same) ha hb0 hc0 ab ac bc ?_
    exact ((((((SameX.refl _ _).new ha).put).new hb0).put).new hc0).put
def spEnter (C : Addr) : Sp := fun vs H Q _ => Hd (∃ (x dx a b c : Addr) (v : V) (hs : List V), vs = [.ref x, v] ∧ H x = some (.ins C dx (fRo a b c)) ∧ H a = some (.lst hs) ∧ hs.length < sizeLine ∧ Q .non (upd H a (.lst (hs ++ [v]))))
theorem ok_enter (T : Txt K mg) : FnOk P w K mg base CX0 1 T.a_Roster_enter T.fd_Roster_enter ["self", "handler"] (spEnter T.C_Roster) := by
  refine T.F_Roster_enter.ok sc_Roster_enter (fun vs H Q E h => ?_) (fun cdv A outer s H vs Q E hr h => ?_)
  · obtain ⟨x, dx, a, b, c, v, hs, rfl, _⟩ := h.out
    rfl
  · obtain ⟨x, dx, a, b, c, v, hs, rfl, hx, ha, hz, k⟩ := h.out
    refine ⟨_, (pss_one (ps_expr (pe_bm PySem.F.plainAttrs_list PySem.F.slot_list_append PySem.F.type_list_append mt_append (pe_fld (pv 0) rfl) (pa_cons (pv 1) pa_nil)))), ?_⟩
    walk_at "st"
    refine ⟨x, T.C_Roster, dx, _, .ref a, rfl, hx, T.o_Roster.cl, T.o_Roster.na _ (by decide), rfl, ?_⟩
    walk_at "st"
    refine ⟨.inl ⟨rfl, _, SqL.of ha⟩, ?_⟩
    walk_at "st"
    exact ⟨_, _, _, rfl, rfl, ha, hz, k⟩
/-! ### stores -/
def fSt (a b : Addr) : List (Str × V) := [("clock", .ref a), ("kept", .ref b)]
def spStore (C : Addr) : Sp := fun vs H Q _ => Hd (∃ (x dx a : Addr), vs = [.ref x, .ref a] ∧ H x = some (.ins C dx []) ∧
  ∀ H' b, H' x = some (.ins C dx (fSt a b)) → H' b = some (.dK []) → H b = none → SameX x H H' → Q .non H')
theorem ok_store (T : Txt K mg) : FnOk P w K mg base CX0 1 T.a_Store_init T.fd_Store_init ["self", "clock"] (spStore T.C_Store) := by
  refine T.F_Store_init.ok sc_Store___init__ (fun vs H Q E h => ?_) (fun cdv A outer s H vs Q E hr h => ?_)
  · obtain ⟨x, dx, a, rfl, _⟩ := h.out
    rfl
  · obtain ⟨x, dx, a, rfl, hx, k⟩ := h.out
    refine ⟨_, (pss_cons (ps_fld (pv 0) (pv 1) rfl)
  (pss_one (ps_fld (pv 0) pe_dnewK rfl))), ?_⟩
    walk_at "st"
    refine ⟨x, T.C_Store, dx, _, rfl, hx, T.o_Store.cl, T.o_Store.na _ (by decide), Nat.le_of_ble_eq_true rfl, ?_⟩
    walk_at "st"
    intro b hb
    have xb : x ≠ b := ne_of_none upd_same hb
    have hb0 : H b = none := by rw [upd_ne xb.symm] at hb; exact hb
    walk_at "st"
    refine ⟨x, T.C_Store, dx, _, rfl, by rw [upd_ne xb]; exact upd_same, T.o_Store.cl, T.o_Store.na _ (by decide), Nat.le_of_ble_eq_true rfl, ?_⟩
    exact k _ b upd_same (by rw [upd_ne xb.symm]; exact upd_same) hb0 ((((SameX.refl _ _).put).new hb0).put)
/-! ### written texts -/
def fWr (a : Addr) (n : Int) (t : V) : List (Str × V) := [("parts", .ref a), ("size", .int n), ("time", t)]
def spWritten (C : Addr) : Sp := fun vs H Q _ => Hd (∃ (x dx : Addr) (l : List Nat) (t : V), vs = [.ref x, .str (SX.S l), t] ∧ H x = some (.ins C dx []) ∧ l.length ≤ 100000 ∧
  ∀ H' a, H' x = some (.ins C dx (fWr a l.length t)) → H' a = some (.lst [.str (SX.S l)]) → H a = none → SameX x H H' → Q .non H')
theorem ok_written (T : Txt K mg) : FnOk P w K mg base CX0 1 T.a_Written_init T.fd_Written_init ["self", "text", "time"] (spWritten T.C_Written) := by
  refine T.F_Written_init.ok sc_Written___init__ (fun vs H Q E h => ?_) (fun cdv A outer s H vs Q E hr h => ?_)
  · obtain ⟨x, dx, l, t, rfl, _⟩ := h.out
    rfl
  · obtain ⟨x, dx, l, t, rfl, hx, hz, k⟩ := h.out
    refine ⟨_, (pss_cons (ps_fld (pv 0) (pe_lst (pa_cons (pv 1) pa_nil)) rfl)
  (pss_cons (ps_fld (pv 0) (pe_callB SL.call_lenL (by rfl) T.B.n_len (by decide +kernel) (pa_cons (pv 1) pa_nil)) rfl)
  (pss_one (ps_fld (pv 0) (pv 2) rfl)))), ?_⟩
    walk_at "st"
    intro a ha
    have xa : x ≠ a := ne_of_none hx ha
    walk_at "st"
    refine ⟨x, T.C_Written, dx, _, rfl, by rw [upd_ne xa]; exact hx, T.o_Written.cl, T.o_Written.na _ (by decide), Nat.le_of_ble_eq_true rfl, ?_⟩
    walk_at "st"
    refine ⟨x, T.C_Written, dx, _, rfl, upd_same, T.o_Written.cl, T.o_Written.na _ (by decide), Nat.le_of_ble_eq_true rfl, ?_⟩
    walk_at "st"
    refine ⟨x, T.C_Written, dx, _, rfl, upd_same, T.o_Written.cl, T.o_Written.na _ (by decide), Nat.le_of_ble_eq_true rfl, ?_⟩
    refine k _ a upd_same (by rw [upd_ne xa.symm, upd_ne xa.symm, upd_ne xa.symm]; exact upd_same) ha ?_
    exact (((((SameX.refl _ _).new ha).put).put).put)
end
end My

namespace My
open PySem PySem.Spec PyProof.Rows L2 SuX
local macro_rules | `(tactic| walk_at "hp") => `(tactic| first | assumption | exact upd_same | (refine Eq.trans (upd_ne (by first | assumption | (apply Ne.symm; assumption))) ?_; walk_at "hp"))
local macro_rules | `(tactic| walk_at "ixl") => `(tactic| (refine' ⟨_, ?xs, _, ?vv, rfl, rfl, SqL.of ?hh, ?aa, ?qq⟩; (case hh => walk_at "hp"); (case aa => rfl)))
local macro_rules | `(tactic| walk_at "setl") => `(tactic| (refine' ⟨_, ?xs, _, ?jj, rfl, rfl, ?hh, ?aa, ?qq⟩; (case hh => walk_at "hp"); (case aa => rfl)))
local macro_rules | `(tactic| walk_at "cond") => `(tactic| first | exact ⟨_, rfl⟩ | exact Nat.le_of_lt (small1000 (Nat.le_of_ble_eq_true rfl)) | decide | omega | (dsimp only; omega) | exact ⟨by decide, by decide⟩ | exact Or.inr ⟨by decide, by decide⟩ | exact Or.inl ⟨by decide, by decide⟩ | exact ⟨by decide, by decide, by decide⟩ | exact ⟨by omega, by omega⟩ | exact ⟨by omega, by omega, by omega⟩ | (simp only [List.length_cons, List.length_nil, List.length_append, List.length_take, List.length_drop]; omega) | (refine ⟨?_, ?_, ?_⟩ <;> first | decide | omega | (simp only [List.length_cons, List.length_nil, List.length_append, List.length_take, List.length_drop, Option.getD_some, Option.getD_none]; omega)))
local macro_rules | `(tactic| walk_at "st") => `(tactic| repeat (first | refine ⟨_, rfl, ?_⟩ | refine ⟨_, _, rfl, rfl, ?_⟩ | walk_at "ixl" | walk_at "setl" | refine ⟨rfl, ?_⟩ | refine Or.inl ⟨_, rfl, ?_⟩ | refine And.intro (by walk_at "cond") ?_))
section
variable {P : Program} {w : World} {K : PySem.W.Frag} {mg : Str → Option Value} {base : Heap}
/-! ### tables of levels -/
def fLv (a b : Addr) : List (Str × V) := [("names", .ref a), ("numbers", .ref b)]
def spLevels (C : Addr) : Sp := fun vs H Q _ => Hd (∃ (x dx : Addr), vs = [.ref x] ∧ H x = some (.ins C dx []) ∧
  ∀ H' a b, H' x = some (.ins C dx (fLv a b)) → H' a = some (.dK firstNames) → H' b = some (.dK firstNumbers) → H a = none → H b = none → a ≠ b → SameX x H H' → Q .non H')
theorem ok_levels (T : Txt K mg) (Z : Dct P w K mg T) : FnOk P w K mg base CX0 1 T.a_LevelTable_init T.fd_LevelTable_init ["self"] (spLevels T.C_LevelTable) := by
  refine T.F_LevelTable_init.ok sc_LevelTable___init__ (fun vs H Q E h => ?_) (fun cdv A outer s H vs Q E hr h => ?_)
  · obtain ⟨x, dx, rfl, _⟩ := h.out
    rfl
  · obtain ⟨x, dx, rfl, hx, k⟩ := h.out
    refine ⟨_, (pss_cons (ps_fld (pv 0) (pe_callTy call_dictK (by rfl) T.B.n_dict (by decide +kernel) (pa_cons (C8.pe_gc rfl T.k_FIRST_NAMES) pa_nil)) rfl)
  (pss_one (ps_fld (pv 0) (pe_callTy call_dictK (by rfl) T.B.n_dict (by decide +kernel) (pa_cons (C8.pe_gc rfl T.k_FIRST_NUMBERS) pa_nil)) rfl))), ?_⟩
    walk_at "st"
    refine ⟨_, _, rfl, Z.n1, fun a ha => ?_⟩
    have xa : x ≠ a := ne_of_none hx ha
    walk_at "st"
    refine ⟨x, T.C_LevelTable, dx, _, rfl, by rw [upd_ne xa]; exact hx, T.o_LevelTable.cl, T.o_LevelTable.na _ (by decide), Nat.le_of_ble_eq_true rfl, ?_⟩
    walk_at "st"
    refine ⟨_, _, rfl, Z.n2, fun b hb => ?_⟩
    have xb : x ≠ b := ne_of_none upd_same hb
    have ab : a ≠ b := ne_of_none (by rw [upd_ne xa.symm]; exact upd_same) hb
    have hb0 : H b = none := by rw [upd_ne xb.symm, upd_ne ab.symm] at hb; exact hb
    walk_at "st"
    refine ⟨x, T.C_LevelTable, dx, _, rfl, by rw [upd_ne xb]; exact upd_same, T.o_LevelTable.cl, T.o_LevelTable.na _ (by decide), Nat.le_of_ble_eq_true rfl, ?_⟩
    exact k _ a b upd_same (by rw [upd_ne xa.symm, upd_ne ab, upd_ne xa.symm]; exact upd_same) (by rw [upd_ne xb.symm]; exact upd_same) ha hb0 ab (((((SameX.refl _ _).new ha).put).new hb0).put)
/-! ### handlers -/
theorem hgen {R A B C : Hp → Prop} {h : Hp} (a : A h) (b : B h) (c : C h) (k : ∀ H', A H' → B H' → C H' → R H') : R h := k h a b c
/-- all but x and a stands -/
def SameY (x a : Addr) (H H' : Hp) : Prop := ∀ c u, c ≠ x → c ≠ a → H c = some u → H' c = some u
theorem SameX.y {x a : Addr} {H H' : Hp} (s : SameX x H H') : SameY x a H H' := fun c u n _ e => s c u n e
theorem SameY.put {x a : Addr} {H H' : Hp} {o : HO} (s : SameY x a H H') : SameY x a H (upd H' x o) := fun c u n m e => by rw [upd_ne n]; exact s c u n m e
theorem SameY.put2 {x a : Addr} {H H' : Hp} {o : HO} (s : SameY x a H H') : SameY x a H (upd H' a o) := fun c u n m e => by rw [upd_ne m]; exact s c u n m e
abbrev hF : List Str := ["yard", "level", "formatter", "filters", "name", "terminator", "closed"]
def fHd (y fl : Addr) : List (Str × V) := [("yard", .ref y), ("level", .int 0), ("formatter", .non), ("filters", .ref fl), ("name", .non), ("terminator", .str (SX.S [10])), ("closed", .bl false)]
def spHandler (CR : Addr) (K : PySem.W.Frag) : Sp := fun vs H Q _ => Hd (∃ (x dx C y CY dy r dr a b c : Addr) (fy : List (Str × V)) (hs : List V), vs = [.ref x, .ref y] ∧ H x = some (.ins C dx []) ∧ OC K C hF ∧ H y = some (.ins CY dy fy) ∧ Cls K CY ∧ NoAttr K CY "roster" ∧ fy.lookup ("roster" : Str) = some (V.ref r) ∧ x ≠ y ∧
  H r = some (.ins CR dr (fRo a b c)) ∧ x ≠ r ∧ H a = some (.lst hs) ∧ hs.length < sizeLine ∧
  ∀ H' fl, H' x = some (.ins C dx (fHd y fl)) → H' fl = some (.lst []) → H fl = none → H' a = some (.lst (hs ++ [.ref x])) → SameY x a H H' → Q .non H')
theorem ok_handler (T : Txt K mg) : FnOk P w K mg base CX0 2 T.a_Handler_init T.fd_Handler_init ["self", "yard"] (spHandler T.C_Roster K) := by
  have G_Roster_enter : FnOk P w K mg base CX0 1 _ _ _ (spEnter T.C_Roster) := ok_enter T
  refine T.F_Handler_init.ok sc_Handler___init__ (fun vs H Q E h => ?_) (fun cdv A outer s H vs Q E hr h => ?_)
  · obtain ⟨x, dx, C, y, CY, dy, r, dr, a, b, c, fy, hs, rfl, _⟩ := h.out
    rfl
  · obtain ⟨x, dx, C, y, CY, dy, r, dr, a, b, c, fy, hs, rfl, hx, oC, hy, cY, nY, ly, xy, hr1, xr, ha, hz, k⟩ := h.out
    have xa : x ≠ a := fun z => by rw [z, ha] at hx; cases hx
    refine ⟨_, (pss_cons (ps_fld (pv 0) (pv 1) rfl)
  (pss_cons (ps_fld (pv 0) (C8.pe_gc rfl T.k_NOTSET) rfl)
  (pss_cons (ps_fld (pv 0) pe_non rfl)
  (pss_cons (ps_fld (pv 0) (pe_lst pa_nil) rfl)
  (pss_cons (ps_fld (pv 0) pe_non rfl)
  (pss_cons (ps_fld (pv 0) (SL.pe_strL [10] (by decide +kernel)) rfl)
  (pss_cons (ps_fld (pv 0) pe_bl rfl)
  (pss_one (ps_expr (pe_meth (pe_fld (pv 1) rfl) T.o_Roster.cl T.Me_Roster_enter G_Roster_enter (hr.mono (by first | decide | omega)) T.b_Roster_enter .nil pass0 (pa_cons (pv 0) pa_nil))))))))))), ?_⟩
    walk_at "st"
    refine ⟨x, C, dx, _, rfl, hx, oC.cl, oC.na _ (by decide), Nat.le_of_ble_eq_true rfl, ?_⟩
    walk_at "st"
    refine ⟨x, C, dx, _, rfl, upd_same, oC.cl, oC.na _ (by decide), Nat.le_of_ble_eq_true rfl, ?_⟩
    walk_at "st"
    refine ⟨x, C, dx, _, rfl, upd_same, oC.cl, oC.na _ (by decide), Nat.le_of_ble_eq_true rfl, ?_⟩
    walk_at "st"
    intro fl hf
    have xf : x ≠ fl := ne_of_none upd_same hf
    have hf0 : H fl = none := by rw [upd_ne xf.symm, upd_ne xf.symm, upd_ne xf.symm] at hf; exact hf
    walk_at "st"
    refine ⟨x, C, dx, _, rfl, by rw [upd_ne xf]; exact upd_same, oC.cl, oC.na _ (by decide), Nat.le_of_ble_eq_true rfl, ?_⟩
    walk_at "st"
    refine ⟨x, C, dx, _, rfl, upd_same, oC.cl, oC.na _ (by decide), Nat.le_of_ble_eq_true rfl, ?_⟩
    walk_at "st"
    refine ⟨x, C, dx, _, rfl, upd_same, oC.cl, oC.na _ (by decide), Nat.le_of_ble_eq_true rfl, ?_⟩
    walk_at "st"
    refine ⟨x, C, dx, _, rfl, upd_same, oC.cl, oC.na _ (by decide), Nat.le_of_ble_eq_true rfl, ?_⟩
    walk_at "st"
    have yx : y ≠ x := xy.symm
    have yf : y ≠ fl := fun z => by rw [← z, hy] at hf0; cases hf0
    have rx : r ≠ x := xr.symm
    have rf : r ≠ fl := fun z => by rw [← z, hr1] at hf0; cases hf0
    have ax : a ≠ x := xa.symm
    have af : a ≠ fl := fun z => by rw [← z, ha] at hf0; cases hf0
    refine ⟨y, CY, dy, fy, .ref r, rfl, by walk_at "hp", cY, nY, ly, ?_⟩
    refine ⟨r, dr, _, rfl, by walk_at "hp", rfl, ?_⟩
    walk_at "st"
    refine .a ⟨r, dr, a, b, c, .ref x, hs, rfl, by walk_at "hp", by walk_at "hp", hz, ?_⟩
    exact k _ fl (by rw [upd_ne xa]; exact upd_same) (by walk_at "hp") hf0 upd_same (((((((((SameX.refl _ _).put).put).put).new hf0).put).put).put).put).y.put2
/-- the one of streams: super() -/
def fSh (y fl : Addr) (l : List Nat) : List (Str × V) := [("yard", .ref y), ("level", .int 0), ("formatter", .non), ("filters", .ref fl), ("name", .non), ("terminator", .str (SX.S [10])), ("closed", .bl false), ("stream", .str (SX.S l))]
def spStream (C CR : Addr) (K : PySem.W.Frag) : Sp := fun vs H Q _ => Hd (∃ (x dx y CY dy r dr a b c : Addr) (l : List Nat) (fy : List (Str × V)) (hs : List V), vs = [.ref x, .ref y, .str (SX.S l)] ∧ H x = some (.ins C dx []) ∧ H y = some (.ins CY dy fy) ∧ Cls K CY ∧ NoAttr K CY "roster" ∧ fy.lookup ("roster" : Str) = some (V.ref r) ∧ x ≠ y ∧
  H r = some (.ins CR dr (fRo a b c)) ∧ x ≠ r ∧ H a = some (.lst hs) ∧ hs.length < sizeLine ∧
  ∀ H' fl, H' x = some (.ins C dx (fSh y fl l)) → H' fl = some (.lst []) → H fl = none → H' a = some (.lst (hs ++ [.ref x])) → SameY x a H H' → Q .non H')
theorem ok_stream (T : Txt K mg) (Z : Dct P w K mg T) : FnOk P w K mg base CX0 3 T.a_StreamHandler_init T.fd_StreamHandler_init ["self", "yard", "stream"] (spStream T.C_StreamHandler T.C_Roster K) := by
  have G_super : FnOk P w K mg base CX0 2 _ _ _ (spHandler T.C_Roster K) := ok_handler T
  refine T.F_StreamHandler_init.ok0 (sf := "self") Z.top sc_StreamHandler___init__ rfl rfl rfl rfl rfl (fun vs H Q E h => ?_) (fun cc cda A outer s H vs Q E hr h => ?_)
  · obtain ⟨x, dx, y, CY, dy, r, dr, a, b, c, l, fy, hs, rfl, _⟩ := h.out
    rfl
  · obtain ⟨x, dx, y, CY, dy, r, dr, a, b, c, l, fy, hs, rfl, hx, hy, cY, nY, ly, xy, hr1, xr, ha, hz, k⟩ := h.out
    have oC : OC K T.C_StreamHandler hF := ⟨T.o_StreamHandler.cl, fun f hf => T.o_StreamHandler.na f (List.mem_append_left (as := hF) ["stream"] hf)⟩
    refine ⟨_, fun SD => (SuX.pssA_cons (SuX.psA_expr (SuX.peA_sup (i := 0) SD T.SM_StreamHandler_init G_super (hr.mono (by first | decide | omega)) T.b_Handler_init .nil pass0 rfl (pa_cons (pv 1) pa_nil)))
  (SuX.PSsA.of (pss_one (ps_fld (pv 0) (pv 2) rfl)))), ?_⟩
    walk_at "st"
    refine ⟨x, dx, _, rfl, hx, ?_⟩
    walk_at "st"
    refine .a ⟨x, dx, T.C_StreamHandler, y, CY, dy, r, dr, a, b, c, fy, hs, rfl, hx, oC, hy, cY, nY, ly, xy, hr1, xr, ha, hz, fun H1 fl x1 f1 f0 a1 s1 => ?_⟩
    have xf : x ≠ fl := ne_of_none hx f0
    have xa : x ≠ a := fun z => by rw [z, ha] at hx; cases hx
    walk_at "st"
    refine ⟨x, T.C_StreamHandler, dx, _, rfl, x1, T.o_StreamHandler.cl, T.o_StreamHandler.na _ (by decide), Nat.le_of_ble_eq_true rfl, ?_⟩
    exact k _ fl upd_same (by rw [upd_ne xf.symm]; exact f1) f0 (by rw [upd_ne xa.symm]; exact a1) s1.put
end
end My

namespace My
open PySem PySem.Spec PyProof.Rows L2 SuX
local macro_rules | `(tactic| walk_at "hp") => `(tactic| first | assumption | exact upd_same | (refine Eq.trans (upd_ne (by first | assumption | (apply Ne.symm; assumption))) ?_; walk_at "hp"))
local macro_rules | `(tactic| walk_at "ixl") => `(tactic| (refine' ⟨_, ?xs, _, ?vv, rfl, rfl, SqL.of ?hh, ?aa, ?qq⟩; (case hh => walk_at "hp"); (case aa => rfl)))
local macro_rules | `(tactic| walk_at "setl") => `(tactic| (refine' ⟨_, ?xs, _, ?jj, rfl, rfl, ?hh, ?aa, ?qq⟩; (case hh => walk_at "hp"); (case aa => rfl)))
local macro_rules | `(tactic| walk_at "cond") => `(tactic| first | exact ⟨_, rfl⟩ | exact Nat.le_of_lt (small1000 (Nat.le_of_ble_eq_true rfl)) | decide | omega | (dsimp only; omega) | exact ⟨by decide, by decide⟩ | exact Or.inr ⟨by decide, by decide⟩ | exact Or.inl ⟨by decide, by decide⟩ | exact ⟨by decide, by decide, by decide⟩ | exact ⟨by omega, by omega⟩ | exact ⟨by omega, by omega, by omega⟩ | (simp only [List.length_cons, List.length_nil, List.length_append, List.length_take, List.length_drop]; omega) | (refine ⟨?_, ?_, ?_⟩ <;> first | decide | omega | (simp only [List.length_cons, List.length_nil, List.length_append, List.length_take, List.length_drop, Option.getD_some, Option.getD_none]; omega)))
local macro_rules | `(tactic| walk_at "st") => `(tactic| repeat (first | refine ⟨_, rfl, ?_⟩ | refine ⟨_, _, rfl, rfl, ?_⟩ | walk_at "ixl" | walk_at "setl" | refine ⟨rfl, ?_⟩ | refine Or.inl ⟨_, rfl, ?_⟩ | refine And.intro (by walk_at "cond") ?_))
section
variable {P : Program} {w : World} {K : PySem.W.Frag} {mg : Str → Option Value} {base : Heap}
/-! ### loggers -/
def fLg (t : Addr) (y : V) (n l : V) (hl fl : Addr) (p : V) : List (Str × V) := [("tree", .ref t), ("yard", y), ("name", n), ("level", l), ("propagate", .bl true), ("disabled", .bl false), ("handlers", .ref hl), ("filters", .ref fl), ("parent", p)]
def spLogger (C : Addr) (K : PySem.W.Frag) : Sp := fun vs H Q _ => Hd (∃ (x dx t CT dt : Addr) (ft : List (Str × V)) (y n l p : V), vs = [.ref x, .ref t, n, l, p] ∧ H x = some (.ins C dx []) ∧ H t = some (.ins CT dt ft) ∧ Cls K CT ∧ NoAttr K CT "yard" ∧ ft.lookup ("yard" : Str) = some y ∧ x ≠ t ∧
  ∀ H' hl fl, H' x = some (.ins C dx (fLg t y n l hl fl p)) → H' hl = some (.lst []) → H' fl = some (.lst []) → H hl = none → H fl = none → hl ≠ fl → SameX x H H' → Q .non H')
theorem ok_logger (T : Txt K mg) : FnOk P w K mg base CX0 1 T.a_Logger_init T.fd_Logger_init ["self", "tree", "name", "level", "parent"] (spLogger T.C_Logger K) := by
  refine T.F_Logger_init.ok sc_Logger___init__ (fun vs H Q E h => ?_) (fun cdv A outer s H vs Q E hr h => ?_)
  · obtain ⟨x, dx, t, CT, dt, ft, y, n, l, p, rfl, _⟩ := h.out
    rfl
  · obtain ⟨x, dx, t, CT, dt, ft, y, n, l, p, rfl, hx, ht, cT, nT, lt, xt, k⟩ := h.out
    have tx : t ≠ x := xt.symm
    refine ⟨_, (pss_cons (ps_fld (pv 0) (pv 1) rfl)
  (pss_cons (ps_fld (pv 0) (pe_fld (pv 1) rfl) rfl)
  (pss_cons (ps_fld (pv 0) (pv 2) rfl)
  (pss_cons (ps_fld (pv 0) (pv 3) rfl)
  (pss_cons (ps_fld (pv 0) pe_bl rfl)
  (pss_cons (ps_fld (pv 0) pe_bl rfl)
  (pss_cons (ps_fld (pv 0) (pe_lst pa_nil) rfl)
  (pss_cons (ps_fld (pv 0) (pe_lst pa_nil) rfl)
  (pss_one (ps_fld (pv 0) (pv 4) rfl)))))))))), ?_⟩
    walk_at "st"
    refine ⟨x, T.C_Logger, dx, _, rfl, hx, T.o_Logger.cl, T.o_Logger.na _ (by decide), Nat.le_of_ble_eq_true rfl, ?_⟩
    walk_at "st"
    refine ⟨t, CT, dt, ft, y, rfl, by walk_at "hp", cT, nT, lt, ?_⟩
    walk_at "st"
    refine ⟨x, T.C_Logger, dx, _, rfl, upd_same, T.o_Logger.cl, T.o_Logger.na _ (by decide), Nat.le_of_ble_eq_true rfl, ?_⟩
    walk_at "st"
    refine ⟨x, T.C_Logger, dx, _, rfl, upd_same, T.o_Logger.cl, T.o_Logger.na _ (by decide), Nat.le_of_ble_eq_true rfl, ?_⟩
    walk_at "st"
    refine ⟨x, T.C_Logger, dx, _, rfl, upd_same, T.o_Logger.cl, T.o_Logger.na _ (by decide), Nat.le_of_ble_eq_true rfl, ?_⟩
    walk_at "st"
    refine ⟨x, T.C_Logger, dx, _, rfl, upd_same, T.o_Logger.cl, T.o_Logger.na _ (by decide), Nat.le_of_ble_eq_true rfl, ?_⟩
    walk_at "st"
    refine ⟨x, T.C_Logger, dx, _, rfl, upd_same, T.o_Logger.cl, T.o_Logger.na _ (by decide), Nat.le_of_ble_eq_true rfl, ?_⟩
    walk_at "st"
    intro hl hh
    have xh : x ≠ hl := ne_of_none upd_same hh
    have hh0 : H hl = none := by rw [upd_ne xh.symm, upd_ne xh.symm, upd_ne xh.symm, upd_ne xh.symm, upd_ne xh.symm, upd_ne xh.symm] at hh; exact hh
    walk_at "st"
    refine ⟨x, T.C_Logger, dx, _, rfl, by rw [upd_ne xh]; exact upd_same, T.o_Logger.cl, T.o_Logger.na _ (by decide), Nat.le_of_ble_eq_true rfl, ?_⟩
    walk_at "st"
    intro fl hf
    have xf : x ≠ fl := ne_of_none upd_same hf
    have hfl : hl ≠ fl := ne_of_none (by rw [upd_ne xh.symm]; exact upd_same) hf
    have hf0 : H fl = none := by rw [upd_ne xf.symm, upd_ne hfl.symm, upd_ne xf.symm, upd_ne xf.symm, upd_ne xf.symm, upd_ne xf.symm, upd_ne xf.symm, upd_ne xf.symm] at hf; exact hf
    walk_at "st"
    refine ⟨x, T.C_Logger, dx, _, rfl, by rw [upd_ne xf]; exact upd_same, T.o_Logger.cl, T.o_Logger.na _ (by decide), Nat.le_of_ble_eq_true rfl, ?_⟩
    walk_at "st"
    refine ⟨x, T.C_Logger, dx, _, rfl, upd_same, T.o_Logger.cl, T.o_Logger.na _ (by decide), Nat.le_of_ble_eq_true rfl, ?_⟩
    exact k _ hl fl upd_same (by walk_at "hp") (by walk_at "hp") hh0 hf0 hfl ((((((((((((SameX.refl _ _).put).put).put).put).put).put).new hh0).put).new hf0).put).put)
/-! ### the tree -/
def fTr (y lv ck lr nm rt : Addr) : List (Str × V) := [("yard", .ref y), ("levels", .ref lv), ("clock", .ref ck), ("last_resort", .ref lr), ("barred", .int 0), ("named", .ref nm), ("root", .ref rt)]
def spTree (C CL : Addr) : Sp := fun vs H Q _ => Hd (∃ (x dx y lv ck lr : Addr), vs = [.ref x, .ref y, .ref lv, .ref ck, .ref lr] ∧ H x = some (.ins C dx []) ∧
  ∀ H' nm rt drt hl fl, H' x = some (.ins C dx (fTr y lv ck lr nm rt)) → H' nm = some (.dK []) → H' rt = some (.ins CL drt (fLg x (.ref y) (.str (SX.S [114, 111, 111, 116])) (.int 30) hl fl .non)) → H' hl = some (.lst []) → H' fl = some (.lst []) →
    H nm = none → H rt = none → H hl = none → H fl = none → hl ≠ fl → SameX x H H' → Q .non H')
theorem ok_tree (T : Txt K mg) : FnOk P w K mg base CX0 3 T.a_LoggerTree_init T.fd_LoggerTree_init ["self", "yard", "levels", "clock", "last_resort"] (spTree T.C_LoggerTree T.C_Logger) := by
  have G_Logger : FnOk P w K mg base CX0 1 _ _ _ (spLogger T.C_Logger K) := ok_logger T
  refine T.F_LoggerTree_init.ok sc_LoggerTree___init__ (fun vs H Q E h => ?_) (fun cdv A outer s H vs Q E hr h => ?_)
  · obtain ⟨x, dx, y, lv, ck, lr, rfl, _⟩ := h.out
    rfl
  · obtain ⟨x, dx, y, lv, ck, lr, rfl, hx, k⟩ := h.out
    refine ⟨_, (pss_cons (ps_fld (pv 0) (pv 1) rfl)
  (pss_cons (ps_fld (pv 0) (pv 2) rfl)
  (pss_cons (ps_fld (pv 0) (pv 3) rfl)
  (pss_cons (ps_fld (pv 0) (pv 4) rfl)
  (pss_cons (ps_fld (pv 0) (C8.pe_gc rfl T.k_NOTSET) rfl)
  (pss_cons (ps_fld (pv 0) pe_dnewK rfl)
  (pss_one (ps_fld (pv 0) (pe_make T.M_Logger G_Logger (hr.mono (by first | decide | omega)) rfl T.g_Logger T.b_Logger_init .nil pass0 (pa_cons (pv 0) (pa_cons (SL.pe_strL [114, 111, 111, 116] (by decide +kernel)) (pa_cons (C8.pe_gc rfl T.k_WARNING) (pa_cons pe_non pa_nil))))) rfl)))))))), ?_⟩
    walk_at "st"
    refine ⟨x, T.C_LoggerTree, dx, _, rfl, hx, T.o_LoggerTree.cl, T.o_LoggerTree.na _ (by decide), Nat.le_of_ble_eq_true rfl, ?_⟩
    walk_at "st"
    refine ⟨x, T.C_LoggerTree, dx, _, rfl, upd_same, T.o_LoggerTree.cl, T.o_LoggerTree.na _ (by decide), Nat.le_of_ble_eq_true rfl, ?_⟩
    walk_at "st"
    refine ⟨x, T.C_LoggerTree, dx, _, rfl, upd_same, T.o_LoggerTree.cl, T.o_LoggerTree.na _ (by decide), Nat.le_of_ble_eq_true rfl, ?_⟩
    walk_at "st"
    refine ⟨x, T.C_LoggerTree, dx, _, rfl, upd_same, T.o_LoggerTree.cl, T.o_LoggerTree.na _ (by decide), Nat.le_of_ble_eq_true rfl, ?_⟩
    walk_at "st"
    refine ⟨x, T.C_LoggerTree, dx, _, rfl, upd_same, T.o_LoggerTree.cl, T.o_LoggerTree.na _ (by decide), Nat.le_of_ble_eq_true rfl, ?_⟩
    walk_at "st"
    intro nm hn
    have xn : x ≠ nm := ne_of_none upd_same hn
    have hn0 : H nm = none := by rw [upd_ne xn.symm, upd_ne xn.symm, upd_ne xn.symm, upd_ne xn.symm, upd_ne xn.symm] at hn; exact hn
    walk_at "st"
    refine ⟨x, T.C_LoggerTree, dx, _, rfl, by rw [upd_ne xn]; exact upd_same, T.o_LoggerTree.cl, T.o_LoggerTree.na _ (by decide), Nat.le_of_ble_eq_true rfl, ?_⟩
    walk_at "st"
    intro rt drt hr0 hd0 dr
    have xr : x ≠ rt := ne_of_none upd_same hr0
    have xd : x ≠ drt := ne_of_none upd_same hd0
    have nr : nm ≠ rt := ne_of_none (by rw [upd_ne xn.symm]; exact upd_same) hr0
    have nd : nm ≠ drt := ne_of_none (by rw [upd_ne xn.symm]; exact upd_same) hd0
    have hr1 : H rt = none := by rw [upd_ne xr.symm, upd_ne nr.symm, upd_ne xr.symm, upd_ne xr.symm, upd_ne xr.symm, upd_ne xr.symm, upd_ne xr.symm] at hr0; exact hr0
    have hd1 : H drt = none := by rw [upd_ne xd.symm, upd_ne nd.symm, upd_ne xd.symm, upd_ne xd.symm, upd_ne xd.symm, upd_ne xd.symm, upd_ne xd.symm] at hd0; exact hd0
    refine .a ⟨rt, drt, x, T.C_LoggerTree, dx, _, .ref y, _, _, _, rfl, upd_same, by rw [upd_ne xr, upd_ne xd]; exact upd_same, T.o_LoggerTree.cl, T.o_LoggerTree.na _ (by decide), rfl, xr.symm, fun H1 hl fl h1 h2 h3 h4 h5 h6 h7 => ?_⟩
    have x1 := h7 x _ xr (by rw [upd_ne xr, upd_ne xd]; exact upd_same)
    have n1 := h7 nm _ nr (by rw [upd_ne nr, upd_ne nd, upd_ne xn.symm]; exact upd_same)
    have xh : x ≠ hl := fun z => by rw [← z, upd_ne xr, upd_ne xd, upd_same] at h4; cases h4
    have xf : x ≠ fl := fun z => by rw [← z, upd_ne xr, upd_ne xd, upd_same] at h5; cases h5
    have hl0 : H hl = none := by
      have hrl : hl ≠ rt := fun z => by rw [z, upd_same] at h4; cases h4
      have hdl : hl ≠ drt := fun z => by rw [upd_ne hrl, z, upd_same] at h4; cases h4
      have hnl : hl ≠ nm := fun z => by rw [upd_ne hrl, upd_ne hdl, upd_ne xh.symm, z, upd_same] at h4; cases h4
      rw [upd_ne hrl, upd_ne hdl, upd_ne xh.symm, upd_ne hnl, upd_ne xh.symm, upd_ne xh.symm, upd_ne xh.symm, upd_ne xh.symm, upd_ne xh.symm] at h4; exact h4
    have fl0 : H fl = none := by
      have hrl : fl ≠ rt := fun z => by rw [z, upd_same] at h5; cases h5
      have hdl : fl ≠ drt := fun z => by rw [upd_ne hrl, z, upd_same] at h5; cases h5
      have hnl : fl ≠ nm := fun z => by rw [upd_ne hrl, upd_ne hdl, upd_ne xf.symm, z, upd_same] at h5; cases h5
      rw [upd_ne hrl, upd_ne hdl, upd_ne xf.symm, upd_ne hnl, upd_ne xf.symm, upd_ne xf.symm, upd_ne xf.symm, upd_ne xf.symm, upd_ne xf.symm] at h5; exact h5
    have s7 : SameX x H H1 := fun c u cx e => h7 c u (fun z => by rw [z, hr1] at e; cases e) (by rw [upd_ne (fun z => by rw [z, hr1] at e; cases e), upd_ne (fun z => by rw [z, hd1] at e; cases e), upd_ne cx, upd_ne (fun z => by rw [z, hn0] at e; cases e), upd_ne cx, upd_ne cx, upd_ne cx, upd_ne cx, upd_ne cx]; exact e)
    walk_at "st"
    refine ⟨x, T.C_LoggerTree, dx, _, rfl, x1, T.o_LoggerTree.cl, T.o_LoggerTree.na _ (by decide), Nat.le_of_ble_eq_true rfl, ?_⟩
    exact k _ nm rt drt hl fl upd_same (by rw [upd_ne xn.symm]; exact n1) (by rw [upd_ne xr.symm]; exact h1) (by rw [upd_ne xh.symm]; exact h2) (by rw [upd_ne xf.symm]; exact h3) hn0 hr1 hl0 fl0 h6 s7.put
end
end My

namespace My
open PySem PySem.Spec PyProof.Rows L2 SuX
local macro_rules | `(tactic| walk_at "hp") => `(tactic| first | assumption | exact upd_same | (refine Eq.trans (upd_ne (by first | assumption | (apply Ne.symm; assumption))) ?_; walk_at "hp"))
local macro_rules | `(tactic| walk_at "ixl") => `(tactic| (refine' ⟨_, ?xs, _, ?vv, rfl, rfl, SqL.of ?hh, ?aa, ?qq⟩; (case hh => walk_at "hp"); (case aa => rfl)))
local macro_rules | `(tactic| walk_at "setl") => `(tactic| (refine' ⟨_, ?xs, _, ?jj, rfl, rfl, ?hh, ?aa, ?qq⟩; (case hh => walk_at "hp"); (case aa => rfl)))
local macro_rules | `(tactic| walk_at "cond") => `(tactic| first | exact ⟨_, rfl⟩ | exact Nat.le_of_lt (small1000 (Nat.le_of_ble_eq_true rfl)) | decide | omega | (dsimp only; omega) | exact ⟨by decide, by decide⟩ | exact Or.inr ⟨by decide, by decide⟩ | exact Or.inl ⟨by decide, by decide⟩ | exact ⟨by decide, by decide, by decide⟩ | exact ⟨by omega, by omega⟩ | exact ⟨by omega, by omega, by omega⟩ | (simp only [List.length_cons, List.length_nil, List.length_append, List.length_take, List.length_drop]; omega) | (refine ⟨?_, ?_, ?_⟩ <;> first | decide | omega | (simp only [List.length_cons, List.length_nil, List.length_append, List.length_take, List.length_drop, Option.getD_some, Option.getD_none]; omega)))
local macro_rules | `(tactic| walk_at "st") => `(tactic| repeat (first | refine ⟨_, rfl, ?_⟩ | refine ⟨_, _, rfl, rfl, ?_⟩ | walk_at "ixl" | walk_at "setl" | refine ⟨rfl, ?_⟩ | refine Or.inl ⟨_, rfl, ?_⟩ | refine And.intro (by walk_at "cond") ?_))
theorem fc {α : Type} {p : α → Prop} {a : α} {l : List α} (h : p a) (t : ∀ x ∈ l, p x) : ∀ x ∈ a :: l, p x := List.forall_mem_cons.mpr ⟨h, t⟩
theorem fz {α : Type} {p : α → Prop} : ∀ x ∈ ([] : List α), p x := fun _ h => absurd h List.not_mem_nil
structure YA where
  (ck dck lv dlv n1 n2 ss dss sk fs dfs fk ro dro hl ld fl lr dlr lf tr dtr nm rt drt rh rf : Addr)
section
variable {P : Program} {w : World} {K : PySem.W.Frag} {mg : Str → Option Value} {base : Heap}
def sErr : List Nat := [115, 116, 100, 101, 114, 114]
def sRoot : List Nat := [114, 111, 111, 116]
/-- what Yard() lays besides the yard -/
def YL (T : Txt K mg) (y : Addr) (v : V) (Y : YA) : List (Addr × HO) :=
  [(Y.ck, .ins T.C_Clock Y.dck [("shown", v)]), (Y.lv, .ins T.C_LevelTable Y.dlv (fLv Y.n1 Y.n2)), (Y.n1, .dK firstNames), (Y.n2, .dK firstNumbers), (Y.ss, .ins T.C_Store Y.dss (fSt Y.ck Y.sk)), (Y.sk, .dK []), (Y.fs, .ins T.C_Store Y.dfs (fSt Y.ck Y.fk)), (Y.fk, .dK []),
   (Y.ro, .ins T.C_Roster Y.dro (fRo Y.hl Y.ld Y.fl)), (Y.ld, .dK []), (Y.fl, .lst []), (Y.lr, .ins T.C_StreamHandler Y.dlr (fSh y Y.lf sErr)), (Y.lf, .lst []), (Y.hl, .lst [.ref Y.lr]),
   (Y.tr, .ins T.C_LoggerTree Y.dtr (fTr y Y.lv Y.ck Y.lr Y.nm Y.rt)), (Y.nm, .dK []), (Y.rt, .ins T.C_Logger Y.drt (fLg Y.tr (.ref y) (.str (SX.S sRoot)) (.int 30) Y.rh Y.rf .non)), (Y.rh, .lst []), (Y.rf, .lst [])]
def fYd (Y : YA) : List (Str × V) := [("clock", .ref Y.ck), ("levels", .ref Y.lv), ("stream_store", .ref Y.ss), ("file_store", .ref Y.fs), ("roster", .ref Y.ro), ("tree", .ref Y.tr), ("root", .ref Y.rt)]
def spYard (T : Txt K mg) : Sp := fun vs H Q _ => Hd (∃ (x dx : Addr) (v : V), vs = [.ref x, v] ∧ H x = some (.ins T.C_Yard dx []) ∧ ∀ H' (Y : YA), TK H x (YL T x v Y) H' → H' x = some (.ins T.C_Yard dx (fYd Y)) → Q .non H')
theorem ok_yard (T : Txt K mg) (Z : Dct P w K mg T) : FnOk P w K mg base CX0 5 T.a_Yard_init T.fd_Yard_init ["self", "now"] (spYard T) := by
  have G_Clock : FnOk P w K mg base CX0 1 _ _ _ (spClock T.C_Clock) := ok_clock T
  have G_LevelTable : FnOk P w K mg base CX0 1 _ _ _ (spLevels T.C_LevelTable) := ok_levels T Z
  have G_Store : FnOk P w K mg base CX0 1 _ _ _ (spStore T.C_Store) := ok_store T
  have G_Roster : FnOk P w K mg base CX0 1 _ _ _ (spRoster T.C_Roster) := ok_roster T
  have G_StreamHandler : FnOk P w K mg base CX0 3 _ _ _ (spStream T.C_StreamHandler T.C_Roster K) := ok_stream T Z
  have G_LoggerTree : FnOk P w K mg base CX0 3 _ _ _ (spTree T.C_LoggerTree T.C_Logger) := ok_tree T
  obtain ⟨dsS, hdS, hbS⟩ := T.dd_StreamHandler_init
  refine T.F_Yard_init.ok sc_Yard___init__ (fun vs H Q E h => ?_) (fun cdv A outer s H vs Q E hr h => ?_)
  · obtain ⟨x, dx, v, rfl, _⟩ := h.out
    rfl
  · obtain ⟨x, dx, v, rfl, hx, k⟩ := h.out
    refine ⟨_, (pss_cons (ps_fld (pv 0) (pe_make T.M_Clock G_Clock (hr.mono (by first | decide | omega)) rfl T.g_Clock T.b_Clock_init .nil pass0 (pa_cons (pv 1) pa_nil)) rfl)
  (pss_cons (ps_fld (pv 0) (pe_make0 T.M_LevelTable G_LevelTable (hr.mono (by first | decide | omega)) rfl T.g_LevelTable T.b_LevelTable_init .nil pass0) rfl)
  (pss_cons (ps_fld (pv 0) (pe_make T.M_Store G_Store (hr.mono (by first | decide | omega)) rfl T.g_Store T.b_Store_init .nil pass0 (pa_cons (pe_fld (pv 0) rfl) pa_nil)) rfl)
  (pss_cons (ps_fld (pv 0) (pe_make T.M_Store G_Store (hr.mono (by first | decide | omega)) rfl T.g_Store T.b_Store_init .nil pass0 (pa_cons (pe_fld (pv 0) rfl) pa_nil)) rfl)
  (pss_cons (ps_fld (pv 0) (pe_make0 T.M_Roster G_Roster (hr.mono (by first | decide | omega)) rfl T.g_Roster T.b_Roster_init .nil pass0) rfl)
  (pss_cons (ps_fld (pv 0) (pe_make T.M_LoggerTree G_LoggerTree (hr.mono (by first | decide | omega)) rfl T.g_LoggerTree T.b_LoggerTree_init .nil pass0 (pa_cons (pv 0) (pa_cons (pe_fld (pv 0) rfl) (pa_cons (pe_fld (pv 0) rfl) (pa_cons (pe_make T.M_StreamHandler G_StreamHandler (hr.mono (by first | decide | omega)) rfl T.g_StreamHandler hbS hdS pass0 (pa_cons (pv 0) pa_nil)) pa_nil))))) rfl)
  (pss_one (ps_fld (pv 0) (pe_fld (pe_fld (pv 0) rfl) rfl) rfl)))))))), ?_⟩
    walk_at "st"
    intro ck dck c1 c2 c3
    refine .a ⟨ck, dck, v, rfl, upd_same, fun H1 h1 s1 => ?_⟩
    obtain ⟨t1, x1⟩ := (TK.nil H x).lay hx c1 c2 (N := [(ck, _)]) (fc ⟨h1, .inl rfl⟩ fz) (by simp) s1
    walk_at "st"
    refine ⟨x, T.C_Yard, dx, _, rfl, x1, T.o_Yard.cl, T.o_Yard.na _ (by decide), Nat.le_of_ble_eq_true rfl, ?_⟩
    have t1 := t1.setx (o := .ins T.C_Yard dx (putF "clock" (.ref ck) []))
    have x1 : upd H1 x (.ins T.C_Yard dx (putF "clock" (.ref ck) [])) x = _ := upd_same
    generalize upd H1 x (.ins T.C_Yard dx (putF "clock" (.ref ck) [])) = G1 at t1 x1 ⊢
    walk_at "st"
    intro lv dlv c1 c2 c3
    refine .a ⟨lv, dlv, rfl, upd_same, fun H2 n1 n2 h1 h2 h3 h4 h5 h6 s2 => ?_⟩
    have e1 := (mkH_none h4).1
    have e2 := (mkH_none h5).1
    obtain ⟨t2, x2⟩ := t1.lay x1 c1 c2 (N := [(lv, _), (n1, _), (n2, _)]) (fc ⟨h1, .inl rfl⟩ (fc ⟨h2, .inr h4⟩ (fc ⟨h3, .inr h5⟩ fz))) (by simp [e1.symm, e2.symm, h6]) s2
    walk_at "st"
    refine ⟨x, T.C_Yard, dx, _, rfl, x2, T.o_Yard.cl, T.o_Yard.na _ (by decide), Nat.le_of_ble_eq_true rfl, ?_⟩
    have t2 := t2.setx (o := .ins T.C_Yard dx (putF "levels" (.ref lv) (putF "clock" (.ref ck) [])))
    have x2 : upd H2 x (.ins T.C_Yard dx (putF "levels" (.ref lv) (putF "clock" (.ref ck) []))) x = _ := upd_same
    generalize upd H2 x (.ins T.C_Yard dx (putF "levels" (.ref lv) (putF "clock" (.ref ck) []))) = G2 at t2 x2 ⊢
    walk_at "st"
    refine ⟨x, T.C_Yard, dx, _, .ref ck, rfl, x2, T.o_Yard.cl, T.o_Yard.na _ (by decide), rfl, ?_⟩
    walk_at "st"
    intro ss dss c1 c2 c3
    refine .a ⟨ss, dss, ck, rfl, upd_same, fun H3 sk h1 h2 h3 s3 => ?_⟩
    have e1 := (mkH_none h3).1
    obtain ⟨t3, x3⟩ := t2.lay x2 c1 c2 (N := [(ss, _), (sk, _)]) (fc ⟨h1, .inl rfl⟩ (fc ⟨h2, .inr h3⟩ fz)) (by simp [e1.symm]) s3
    walk_at "st"
    refine ⟨x, T.C_Yard, dx, _, rfl, x3, T.o_Yard.cl, T.o_Yard.na _ (by decide), Nat.le_of_ble_eq_true rfl, ?_⟩
    have t3 := t3.setx (o := .ins T.C_Yard dx (putF "stream_store" (.ref ss) (putF "levels" (.ref lv) (putF "clock" (.ref ck) []))))
    have x3 : upd H3 x (.ins T.C_Yard dx (putF "stream_store" (.ref ss) (putF "levels" (.ref lv) (putF "clock" (.ref ck) [])))) x = _ := upd_same
    generalize upd H3 x (.ins T.C_Yard dx (putF "stream_store" (.ref ss) (putF "levels" (.ref lv) (putF "clock" (.ref ck) [])))) = G3 at t3 x3 ⊢
    walk_at "st"
    refine ⟨x, T.C_Yard, dx, _, .ref ck, rfl, x3, T.o_Yard.cl, T.o_Yard.na _ (by decide), rfl, ?_⟩
    walk_at "st"
    intro fs dfs c1 c2 c3
    refine .a ⟨fs, dfs, ck, rfl, upd_same, fun H4 fk h1 h2 h3 s4 => ?_⟩
    have e1 := (mkH_none h3).1
    obtain ⟨t4, x4⟩ := t3.lay x3 c1 c2 (N := [(fs, _), (fk, _)]) (fc ⟨h1, .inl rfl⟩ (fc ⟨h2, .inr h3⟩ fz)) (by simp [e1.symm]) s4
    walk_at "st"
    refine ⟨x, T.C_Yard, dx, _, rfl, x4, T.o_Yard.cl, T.o_Yard.na _ (by decide), Nat.le_of_ble_eq_true rfl, ?_⟩
    have t4 := t4.setx (o := .ins T.C_Yard dx (putF "file_store" (.ref fs) (putF "stream_store" (.ref ss) (putF "levels" (.ref lv) (putF "clock" (.ref ck) [])))))
    have x4 : upd H4 x (.ins T.C_Yard dx (putF "file_store" (.ref fs) (putF "stream_store" (.ref ss) (putF "levels" (.ref lv) (putF "clock" (.ref ck) []))))) x = _ := upd_same
    generalize upd H4 x (.ins T.C_Yard dx (putF "file_store" (.ref fs) (putF "stream_store" (.ref ss) (putF "levels" (.ref lv) (putF "clock" (.ref ck) []))))) = G4 at t4 x4 ⊢
    walk_at "st"
    intro ro dro c1 c2 c3
    refine .a ⟨ro, dro, rfl, upd_same, fun H5 hl ld fl h1 h2 h3 h4 h5 h6 h7 g1 g2 g3 s5 => ?_⟩
    have e1 := (mkH_none h5).1
    have e2 := (mkH_none h6).1
    have e3 := (mkH_none h7).1
    obtain ⟨t5, x5⟩ := t4.lay x4 c1 c2 (N := [(ro, _), (ld, _), (fl, _), (hl, _)]) (fc ⟨h1, .inl rfl⟩ (fc ⟨h3, .inr h6⟩ (fc ⟨h4, .inr h7⟩ (fc ⟨h2, .inr h5⟩ fz)))) (by simp [e1.symm, e2.symm, e3.symm, g1.symm, g2.symm, g3]) s5
    walk_at "st"
    refine ⟨x, T.C_Yard, dx, _, rfl, x5, T.o_Yard.cl, T.o_Yard.na _ (by decide), Nat.le_of_ble_eq_true rfl, ?_⟩
    have t5 := t5.setx (o := .ins T.C_Yard dx (putF "roster" (.ref ro) (putF "file_store" (.ref fs) (putF "stream_store" (.ref ss) (putF "levels" (.ref lv) (putF "clock" (.ref ck) []))))))
    have x5 : upd H5 x (.ins T.C_Yard dx (putF "roster" (.ref ro) (putF "file_store" (.ref fs) (putF "stream_store" (.ref ss) (putF "levels" (.ref lv) (putF "clock" (.ref ck) [])))))) x = _ := upd_same
    generalize upd H5 x (.ins T.C_Yard dx (putF "roster" (.ref ro) (putF "file_store" (.ref fs) (putF "stream_store" (.ref ss) (putF "levels" (.ref lv) (putF "clock" (.ref ck) [])))))) = G5 at t5 x5 ⊢
    walk_at "st"
    refine ⟨x, T.C_Yard, dx, _, .ref lv, rfl, x5, T.o_Yard.cl, T.o_Yard.na _ (by decide), rfl, ?_⟩
    walk_at "st"
    refine ⟨x, T.C_Yard, dx, _, .ref ck, rfl, x5, T.o_Yard.cl, T.o_Yard.na _ (by decide), rfl, ?_⟩
    walk_at "st"
    intro lr dlr c1 c2 c3
    have y5 : mkH G5 T.C_StreamHandler lr dlr x = _ := mkH_old c1 c2 x5
    have r5 := t5.at_ (ro, .ins T.C_Roster dro (fRo hl ld fl)) (by simp)
    have a5 := t5.at_ (hl, .lst []) (by simp)
    have xr5 : x ≠ ro := (t5.nx (ro, .ins T.C_Roster dro (fRo hl ld fl)) (by simp)).symm
    have lx : lr ≠ x := (neN x5 c1).symm
    have lro : lr ≠ ro := (neN r5 c1).symm
    refine .a ⟨lr, dlr, x, T.C_Yard, dx, ro, dro, hl, ld, fl, sErr, _, [], rfl, upd_same, y5, T.o_Yard.cl, T.o_Yard.na _ (by decide), rfl, lx, mkH_old c1 c2 r5, lro, mkH_old c1 c2 a5, by decide, fun H6 lf h1 h2 h3 h4 s6 => ?_⟩
    have e1 := (mkH_none h3).1
    have t5' : TK H x ([(ck, .ins T.C_Clock dck [("shown", v)]), (lv, .ins T.C_LevelTable dlv (fLv n1 n2)), (n1, .dK firstNames), (n2, .dK firstNumbers), (ss, .ins T.C_Store dss (fSt ck sk)), (sk, .dK []), (fs, .ins T.C_Store dfs (fSt ck fk)), (fk, .dK []),
      (ro, .ins T.C_Roster dro (fRo hl ld fl)), (ld, .dK []), (fl, .lst [])] ++ [(hl, .lst [])]) G5 := t5
    obtain ⟨t6, x6⟩ := t5'.layY x5 c1 c2 h4 (N := [(lr, _), (lf, _)]) (fc ⟨h1, .inl rfl⟩ (fc ⟨h2, .inr h3⟩ fz)) (by simp [e1.symm]) s6
    walk_at "st"
    intro tr dtr c1 c2 c3
    refine .a ⟨tr, dtr, x, lv, ck, lr, rfl, upd_same, fun H7 nm rt drt rh rf h1 h2 h3 h4 h5 h6 h7 h8 h9 g1 s7 => ?_⟩
    have e1 := (mkH_none h6).1
    have e2 := (mkH_none h7).1
    have e3 := (mkH_none h8).1
    have e4 := (mkH_none h9).1
    have f1 : nm ≠ rt := fun z => by rw [z, h3] at h2; cases h2
    have f2 : nm ≠ rh := fun z => by rw [z, h4] at h2; cases h2
    have f3 : nm ≠ rf := fun z => by rw [z, h5] at h2; cases h2
    have f4 : rt ≠ rh := fun z => by rw [z, h4] at h3; cases h3
    have f5 : rt ≠ rf := fun z => by rw [z, h5] at h3; cases h3
    obtain ⟨t7, x7⟩ := t6.lay x6 c1 c2 (N := [(tr, _), (nm, _), (rt, _), (rh, _), (rf, _)]) (fc ⟨h1, .inl rfl⟩ (fc ⟨h2, .inr h6⟩ (fc ⟨h3, .inr h7⟩ (fc ⟨h4, .inr h8⟩ (fc ⟨h5, .inr h9⟩ fz))))) (by simp [e1.symm, e2.symm, e3.symm, e4.symm, f1, f2, f3, f4, f5, g1]) s7
    walk_at "st"
    refine ⟨x, T.C_Yard, dx, _, rfl, x7, T.o_Yard.cl, T.o_Yard.na _ (by decide), Nat.le_of_ble_eq_true rfl, ?_⟩
    have t7 := t7.setx (o := .ins T.C_Yard dx (putF "tree" (.ref tr) (putF "roster" (.ref ro) (putF "file_store" (.ref fs) (putF "stream_store" (.ref ss) (putF "levels" (.ref lv) (putF "clock" (.ref ck) [])))))))
    have x7 : upd H7 x (.ins T.C_Yard dx (putF "tree" (.ref tr) (putF "roster" (.ref ro) (putF "file_store" (.ref fs) (putF "stream_store" (.ref ss) (putF "levels" (.ref lv) (putF "clock" (.ref ck) []))))))) x = _ := upd_same
    generalize upd H7 x (.ins T.C_Yard dx (putF "tree" (.ref tr) (putF "roster" (.ref ro) (putF "file_store" (.ref fs) (putF "stream_store" (.ref ss) (putF "levels" (.ref lv) (putF "clock" (.ref ck) []))))))) = G7 at t7 x7 ⊢
    walk_at "st"
    refine ⟨x, T.C_Yard, dx, _, .ref tr, rfl, x7, T.o_Yard.cl, T.o_Yard.na _ (by decide), rfl, ?_⟩
    have r7 := t7.at_ (tr, .ins T.C_LoggerTree dtr (fTr x lv ck lr nm rt)) (by simp)
    refine ⟨tr, T.C_LoggerTree, dtr, _, .ref rt, rfl, r7, T.o_LoggerTree.cl, T.o_LoggerTree.na _ (by decide), rfl, ?_⟩
    walk_at "st"
    refine ⟨x, T.C_Yard, dx, _, rfl, x7, T.o_Yard.cl, T.o_Yard.na _ (by decide), Nat.le_of_ble_eq_true rfl, ?_⟩
    exact k _ ⟨ck, dck, lv, dlv, n1, n2, ss, dss, sk, fs, dfs, fk, ro, dro, hl, ld, fl, lr, dlr, lf, tr, dtr, nm, rt, drt, rh, rf⟩ t7.setx upd_same
end
end My

namespace My
open PySem PySem.Spec PyProof.Rows L2 SuX
local macro_rules | `(tactic| walk_at "hp") => `(tactic| first | assumption | exact upd_same | (refine Eq.trans (upd_ne (by first | assumption | (apply Ne.symm; assumption))) ?_; walk_at "hp"))
local macro_rules | `(tactic| walk_at "ixl") => `(tactic| (refine' ⟨_, ?xs, _, ?vv, rfl, rfl, SqL.of ?hh, ?aa, ?qq⟩; (case hh => walk_at "hp"); (case aa => rfl)))
local macro_rules | `(tactic| walk_at "setl") => `(tactic| (refine' ⟨_, ?xs, _, ?jj, rfl, rfl, ?hh, ?aa, ?qq⟩; (case hh => walk_at "hp"); (case aa => rfl)))
local macro_rules | `(tactic| walk_at "cond") => `(tactic| first | exact ⟨_, rfl⟩ | exact Nat.le_of_lt (small1000 (Nat.le_of_ble_eq_true rfl)) | decide | omega | (dsimp only; omega) | exact ⟨by decide, by decide⟩ | exact Or.inr ⟨by decide, by decide⟩ | exact Or.inl ⟨by decide, by decide⟩ | exact ⟨by decide, by decide, by decide⟩ | exact ⟨by omega, by omega⟩ | exact ⟨by omega, by omega, by omega⟩ | (simp only [List.length_cons, List.length_nil, List.length_append, List.length_take, List.length_drop]; omega) | (refine ⟨?_, ?_, ?_⟩ <;> first | decide | omega | (simp only [List.length_cons, List.length_nil, List.length_append, List.length_take, List.length_drop, Option.getD_some, Option.getD_none]; omega)))
local macro_rules | `(tactic| walk_at "st") => `(tactic| repeat (first | refine ⟨_, rfl, ?_⟩ | refine ⟨_, _, rfl, rfl, ?_⟩ | walk_at "ixl" | walk_at "setl" | refine ⟨rfl, ?_⟩ | refine Or.inl ⟨_, rfl, ?_⟩ | refine And.intro (by walk_at "cond") ?_))
theorem szl {n : Nat} (h : n ≤ 100000) : n < sizeLine := Nat.lt_of_le_of_lt h (by decide)
theorem keep_put {H : Hp} {p : Addr} {o : HO} : ∀ b, b ≠ p → ∀ u, H b = some u → upd H p o b = some u := fun b hb u e => by rw [upd_ne hb]; exact e
/-! ### the stream of draws -/
structure StmA (H : Hp) (p q : Addr) (n : Int) (cs : List Int) (a c : Int) : Prop where
  hp : H p = some (.lst [.ref q, .int a, .int n, .int c])
  hq : H q = some (.lst (cs.map V.int))
  a0 : 0 ≤ a
  c0 : 0 ≤ c
  c1 : c < 2147483647
structure Stm (H : Hp) (p q : Addr) (n : Int) : Prop where
  ex : ∃ (cs : List Int) (a c : Int), StmA H p q n cs a c
  n0 : 0 ≤ n
  n1 : n ≤ 100000
theorem StmA.ne {H : Hp} {p q : Addr} {a n c : Int} {cs : List Int} (S : StmA H p q n cs a c) : p ≠ q := by
  intro e
  have h2 := S.hq
  rw [← e, S.hp] at h2
  cases cs with
  | nil => cases h2
  | cons x r => simp at h2
/-- all but the stream's two lists -/
def off (H : Hp) (p q : Addr) : Hp := fun b => if b = p ∨ b = q then none else H b
theorem off_p {H : Hp} {p q : Addr} {o : HO} : off (upd H p o) p q = off H p q := by
  funext b
  unfold off
  by_cases h : b = p ∨ b = q
  · rw [if_pos h, if_pos h]
  · rw [if_neg h, if_neg h, upd_ne (fun e => h (.inl e))]
theorem off_q {H : Hp} {p q : Addr} {o : HO} : off (upd H q o) p q = off H p q := by
  funext b
  unfold off
  by_cases h : b = p ∨ b = q
  · rw [if_pos h, if_pos h]
  · rw [if_neg h, if_neg h, upd_ne (fun e => h (.inr e))]
/-- something new -/
theorem off_new {H : Hp} {p q x : Addr} {o : HO} (hx : H x = none) : Same (off H p q) (off (upd H x o) p q) := by
  intro b u e
  unfold off at e ⊢
  by_cases h : b = p ∨ b = q
  · rw [if_pos h] at e; cases e
  · rw [if_neg h] at e ⊢
    rw [upd_ne (ne_of_none e hx)]
    exact e
def spDraw : Sp := fun vs H Q _ => Hd (∃ (p q : Addr) (n m : Int), vs = [.ref p, .int m] ∧ Stm H p q n ∧ n + 1 ≤ 100000 ∧ 0 < m ∧ m < 1000000 ∧
  ∀ (d n' : Int) (H' : Hp), 0 ≤ d → d < m → n' ≤ n + 1 → Stm H' p q n' → Same (off H p q) (off H' p q) → Q (.int d) H')
theorem eqvAll_nil (cs : List Int) : PyData.eqv (.list (cs.map PyData.int)) (.list []) = cs.isEmpty := by
  cases cs with
  | nil => rfl
  | cons x r => rfl
theorem canLay_ints : ∀ (cs : List Int), PyData.canLayAll0 (cs.map PyData.int) = true
  | [] => rfl
  | x :: r => by
    show (PyData.canLay0 (.int x) && PyData.canLayAll0 (r.map PyData.int)) = true
    rw [canLay_ints r]
    rfl
theorem depth_ints : ∀ (cs : List Int), PyData.depthAll (cs.map PyData.int) = 0
  | [] => rfl
  | x :: r => by
    show max (PyData.depth (.int x)) (PyData.depthAll (r.map PyData.int)) = 0
    rw [depth_ints r]
    rfl
theorem shaped_ints (cs : List Int) : SeqAt.shaped (.list (cs.map PyData.int)) = true := by
  show (PyData.canLayAll0 (cs.map PyData.int) && decide (PyData.depthAll (cs.map PyData.int) + 1 ≤ 64)) = true
  rw [canLay_ints, depth_ints]
  rfl
theorem dpAll_ints {K : PySem.W.Frag} {H : Hp} : ∀ (cs : List Int), DpAll K H (cs.map V.int) (cs.map PyData.int)
  | [] => .nil
  | x :: r => .cons (.int x) (dpAll_ints r)
theorem while_ex {c : TT} {tb : TS} {D : Ends} {σ : L2.St} {H : Hp} (Pv : Nat → L2.St → Hp → Prop) (Ex : L2.St → Hp → Prop) (h0 : ∃ m, Pv m σ H) (hfin : ∀ σ H, Ex σ H → D.nx σ H)
    (hs : ∀ (R : L2.St → Hp → Prop), (∀ σ H, Ex σ H → R σ H) → ∀ m σ H, Pv m σ H → ∀ NW : L2.St → Hp → Prop, NW = (fun σ' H' => Hd (∃ m', m' < m ∧ Pv m' σ' H')) →
      c σ H fun b H1 => if b = true then ∃ N : L2.St → Hp → Prop, (∀ σ' H', N σ' H' → ∃ m', m' < m ∧ Pv m' σ' H') ∧ tb { D with nx := N, ct := N, bk := R } σ H1 else R σ H1) : tWhile c tb D σ H :=
  ⟨Pv, h0, fun m σ H hp => hs D.nx hfin m σ H hp _ rfl⟩
theorem seqIndex0 {n : Nat} : seqIndex? 0 (n + 1) = some 0 := by
  unfold seqIndex?
  simp
def lenAt (H : Hp) (q : Addr) : Nat := match H q with
  | some (.lst xs) => xs.length
  | _ => 0
theorem lenAt_of {H : Hp} {q : Addr} {xs : List V} (h : H q = some (.lst xs)) : lenAt H q = xs.length := by
  unfold lenAt; rw [h]
/-! ### from the object's file: heaps -/
theorem off_same {H : Hp} {p q : Addr} : Same (off H p q) H := fun b o e => by
  unfold off at e
  by_cases h : b = p ∨ b = q
  · rw [if_pos h] at e; cases e
  · rw [if_neg h] at e; exact e
theorem off_mono {H H' : Hp} {p q : Addr} (h : Same H H') : Same (off H p q) (off H' p q) := fun b o e => by
  unfold off at e ⊢
  by_cases c : b = p ∨ b = q
  · rw [if_pos c] at e; cases e
  · rw [if_neg c] at e ⊢
    exact h _ _ e
theorem same_new {H : Hp} {x : Addr} {o : HO} (hx : H x = none) : Same H (upd H x o) := fun b u e => by
  rw [upd_ne (ne_of_none e hx)]
  exact e
theorem Stm.same {H H' : Hp} {p q : Addr} {n : Int} (S : Stm H p q n) (h : Same H H') : Stm H' p q n := by
  obtain ⟨⟨cs, a, c, SA⟩, n0, n1⟩ := S
  exact ⟨⟨cs, a, c, ⟨h _ _ SA.hp, h _ _ SA.hq, SA.a0, SA.c0, SA.c1⟩⟩, n0, n1⟩
/-- what is new since H0 -/
def nw (H0 H : Hp) : Hp := fun b => if (H0 b).isNone = true then H b else none
theorem nw_none {H0 H : Hp} {b : Addr} (h : H0 b = none) : nw H0 H b = H b := by
  unfold nw
  rw [h]
  rfl
theorem nw_some {H0 H : Hp} {b : Addr} {o : HO} (h : nw H0 H b = some o) : H0 b = none ∧ H b = some o := by
  unfold nw at h
  cases e : H0 b with
  | none => rw [e] at h; exact ⟨rfl, h⟩
  | some u => rw [e] at h; cases h
theorem nw_same {H0 H : Hp} : Same (nw H0 H) H := fun b o e => (nw_some e).2
/-- all but the stream stands, and what stood is there -/
structure Xt (H H' : Hp) (p q : Addr) : Prop where
  fr : Same (off H p q) (off H' p q)
  dm : ∀ b, H' b = none → H b = none
theorem Xt.refl {H : Hp} {p q : Addr} : Xt H H p q := ⟨Same.refl _, fun _ h => h⟩
theorem Xt.trans {H H1 H2 : Hp} {p q : Addr} (a : Xt H H1 p q) (b : Xt H1 H2 p q) : Xt H H2 p q := ⟨a.fr.trans b.fr, fun c h => a.dm c (b.dm c h)⟩
theorem Xt.new {H : Hp} {p q x : Addr} {o : HO} (hx : H x = none) : Xt H (upd H x o) p q := ⟨off_new hx, fun b h => by
  by_cases e : b = x
  · rw [e]; exact hx
  · rw [upd_ne e] at h; exact h⟩
theorem Xt.same {H H' : Hp} {p q : Addr} (h : Same H H') : Xt H H' p q := ⟨off_mono h, fun b e => h.free e⟩
/-- what is written at a place that is new since H -/
theorem Xt.put {H H' : Hp} {p q x : Addr} {o : HO} (a : Xt H H' p q) (hx : H x = none) : Xt H (upd H' x o) p q := ⟨fun b u e => by
  have hb : b ≠ x := fun z => by
    have := off_same _ _ e
    rw [z, hx] at this; cases this
  have q1 := a.fr _ _ e
  unfold off at q1 ⊢
  by_cases c : b = p ∨ b = q
  · rw [if_pos c] at q1; cases q1
  · rw [if_neg c] at q1 ⊢
    rw [upd_ne hb]; exact q1, fun b h => by
  by_cases e : b = x
  · rw [e]; exact hx
  · rw [upd_ne e] at h; exact a.dm b h⟩
theorem Xt.of {H H' : Hp} {p q : Addr} {n n' : Int} (S' : Stm H' p q n') (fr : Same (off H p q) (off H' p q)) : Xt H H' p q := ⟨fr, fun b h => by
  obtain ⟨⟨cs, a, c, SA⟩, _, _⟩ := S'
  cases e : H b with
  | none => rfl
  | some o =>
    by_cases z : b = p ∨ b = q
    · rcases z with rfl | rfl
      · rw [SA.hp] at h; cases h
      · rw [SA.hq] at h; cases h
    · have q1 : off H' p q b = some o := fr b o (by unfold off; rw [if_neg z]; exact e)
      rw [off_same _ _ q1] at h; cases h⟩
theorem Stm.there {H : Hp} {p q : Addr} {n : Int} (S : Stm H p q n) : H p ≠ none ∧ H q ≠ none := by
  obtain ⟨⟨cs, a, c, SA⟩, _, _⟩ := S
  exact ⟨by rw [SA.hp]; exact (fun z => nomatch z), by rw [SA.hq]; exact (fun z => nomatch z)⟩
/-- what is new stays behind draws -/
theorem nw_mono {H0 H H' : Hp} {p q : Addr} (hp : H0 p ≠ none) (hq : H0 q ≠ none) (fr : Same (off H p q) (off H' p q)) : Same (nw H0 H) (nw H0 H') := fun b o e => by
  obtain ⟨h0, h1⟩ := nw_some e
  rw [nw_none h0]
  have z : ¬ (b = p ∨ b = q) := fun z => by
    rcases z with rfl | rfl
    · exact hp h0
    · exact hq h0
  exact off_same _ _ (fr b o (by unfold off; rw [if_neg z]; exact h1))
/-- new since later, new since earlier -/
theorem nw_low {H0 H1 H : Hp} (dm : ∀ b, H1 b = none → H0 b = none) : Same (nw H1 H) (nw H0 H) := fun b o e => by
  obtain ⟨h0, h1⟩ := nw_some e
  rw [nw_none (dm b h0)]
  exact h1
theorem Xt.at {H H' : Hp} {p q b : Addr} {o : HO} (x : Xt H H' p q) (h : H b = some o) (hp : b ≠ p) (hq : b ≠ q) : H' b = some o :=
  off_same _ _ (x.fr b o (by unfold off; rw [if_neg (fun z => z.elim hp hq)]; exact h))
theorem Stm.put {H : Hp} {p q x : Addr} {n : Int} {o : HO} (S : Stm H p q n) (hp : x ≠ p) (hq : x ≠ q) : Stm (upd H x o) p q n := by
  obtain ⟨⟨cs, a, c, SA⟩, n0, n1⟩ := S
  exact ⟨⟨cs, a, c, ⟨by rw [upd_ne hp.symm]; exact SA.hp, by rw [upd_ne hq.symm]; exact SA.hq, SA.a0, SA.c0, SA.c1⟩⟩, n0, n1⟩
theorem nw_put {H0 H : Hp} {x : Addr} {o : HO} (hx : H0 x ≠ none) : nw H0 (upd H x o) = nw H0 H := by
  funext b
  unfold nw
  cases e : H0 b with
  | none =>
    have hb : b ≠ x := fun z => hx (by rw [← z]; exact e)
    simp [upd_ne hb]
  | some u => rfl
theorem off_at {H : Hp} {p q x : Addr} {n : Int} {o : HO} (S : Stm H p q n) (hx : H x = none) : off (upd H x o) p q x = some o := by
  obtain ⟨⟨cs, a, c, SA⟩, _, _⟩ := S
  unfold off
  rw [if_neg (fun h => by
    rcases h with rfl | rfl
    · rw [SA.hp] at hx; cases hx
    · rw [SA.hq] at hx; cases hx)]
  exact upd_same
theorem take_snoc {α : Type} {l : List α} {i : Nat} {x : α} (h : l[i]? = some x) : l.take (i + 1) = l.take i ++ [x] := by
  obtain ⟨h1, h2⟩ := List.getElem?_eq_some_iff.mp h
  rw [← h2, List.take_append_getElem h1]
theorem same_put {H H' : Hp} {x : Addr} {o : HO} (h : Same H H') (hx : H x = none) : Same H (upd H' x o) := fun b u e => by
  rw [upd_ne (ne_of_none e hx)]
  exact h _ _ e
theorem nw_step {H0 H H' : Hp} (h : Same H H') : Same (nw H0 H) (nw H0 H') := fun b o e => by
  obtain ⟨e1, e2⟩ := nw_some e
  rw [nw_none e1]
  exact h _ _ e2
section
variable {P : Program} {w : World} {K : PySem.W.Frag} {mg : Str → Option Value} {base : Heap}
theorem ok_draw (T : Txt K mg) : FnOk P w K mg base CX0 1 T.f__law_draw T.fd__law_draw ["_law_s", "_law_many"] spDraw := by
  refine T.D__law_draw.F.ok sc__law_draw (fun vs H Q E h => ?_) (fun cdv A outer s H vs Q E hr h => ?_)
  · obtain ⟨p, q, n, m, rfl, _⟩ := h.out
    rfl
  · obtain ⟨p, q, n, m, rfl, S, hn, hm, hm2, k⟩ := h.out
    have hu64 := hr.units
    refine ⟨_, (pss_cons (ps_while PassesOwn.never (PW.pt (pw_and (pt_cmpR op_eq (pe_ix ix_list (pv 0) pe_int (fun _ _ => rfl)) pe_int (nomark _)) (pw_and1 (pt_cmpR (op_neD hu64) (pe_ix ix_list (pv 0) pe_int (fun _ _ => rfl)) (pe_lst pa_nil) (nomark _)))))
    (pss_cons (ps_asg (pe_bm PySem.F.plainAttrs_list PySem.F.slot_list_pop PySem.F.type_list_pop mt_popAt (pe_ix ix_list (pv 0) pe_int (fun _ _ => rfl)) (pa_cons pe_int pa_nil)) (pg_sub (pv 0) pe_int set_list (fun _ => rfl)))
  (pss_one (ps_if (pt_cmpR op_lt (pe_ix ix_list (pv 0) pe_int (fun _ _ => rfl)) (pe_op op_pow pe_int pe_int) (nomark _))
    (pss_cons (ps_asg (pe_op op_mod (pe_callTy call_int1 (by rfl) T.B.n_int (by decide +kernel) (pa_cons (pe_op op_add (pe_op op_add (pe_op op_mul (pe_ix ix_list (pv 0) pe_int (fun _ _ => rfl)) pe_int) (pe_ix ix_list (pv 0) pe_int (fun _ _ => rfl))) pe_int) pa_nil)) pe_int) (pg_sub (pv 0) pe_int set_list (fun _ => rfl)))
  (pss_one (ps_asg pe_int (pg_sub (pv 0) pe_int set_list (fun _ => rfl)))))
    pss_nil))))
  (pss_cons (ps_if (pt_cmpR op_gt (pe_ix ix_list (pv 0) pe_int (fun _ _ => rfl)) pe_int (nomark _))
    (pss_cons (ps_set (i := 2) sc__law_draw.nd rfl (by first | exact Or.inl rfl | exact Or.inr rfl) (pe_op op_mod (pe_callTy call_int1 (by rfl) T.B.n_int (by decide +kernel) (pa_cons (pe_ix ix_list (pv 0) pe_int (fun _ _ => rfl)) pa_nil)) (pv 1)))
  (pss_cons (ps_asg (pe_op op_fdiv (pe_ix ix_list (pv 0) pe_int (fun _ _ => rfl)) (pv 1)) (pg_sub (pv 0) pe_int set_list (fun _ => rfl)))
  (pss_one (ps_ret (pv 2)))))
    pss_nil)
  (pss_cons (ps_asg (pe_op op_add (pe_ix ix_list (pv 0) pe_int (fun _ _ => rfl)) pe_int) (pg_sub (pv 0) pe_int set_list (fun _ => rfl)))
  (pss_cons (ps_set (i := 3) sc__law_draw.nd rfl (by first | exact Or.inl rfl | exact Or.inr rfl) (pe_op op_mod (pe_callTy call_int1 (by rfl) T.B.n_int (by decide +kernel) (pa_cons (pe_op op_pow (pe_op op_add (pe_op op_add (pe_ix ix_list (pv 0) pe_int (fun _ _ => rfl)) (pe_op op_mul pe_int (pe_ix ix_list (pv 0) pe_int (fun _ _ => rfl)))) pe_int) pe_int) pa_nil)) pe_int))
  (pss_cons (ps_set (i := 4) sc__law_draw.nd rfl (by first | exact Or.inl rfl | exact Or.inr rfl) (pe_op op_mod (pe_callTy call_int1 (by rfl) T.B.n_int (by decide +kernel) (pa_cons (pe_op op_pow (pe_op op_add (pe_op op_add (pe_op op_mul (pv 3) pe_int) (pe_op op_mul (pe_op op_mul pe_int (pe_ix ix_list (pv 0) pe_int (fun _ _ => rfl))) (pe_ix ix_list (pv 0) pe_int (fun _ _ => rfl)))) pe_int) pe_int) pa_nil)) pe_int))
  (pss_one (ps_ret (pe_op op_mod (pe_callTy call_int1 (by rfl) T.B.n_int (by decide +kernel) (pa_cons (pv 4) pa_nil)) (pv 1))))))))), ?_⟩
    obtain ⟨⟨cs, a, c, SA⟩, n0, n1⟩ := S
    refine while_ex (fun l σ H1 => ∃ cs a c, cs.length = l ∧ σ = [some (.ref p), some (.int m), none, none, none] ∧ StmA H1 p q n cs a c ∧ Same (off H p q) (off H1 p q))
      (fun σ H1 => ∃ cs a c, σ = [some (.ref p), some (.int m), none, none, none] ∧ StmA H1 p q n cs a c ∧ Same (off H p q) (off H1 p q)) ⟨cs.length, cs, a, c, rfl, rfl, SA, Same.refl _⟩ ?_ ?_
    · rintro σ H1 ⟨cs, a, c, rfl, SA, fr⟩
      have hpq := SA.ne
      obtain ⟨hp, hq, a0, c0, c1⟩ := SA
      walk_at "st"
      by_cases ha : a > 0
      · refine if_true_of (decide_eq_true ha) ?_
        walk_at "st"
        refine k (a % m) n _ (Int.emod_nonneg _ (by omega)) (Int.emod_lt_of_pos _ hm) (by omega) ⟨⟨cs, a / m, c, ⟨upd_same, ?_, Int.ediv_nonneg a0 (by omega), c0, c1⟩⟩, n0, n1⟩ ?_
        · rw [upd_ne hpq.symm]; exact hq
        · rw [off_p]; exact fr
      · refine if_false_of (decide_eq_false ha) ?_
        walk_at "st"
        have sq0 : 0 ≤ (n + 1) * (n + 1) := Int.mul_nonneg (by omega) (by omega)
        have sq1 : (n + 1) * (n + 1) ≤ 100000 * 100000 := Int.mul_le_mul hn hn (by omega) (by omega)
        have sqe : 40503 * (n + 1) * (n + 1) = 40503 * ((n + 1) * (n + 1)) := Int.mul_assoc _ _ _
        refine ⟨Or.inr ⟨by omega, by omega⟩, ?_⟩
        walk_at "st"
        refine k _ (n + 1) _ (Int.emod_nonneg _ (by omega)) (Int.emod_lt_of_pos _ hm) (by omega) ⟨⟨cs, a, c, ⟨upd_same, ?_, a0, c0, c1⟩⟩, by omega, hn⟩ ?_
        · rw [upd_ne hpq.symm]; exact hq
        · rw [off_p]; exact fr
    · rintro R fin l σ H1 ⟨cs, a, c, rfl, rfl, SA, fr⟩ NW hNW
      have hpq := SA.ne
      obtain ⟨hp, hq, a0, c0, c1⟩ := SA
      walk_at "st"
      by_cases ha : a = 0
      · refine if_true_of (decide_eq_true (congrArg V.int ha)) ?_
        walk_at "st"
        intro x hx
        have xp : p ≠ x := ne_of_none hp hx
        have xq : q ≠ x := ne_of_none hq hx
        refine ⟨.list (cs.map PyData.int), .list [], .lst (SqL.of (by rw [upd_ne xq]; exact hq)) (dpAll_ints cs), .lst (SqL.of upd_same) .nil, shaped_ints cs, rfl, _, rfl, ?_⟩
        have fr2 : Same (off H p q) (off (upd H1 x (.lst [])) p q) := fr.trans (off_new hx)
        have hp2 : (upd H1 x (.lst [])) p = some (.lst [.ref q, .int a, .int n, .int c]) := by rw [upd_ne xp]; exact hp
        have hq2 : (upd H1 x (.lst [])) q = some (.lst (cs.map V.int)) := by rw [upd_ne xq]; exact hq
        generalize upd H1 x (.lst []) = H2 at fr2 hp2 hq2 ⊢
        cases cs with
        | nil =>
          refine if_false_of rfl ?_
          exact fin _ _ ⟨[], a, c, rfl, ⟨hp2, hq2, a0, c0, c1⟩, fr2⟩
        | cons z r =>
          refine if_true_of rfl ⟨NW, by rw [hNW]; exact fun _ _ => Hd.out, ?_⟩
          walk_at "st"
          refine ⟨.inl ⟨rfl, _, SqL.of hq2⟩, q, _, 0, 0, _, rfl, rfl, hq2, by decide, by decide, seqIndex0, rfl, ?_⟩
          walk_at "st"
          by_cases hz : z < 10 ^ 18
          · refine if_true_of (decide_eq_true hz) ?_
            walk_at "st"
            rw [hNW]; refine .a ⟨r.length, Nat.lt_succ_self _, r, 0, (c * 31 + z + 7) % 2147483647, rfl, rfl, ⟨upd_same, ?_, by decide, Int.emod_nonneg _ (by decide), Int.emod_lt_of_pos _ (by decide)⟩, ?_⟩
            · rw [upd_ne hpq.symm, upd_ne hpq.symm, upd_ne hpq.symm]; exact upd_same
            · rw [off_p, off_p, off_p, off_q]; exact fr2
          · refine if_false_of (decide_eq_false hz) ?_
            walk_at "st"
            rw [hNW]; refine .a ⟨r.length, Nat.lt_succ_self _, r, z, c, rfl, rfl, ⟨upd_same, ?_, by omega, c0, c1⟩, ?_⟩
            · rw [upd_ne hpq.symm]; exact upd_same
            · rw [off_p, off_q]; exact fr2
      · refine if_false_of (decide_eq_false fun e => ha (V.int.inj e)) ?_
        exact fin _ _ ⟨cs, a, c, rfl, ⟨hp, hq, a0, c0, c1⟩, fr⟩
def spPick : Sp := fun vs H Q _ => Hd (∃ (p q l : Addr) (n : Int) (xs : List V), vs = [.ref p, .ref l] ∧ Stm H p q n ∧ n + 1 ≤ 100000 ∧ off H p q l = some (.lst xs) ∧ 0 < xs.length ∧ xs.length < 1000 ∧
  ∀ (v : V) (n' : Int) (H' : Hp), v ∈ xs → n' ≤ n + 1 → Stm H' p q n' → Same (off H p q) (off H' p q) → Q v H')
theorem ok_pick (T : Txt K mg) : FnOk P w K mg base CX0 2 T.f__law_pick T.fd__law_pick ["_law_s", "_law_some"] spPick := by
  have G__law_draw : FnOk P w K mg base CX0 1 T.f__law_draw T.fd__law_draw _ spDraw := ok_draw T
  refine T.D__law_pick.F.ok sc__law_pick (fun vs H Q E h => ?_) (fun cdv A outer s H vs Q E hr h => ?_)
  · obtain ⟨p, q, l, n, xs, rfl, _⟩ := h.out
    rfl
  · obtain ⟨p, q, l, n, xs, rfl, S, hn, hl, l0, l1, k⟩ := h.out
    refine ⟨_, (pss_one (ps_ret (pe_ix ix_list (pv 1) (pe_call G__law_draw (hr.mono (by first | decide | omega)) rfl T.D__law_draw.g T.D__law_draw.F.kp T.D__law_draw.b .nil pass0 (pa_cons (pv 0) (pa_cons (pe_callB call_len_seq (by rfl) T.B.n_len (by decide +kernel) (pa_cons (pv 1) pa_nil)) pa_nil))) (fun _ _ => rfl)))), ?_⟩
    have hl2 := off_same _ _ hl
    refine ⟨_, rfl, _, rfl, _, rfl, l, xs, rfl, .inl (SqL.of hl2), ?_⟩
    refine .a ⟨p, q, n, (xs.length : Int), rfl, S, hn, by omega, by omega, fun d n' H' d0 d1 hn' S' fr => ?_⟩
    obtain ⟨j, rfl⟩ : ∃ j : Nat, d = (j : Int) := ⟨d.toNat, by omega⟩
    have hj : j < xs.length := by omega
    refine ⟨l, xs, _, xs[j], rfl, rfl, SqL.of (off_same _ _ (fr _ _ hl)), atI_nat (by simp [hj]), ?_⟩
    exact k _ n' H' (List.getElem_mem hj) hn' S' fr
def spPickS : Sp := fun vs H Q _ => Hd (∃ (p q : Addr) (n : Int) (l : List Nat), vs = [.ref p, .str (SX.S l)] ∧ Stm H p q n ∧ n + 1 ≤ 100000 ∧ 0 < l.length ∧ l.length < 1000 ∧
  ∀ (c : Nat) (n' : Int) (H' : Hp), c ∈ l → n' ≤ n + 1 → Stm H' p q n' → Same (off H p q) (off H' p q) → Q (.str (SX.S [c])) H')
theorem ok_pickS (T : Txt K mg) : FnOk P w K mg base CX0 2 T.f__law_pick T.fd__law_pick ["_law_s", "_law_some"] spPickS := by
  have G__law_draw : FnOk P w K mg base CX0 1 T.f__law_draw T.fd__law_draw _ spDraw := ok_draw T
  refine T.D__law_pick.F.ok sc__law_pick (fun vs H Q E h => ?_) (fun cdv A outer s H vs Q E hr h => ?_)
  · obtain ⟨p, q, n, l, rfl, _⟩ := h.out
    rfl
  · obtain ⟨p, q, n, l, rfl, S, hn, l0, l1, k⟩ := h.out
    refine ⟨_, (pss_one (ps_ret (pe_ix SL.ix_strL (pv 1) (pe_call G__law_draw (hr.mono (by first | decide | omega)) rfl T.D__law_draw.g T.D__law_draw.F.kp T.D__law_draw.b .nil pass0 (pa_cons (pv 0) (pa_cons (pe_callB SL.call_lenL (by rfl) T.B.n_len (by decide +kernel) (pa_cons (pv 1) pa_nil)) pa_nil))) (fun _ _ => rfl)))), ?_⟩
    walk_at "st"
    refine .a ⟨p, q, n, (l.length : Int), rfl, S, hn, by omega, by omega, fun d n' H' d0 d1 hn' S' fr => ?_⟩
    walk_at "st"
    intro c hc
    exact k c n' H' (List.mem_of_getElem? hc) hn' S' fr
end
end My

namespace My
open PySem PySem.Spec PyProof.Rows L2 SuX
local macro_rules | `(tactic| walk_at "hp") => `(tactic| first | assumption | exact upd_same | (refine Eq.trans (upd_ne (by first | assumption | (apply Ne.symm; assumption))) ?_; walk_at "hp"))
local macro_rules | `(tactic| walk_at "ixl") => `(tactic| (refine' ⟨_, ?xs, _, ?vv, rfl, rfl, SqL.of ?hh, ?aa, ?qq⟩; (case hh => walk_at "hp"); (case aa => rfl)))
local macro_rules | `(tactic| walk_at "setl") => `(tactic| (refine' ⟨_, ?xs, _, ?jj, rfl, rfl, ?hh, ?aa, ?qq⟩; (case hh => walk_at "hp"); (case aa => rfl)))
local macro_rules | `(tactic| walk_at "cond") => `(tactic| first | exact ⟨_, rfl⟩ | exact Nat.le_of_lt (small1000 (Nat.le_of_ble_eq_true rfl)) | decide | omega | (dsimp only; omega) | exact ⟨by decide, by decide⟩ | exact Or.inr ⟨by decide, by decide⟩ | exact Or.inl ⟨by decide, by decide⟩ | exact ⟨by decide, by decide, by decide⟩ | exact ⟨by omega, by omega⟩ | exact ⟨by omega, by omega, by omega⟩ | (simp only [List.length_cons, List.length_nil, List.length_append, List.length_take, List.length_drop]; omega) | (refine ⟨?_, ?_, ?_⟩ <;> first | decide | omega | (simp only [List.length_cons, List.length_nil, List.length_append, List.length_take, List.length_drop, Option.getD_some, Option.getD_none]; omega)))
local macro_rules | `(tactic| walk_at "st") => `(tactic| repeat (first | refine ⟨_, rfl, ?_⟩ | refine ⟨_, _, rfl, rfl, ?_⟩ | walk_at "ixl" | walk_at "setl" | refine ⟨rfl, ?_⟩ | refine Or.inl ⟨_, rfl, ?_⟩ | refine And.intro (by walk_at "cond") ?_))
theorem na_of {K : PySem.W.Frag} {C : Addr} {fs : List Str} {f : Str} (o : OC K C fs) (h : f ∈ fs) : NoAttr K C f := o.na f h
theorem pe_fldK {X : Cx} {K : PySem.W.Frag} {e : Expr} {f : Str} {pos : Pos} {ta : TE} (hK : X.K = K) (he : PE X e ta) (hb : attributeBase e f X.env (eval e X.env) = eval e X.env) : PE X (.Attribute e f pos) (tFld K ta f) := by
  subst hK
  exact pe_fld he hb
theorem lc_listN {K : PySem.W.Frag} {a : Addr} {xs : List V} {g : TG} {tt : TT} {te : TE} {vs : List Nat} {σ : L2.St} {H1 : Hp} {D : Addr} {Qd : Hp → Prop} (Pv : Nat → Hp → Prop) (h0 : Pv 0 (upd H1 D (.lst []))) (hl : ∀ i H, i ≤ xs.length → Pv i H → SqL K H a xs)
    (hs : ∀ i x H, xs[i]? = some x → Pv i H → ∀ N : Hp → Prop, N = Pv (i + 1) → g x (wipe σ vs) H fun σ2 H2 => wipe σ2 vs = wipe σ vs ∧ tt σ2 H2 fun b H3 =>
      if b = true then te σ2 H3 fun y H4 => ∃ acc, H4 D = some (.lst acc) ∧ acc.length < sizeLine ∧ N (upd H4 D (.lst (acc ++ [y]))) else N H3) (hd : ∀ H, Pv xs.length H → Qd H) :
    ∃ W : Nat → Nat → Hp → Prop, (∃ m, W 0 m (upd H1 D (.lst []))) ∧ ∀ i m H, W i m H →
      ((Itl K a).stop i H ∧ Qd H) ∨ ((Itl K a).go i H ∧ ∃ Nx : Hp → Prop, (∀ H', Nx H' → ∃ m', m' < m ∧ W (i + 1) m' H') ∧ ∀ x H', (Itl K a).yld i H x H' → g x (wipe σ vs) H' fun σ2 H2 => wipe σ2 vs = wipe σ vs ∧ tt σ2 H2 fun b H3 =>
        if b = true then te σ2 H3 fun y H4 => ∃ acc, H4 D = some (.lst acc) ∧ acc.length < sizeLine ∧ Nx (upd H4 D (.lst (acc ++ [y]))) else Nx H3) := by
  refine ⟨fun i m H => m = xs.length - i ∧ i ≤ xs.length ∧ Pv i H, ⟨xs.length, by simp, Nat.zero_le _, h0⟩, ?_⟩
  rintro i m H ⟨rfl, hi, p⟩
  have q := hl i H hi p
  by_cases hlt : i < xs.length
  · refine .inr ⟨⟨xs, xs[i], q, by simp [hlt]⟩, Pv (i + 1), fun H' p' => ⟨xs.length - (i + 1), by omega, rfl, hlt, p'⟩, fun x H' y => ?_⟩
    obtain ⟨e, y⟩ := y
    subst e
    exact hs i x _ (y xs q) p _ rfl
  · have e : i = xs.length := by omega
    subst e
    exact .inl ⟨⟨xs, q, Nat.le_refl _⟩, hd H p⟩
/-- a comprehension over a list, item by item; what stood stands -/
theorem lc_map {K : PySem.W.Frag} {a : Addr} {xs : List V} {g : TG} {tt : TT} {te : TE} {vs : List Nat} {σ : L2.St} {H : Hp} {D : Addr} {Qd : Hp → Prop} (ys : List V) (hy : ys.length = xs.length) (hl : H a = some (.lst xs)) (hD : H D = none) (hz : xs.length ≤ 1000)
    (hs : ∀ (i : Nat) (x y : V), xs[i]? = some x → ys[i]? = some y → ∀ H', Same H H' → ∀ (R : V → Hp → Prop) (N : Hp → Prop), (∀ H4, Same H' H4 → R y H4) → g x (wipe σ vs) H' fun σ2 H2 => wipe σ2 vs = wipe σ vs ∧ tt σ2 H2 fun b H3 => if b = true then te σ2 H3 R else N H3)
    (hq : ∀ H', Same H H' → H' D = some (.lst ys) → Qd H') :
    ∃ W : Nat → Nat → Hp → Prop, (∃ m, W 0 m (upd H D (.lst []))) ∧ ∀ i m H, W i m H →
      ((Itl K a).stop i H ∧ Qd H) ∨ ((Itl K a).go i H ∧ ∃ Nx : Hp → Prop, (∀ H', Nx H' → ∃ m', m' < m ∧ W (i + 1) m' H') ∧ ∀ x H', (Itl K a).yld i H x H' → g x (wipe σ vs) H' fun σ2 H2 => wipe σ2 vs = wipe σ vs ∧ tt σ2 H2 fun b H3 =>
        if b = true then te σ2 H3 fun y H4 => ∃ acc, H4 D = some (.lst acc) ∧ acc.length < sizeLine ∧ Nx (upd H4 D (.lst (acc ++ [y]))) else Nx H3) := by
  refine lc_listN (xs := xs) (fun i H' => Same H H' ∧ H' D = some (.lst (ys.take i))) ⟨same_put (Same.refl _) hD, by rw [upd_same]; rfl⟩ (fun i H' _ p => SqL.of (p.1 _ _ hl)) (fun i x H' hx p N hN => ?_) (fun H' p => hq H' p.1 (by rw [p.2, ← hy, List.take_length]))
  have hi := (List.getElem?_eq_some_iff.mp hx).1
  have hyi : ys[i]? = some (ys[i]'(by rw [hy]; exact hi)) := List.getElem?_eq_getElem _
  refine hs i x _ hx hyi H' p.1 (fun y H4 => ∃ acc, H4 D = some (.lst acc) ∧ acc.length < sizeLine ∧ N (upd H4 D (.lst (acc ++ [y])))) N fun H4 s4 => ⟨_, s4 _ _ p.2, ?_, ?_⟩
  · have h1 : (ys.take i).length ≤ xs.length := by rw [List.length_take]; omega
    exact Nat.lt_of_le_of_lt (Nat.le_trans h1 hz) (by decide)
  · rw [hN]
    refine ⟨same_put (p.1.trans s4) hD, ?_⟩
    rw [upd_same, take_snoc hyi]
theorem map_at {α β : Type} {f : α → β} {l : List α} {i : Nat} {y : β} (h : (l.map f)[i]? = some y) : ∃ x, l[i]? = some x ∧ f x = y := by
  rw [List.getElem?_map] at h
  cases q : l[i]? with
  | none => rw [q] at h; cases h
  | some x => rw [q] at h; exact ⟨x, rfl, Option.some.inj h⟩
def FrS (S : List Addr) (H H' : Hp) : Prop := ∀ b u, b ∉ S → H b = some u → H' b = some u
theorem FrS.refl (S : List Addr) (H : Hp) : FrS S H H := fun _ _ _ e => e
theorem FrS.trans {S : List Addr} {H H1 H2 : Hp} (a : FrS S H H1) (b : FrS S H1 H2) : FrS S H H2 := fun c u n e => b c u n (a c u n e)
theorem FrS.mono {S S' : List Addr} {H H' : Hp} (a : FrS S H H') (h : ∀ b ∈ S, b ∈ S' ∨ H b = none) : FrS S' H H' := fun c u n e => a c u (fun z => (h c z).elim n fun q => by rw [q] at e; cases e) e
theorem FrS.put {S : List Addr} {H H' : Hp} {x : Addr} {o : HO} (a : FrS S H H') (h : x ∈ S) : FrS S H (upd H' x o) := fun c u n e => by
  have cx : c ≠ x := fun z => n (by rw [z]; exact h)
  rw [upd_ne cx]; exact a c u n e
theorem FrS.new {S : List Addr} {H H' : Hp} {x : Addr} {o : HO} (a : FrS S H H') (h : H x = none) : FrS S H (upd H' x o) := fun c u n e => by rw [upd_ne (fun z => by rw [z, h] at e; cases e)]; exact a c u n e
theorem SameX.frS {x : Addr} {S : List Addr} {H H' : Hp} (s : SameX x H H') (h : x ∈ S) : FrS S H H' := fun c u n e => s c u (fun z => n (by rw [z]; exact h)) e
theorem for_list {K : PySem.W.Frag} {a : Addr} {xs : List V} {g : TG} {tb : TS} {D : Ends} {σ : L2.St} {H : Hp} (W : Nat → L2.St → Hp → Prop) (hst : ∀ i σ H, W i σ H → H a = some (.lst xs)) (h0 : W 0 σ H) (hend : ∀ σ H, W xs.length σ H → D.nx σ H)
    (hs : ∀ (R : L2.St → Hp → Prop) (i : Nat) σ H x, W i σ H → xs[i]? = some x → ∀ N : L2.St → Hp → Prop, N = (fun σ' H' => Hd (W (i + 1) σ' H')) → g x σ H fun σ2 H2 => tb { D with nx := N, ct := N, bk := D.nx } σ2 H2) :
    ∃ W : Nat → Nat → L2.St → Hp → Prop, (∃ m, W 0 m σ H) ∧ ∀ i m σ H, W i m σ H →
      ((Itl K a).stop i H ∧ D.nx σ H) ∨ ((Itl K a).go i H ∧ ∃ N : L2.St → Hp → Prop, (∀ σ' H', N σ' H' → ∃ m', m' < m ∧ W (i + 1) m' σ' H') ∧ ∀ x H', (Itl K a).yld i H x H' → g x σ H' fun σ2 H2 => tb { D with nx := N, ct := N, bk := D.nx } σ2 H2) := by
  refine ⟨fun i m σ H => W i σ H ∧ m = xs.length - i ∧ i ≤ xs.length, ⟨_, h0, rfl, Nat.zero_le _⟩, ?_⟩
  rintro i m σ H ⟨hw, rfl, hi⟩
  have hl := hst i σ H hw
  by_cases hlt : i < xs.length
  · refine .inr ⟨⟨xs, xs[i], SqL.of hl, List.getElem?_eq_getElem hlt⟩, fun σ' H' => Hd (W (i + 1) σ' H'), fun σ' H' z => ⟨xs.length - (i + 1), by omega, z.out, rfl, by omega⟩, ?_⟩
    rintro x H' ⟨rfl, hx⟩
    exact hs D.nx i σ H' x hw (hx xs (SqL.of hl)) _ rfl
  · have e : i = xs.length := by omega
    subst e
    exact .inl ⟨⟨xs, SqL.of hl, Nat.le_refl _⟩, hend σ H hw⟩
theorem for_rng {lo : Int} {n : Nat} {g : TG} {tb : TS} {D : Ends} {σ : L2.St} {H : Hp} (W : Nat → L2.St → Hp → Prop) (h0 : W 0 σ H) (hend : ∀ σ H, W n σ H → D.nx σ H)
    (hs : ∀ (R : L2.St → Hp → Prop) (i : Nat) σ H, i < n → W i σ H → ∀ N : L2.St → Hp → Prop, N = (fun σ' H' => Hd (W (i + 1) σ' H')) → g (.int (lo + i)) σ H fun σ2 H2 => tb { D with nx := N, ct := N, bk := D.nx } σ2 H2) :
    ∃ W : Nat → Nat → L2.St → Hp → Prop, (∃ m, W 0 m σ H) ∧ ∀ i m σ H, W i m σ H →
      ((Itr lo n).stop i H ∧ D.nx σ H) ∨ ((Itr lo n).go i H ∧ ∃ N : L2.St → Hp → Prop, (∀ σ' H', N σ' H' → ∃ m', m' < m ∧ W (i + 1) m' σ' H') ∧ ∀ x H', (Itr lo n).yld i H x H' → g x σ H' fun σ2 H2 => tb { D with nx := N, ct := N, bk := D.nx } σ2 H2) := by
  refine ⟨fun i m σ H => W i σ H ∧ m = n - i ∧ i ≤ n, ⟨_, h0, rfl, Nat.zero_le _⟩, ?_⟩
  rintro i m σ H ⟨hw, rfl, hi⟩
  by_cases hlt : i < n
  · refine .inr ⟨hlt, fun σ' H' => Hd (W (i + 1) σ' H'), fun σ' H' z => ⟨n - (i + 1), by omega, z.out, rfl, by omega⟩, ?_⟩
    rintro x H' ⟨rfl, rfl⟩
    exact hs D.nx i σ H' hlt hw _ rfl
  · have e : i = n := by omega
    subst e
    exact .inl ⟨Nat.le_refl _, hend σ H hw⟩
theorem for_tupK {K : PySem.W.Frag} {a : Addr} {xs : List V} {g : TG} {tb : TS} {D : Ends} {σ : L2.St} {H : Hp} (W : Nat → L2.St → Hp → Prop) (hst : ∀ (_ : L2.St) H, SqT K H a xs) (h0 : W 0 σ H) (hend : ∀ σ H, W xs.length σ H → D.nx σ H)
    (hs : ∀ (R : L2.St → Hp → Prop) (i : Nat) σ H x, W i σ H → xs[i]? = some x → ∀ N : L2.St → Hp → Prop, N = (fun σ' H' => Hd (W (i + 1) σ' H')) → g x σ H fun σ2 H2 => tb { D with nx := N, ct := N, bk := D.nx } σ2 H2) :
    ∃ W : Nat → Nat → L2.St → Hp → Prop, (∃ m, W 0 m σ H) ∧ ∀ i m σ H, W i m σ H →
      ((Itt K a).stop i H ∧ D.nx σ H) ∨ ((Itt K a).go i H ∧ ∃ N : L2.St → Hp → Prop, (∀ σ' H', N σ' H' → ∃ m', m' < m ∧ W (i + 1) m' σ' H') ∧ ∀ x H', (Itt K a).yld i H x H' → g x σ H' fun σ2 H2 => tb { D with nx := N, ct := N, bk := D.nx } σ2 H2) := by
  refine ⟨fun i m σ H => W i σ H ∧ m = xs.length - i ∧ i ≤ xs.length, ⟨_, h0, rfl, Nat.zero_le _⟩, ?_⟩
  rintro i m σ H ⟨hw, rfl, hi⟩
  have hl := hst σ H
  by_cases hlt : i < xs.length
  · refine .inr ⟨⟨xs, xs[i], hl, List.getElem?_eq_getElem hlt⟩, fun σ' H' => Hd (W (i + 1) σ' H'), fun σ' H' z => ⟨xs.length - (i + 1), by omega, z.out, rfl, by omega⟩, ?_⟩
    rintro x H' ⟨rfl, hx⟩
    exact hs D.nx i σ H' x hw (hx xs hl) _ rfl
  · have e : i = xs.length := by omega
    subst e
    exact .inl ⟨⟨xs, hl, Nat.le_refl _⟩, hend σ H hw⟩
/-! ### all stands but tables, which may grow -/
def noT : HO → Bool
  | .tbl _ => false
  | _ => true
structure SmT (H H' : Hp) : Prop where
  st : ∀ b o, H b = some o → noT o = true → H' b = some o
  tb : ∀ b ps, H b = some (.tbl ps) → ∃ ps', H' b = some (.tbl ps') ∧ (TriplesOk ps.toList → TriplesOk ps'.toList)
theorem Same.t {H H' : Hp} (h : Same H H') : SmT H H' := ⟨fun b o e _ => h b o e, fun b ps e => ⟨ps, h b _ e, id⟩⟩
theorem SmT.refl (H : Hp) : SmT H H := ⟨fun _ _ e _ => e, fun _ ps e => ⟨ps, e, id⟩⟩
theorem SmT.trans {H H1 H2 : Hp} (a : SmT H H1) (b : SmT H1 H2) : SmT H H2 := ⟨fun c o e z => b.st c o (a.st c o e z) z, fun c ps e => by
  obtain ⟨p1, e1, k1⟩ := a.tb c ps e
  obtain ⟨p2, e2, k2⟩ := b.tb c p1 e1
  exact ⟨p2, e2, fun h => k2 (k1 h)⟩⟩
theorem SmT.free {H H' : Hp} (h : SmT H H') {b : Addr} (e : H' b = none) : H b = none := by
  cases z : H b with
  | none => rfl
  | some o =>
    cases o with
    | tbl ps => obtain ⟨p, e1, _⟩ := h.tb b ps z; rw [e1] at e; cases e
    | _ => rw [h.st b _ z rfl] at e; cases e
theorem SmT.new {H H' : Hp} {x : Addr} {o : HO} (h : SmT H H') (hx : H x = none) : SmT H (upd H' x o) := ⟨fun b u e z => by
  rw [upd_ne (ne_of_none e hx)]; exact h.st b u e z, fun b ps e => by
  rw [upd_ne (ne_of_none e hx)]; exact h.tb b ps e⟩
theorem SmT.tab {H H' : Hp} {P : Addr} (h : SmT H H') (t : GxR.TabG H P) : GxR.TabG H' P := by
  obtain ⟨ps, e, k⟩ := t
  obtain ⟨p, e1, k1⟩ := h.tb P ps e
  exact ⟨p, e1, k1 k⟩
theorem SmT.of {H H' : Hp} {P : Addr} (t : GxR.TabG H P) (h : GxR.Tabbed P H H') : SmT H H' := by
  obtain ⟨ps, e, k⟩ := t
  obtain ⟨⟨p, e1, k1⟩, h2⟩ := h
  refine ⟨fun b o eb z => ?_, fun b q eb => ?_⟩
  · have hb : b ≠ P := fun y => by rw [y, e] at eb; cases eb; cases z
    rw [h2 b hb]; exact eb
  · by_cases hb : b = P
    · rw [hb]; exact ⟨p, e1, fun _ => k1⟩
    · exact ⟨q, by rw [h2 b hb]; exact eb, id⟩
end My

namespace My
open PySem PySem.Spec PyProof.Rows L2 SuX
local macro_rules | `(tactic| walk_at "hp") => `(tactic| first | assumption | exact upd_same | (refine Eq.trans (upd_ne (by first | assumption | (apply Ne.symm; assumption))) ?_; walk_at "hp"))
local macro_rules | `(tactic| walk_at "ixl") => `(tactic| (refine' ⟨_, ?xs, _, ?vv, rfl, rfl, SqL.of ?hh, ?aa, ?qq⟩; (case hh => walk_at "hp"); (case aa => rfl)))
local macro_rules | `(tactic| walk_at "setl") => `(tactic| (refine' ⟨_, ?xs, _, ?jj, rfl, rfl, ?hh, ?aa, ?qq⟩; (case hh => walk_at "hp"); (case aa => rfl)))
local macro_rules | `(tactic| walk_at "cond") => `(tactic| first | exact ⟨_, rfl⟩ | exact Nat.le_of_lt (small1000 (Nat.le_of_ble_eq_true rfl)) | decide | omega | (dsimp only; omega) | exact ⟨by decide, by decide⟩ | exact Or.inr ⟨by decide, by decide⟩ | exact Or.inl ⟨by decide, by decide⟩ | exact ⟨by decide, by decide, by decide⟩ | exact ⟨by omega, by omega⟩ | exact ⟨by omega, by omega, by omega⟩ | (simp only [List.length_cons, List.length_nil, List.length_append, List.length_take, List.length_drop]; omega) | (refine ⟨?_, ?_, ?_⟩ <;> first | decide | omega | (simp only [List.length_cons, List.length_nil, List.length_append, List.length_take, List.length_drop, Option.getD_some, Option.getD_none]; omega)))
local macro_rules | `(tactic| walk_at "st") => `(tactic| repeat (first | refine ⟨_, rfl, ?_⟩ | refine ⟨_, _, rfl, rfl, ?_⟩ | walk_at "ixl" | walk_at "setl" | refine ⟨rfl, ?_⟩ | refine Or.inl ⟨_, rfl, ?_⟩ | refine And.intro (by walk_at "cond") ?_))
/-! ### signs of names -/
def LET : List Nat := [97, 98, 99, 100, 101, 102, 103, 104, 105, 106, 107, 108, 109, 110, 111, 112, 113, 114, 115, 116, 117, 118, 119, 120, 121, 122, 65, 66, 67, 68, 69, 70, 71, 72, 73, 74, 75, 76, 77, 78, 79, 80, 81, 82, 83, 84, 85, 86, 87, 88, 89, 90]
def DIG : List Nat := [48, 49, 50, 51, 52, 53, 54, 55, 56, 57]
def wordc (c : Nat) : Bool := decide (c ∈ LET) || (decide (c ∈ DIG) || decide (c = 95))
def partB (l : List Nat) : Bool := !decide (l = []) && l.all wordc
/-- the parts of a name -/
structure WP (ps : List (List Nat)) : Prop where
  ne : ps ≠ []
  ok : ∀ p ∈ ps, partB p = true
  sz : (DN.dot ps).length ≤ 1000
theorem word46 : wordc 46 = false := by decide
theorem partB_gp {p : List Nat} (h : partB p = true) : p ≠ [] ∧ 46 ∉ p := by
  unfold partB at h
  rw [Bool.and_eq_true, Bool.not_eq_true', decide_eq_false_iff_not, List.all_eq_true] at h
  exact ⟨h.1, fun z => by have := h.2 46 z; rw [word46] at this; cases this⟩
theorem WP.gp {ps : List (List Nat)} (h : WP ps) : DN.GP ps := fun p hp => partB_gp (h.ok p hp)
/-- all over the signs of a text -/
theorem allW_str {X : Cx} {P : Addr} {x : Str} {i : Nat} {te : TE} {σ : L2.St} {H : Hp} {Q : VK} {l : List Nat} (f : Nat → Bool) (hi : σ[i]? = some (some (.str (SX.S l)))) (hT : GxR.TabG H P)
    (hq : ∀ H2, GxR.Tabbed P H H2 → Q (.bl (l.all f)) H2) (ht : ∀ (c : Nat) (H2 : Hp) (R : VK), R (.bl (f c)) H2 → te [some (.str (SX.S [c]))] H2 R) : GA.tAllW X P [x] 1 (iStr (tVar i)) (gName 0) te σ H Q := by
  refine ⟨_, hi, SX.S l, rfl, hT, fun H2 tb => ⟨l.length, fun i σ' H' => (∃ o, σ' = [o]) ∧ H' = H2 ∧ (l.take i).all f = true ∧ i ≤ l.length, ⟨⟨_, rfl⟩, rfl, rfl, Nat.zero_le _⟩, ?_⟩⟩
  rintro i σ' H' ⟨⟨o, rfl⟩, rfl, ha, hle⟩
  rcases Nat.lt_or_ge i l.length with h | h
  · refine .inr ⟨h, h, ?_⟩
    rintro v H'' ⟨rfl, c, hc, rfl⟩
    have hc' : l[i]? = some c := by
      have := hc
      rw [← Array.getElem?_toList] at this
      exact this
    refine ht c _ _ ?_
    have e2 : (l.take (i + 1)).all f = f c := by rw [take_snoc hc', List.all_append, ha]; simp
    cases hf : f c with
    | true => exact .inl ⟨rfl, ⟨_, rfl⟩, rfl, e2.trans hf, h⟩
    | false =>
      refine .inr ⟨rfl, ?_⟩
      have := hq _ tb
      have e3 : l.all f = false := by
        rw [← List.take_append_drop (i + 1) l, List.all_append, e2, hf, Bool.false_and]
      rw [e3] at this
      exact this
  · have e : i = l.length := Nat.le_antisymm hle h
    refine .inl ⟨e, h, ?_⟩
    rw [e, List.take_length] at ha
    have := hq _ tb
    rw [ha] at this
    exact this
/-- all over a list whose items all pass -/
theorem allW_listT {X : Cx} {K : PySem.W.Frag} {P a : Addr} {x : Str} {te : TE} {σ : L2.St} {H1 : Hp} {Q : VK} {xs : List V} (hl : H1 a = some (.lst xs)) (hT : GxR.TabG H1 P)
    (hq : ∀ H', SmT H1 H' → Q (.bl true) H') (ht : ∀ v ∈ xs, ∀ (H' : Hp) (R : VK), SmT H1 H' → (∀ H'', SmT H1 H'' → R (.bl true) H'') → te [some v] H' R) :
    ∃ (b : Addr), V.ref a = .ref b ∧ (∃ ys, SqL K H1 b ys) ∧ (GxR.TabG H1 P ∧ ∀ H2, GxR.Tabbed P H1 H2 →
      ∃ (Nn : Nat) (W : Nat → L2.St → Hp → Prop), W 0 (GA.caps X [x] 1 σ) H2 ∧ ∀ i σ' H', W i σ' H' → (i = Nn ∧ (Itl K b).stop i H' ∧ Q (.bl true) H') ∨
        (i < Nn ∧ (Itl K b).go i H' ∧ ∀ v H'', (Itl K b).yld i H' v H'' → gName 0 v σ' H'' fun σ2 H3 => te σ2 H3 fun v H4 => (v = .bl true ∧ W (i + 1) σ2 H4) ∨ (v = .bl false ∧ Q (.bl false) H4))) := by
  refine ⟨a, rfl, ⟨xs, SqL.of hl⟩, hT, fun H2 tb => ⟨xs.length, fun i σ' H' => (∃ o, σ' = [o]) ∧ SmT H1 H' ∧ i ≤ xs.length, ⟨⟨_, rfl⟩, .of hT tb, Nat.zero_le _⟩, ?_⟩⟩
  rintro i σ' H' ⟨⟨o, rfl⟩, sm, hle⟩
  have hl' := sm.st _ _ hl rfl
  rcases Nat.lt_or_ge i xs.length with h | h
  · refine .inr ⟨h, ⟨xs, xs[i], SqL.of hl', List.getElem?_eq_getElem h⟩, ?_⟩
    rintro v H'' ⟨rfl, hv⟩
    have hv' := hv xs (SqL.of hl')
    refine ht v (List.mem_of_getElem? hv') _ _ sm fun H3 sm3 => .inl ⟨rfl, ⟨_, rfl⟩, sm3, h⟩
  · have e : i = xs.length := Nat.le_antisymm hle h
    exact .inl ⟨e, ⟨xs, SqL.of hl', h⟩, hq _ sm⟩
section
variable {P : Program} {w : World} {K : PySem.W.Frag} {mg : Str → Option Value} {base : Heap}
def spWord : Sp := fun vs H Q _ => Hd (∃ c, vs = [.str (SX.S [c])] ∧ Q (.bl (wordc c)) H)
theorem ok_word (T : Txt K mg) : FnOk P w K mg base CX0 1 T.f_is_word_sign T.fd_is_word_sign ["sign"] spWord := by
  refine T.D_is_word_sign.F.ok sc_is_word_sign (fun vs H Q E h => ?_) (fun cdv A outer s H vs Q E hr h => ?_)
  · obtain ⟨c, rfl, _⟩ := h.out
    rfl
  · obtain ⟨c, rfl, k⟩ := h.out
    refine ⟨_, (pss_one (ps_ret (pe_or (pe_cmpR SL.op_inL (pv 0) (C8.pe_gc rfl T.k_LETTERS) rfl) (pe_or (pe_cmpR SL.op_inL (pv 0) (C8.pe_gc rfl T.k_DIGITS) rfl) (pe_one (pe_cmpR SL.op_eqL (pv 0) (SL.pe_strL [95] (by decide +kernel)) (nomark _))))))), ?_⟩
    walk_at "st"
    have e1 : SL.inL [c] LET = decide (c ∈ LET) := rfl
    have e2 : SL.inL [c] DIG = decide (c ∈ DIG) := rfl
    unfold wordc at k
    by_cases h1 : c ∈ LET
    · refine if_true_of (e1.trans (decide_eq_true h1)) ?_
      rw [decide_eq_true h1] at k
      exact k
    · refine if_false_of (e1.trans (decide_eq_false h1)) ?_
      rw [decide_eq_false h1] at k
      walk_at "st"
      by_cases h2 : c ∈ DIG
      · refine if_true_of (e2.trans (decide_eq_true h2)) ?_
        rw [decide_eq_true h2] at k
        exact k
      · refine if_false_of (e2.trans (decide_eq_false h2)) ?_
        rw [decide_eq_false h2] at k
        walk_at "st"
        have e3 : decide ([c] = [95]) = decide (c = 95) := by simp
        rw [e3]
        exact k
def spPart (PP : Addr) : Sp := fun vs H Q _ => Hd (∃ l, vs = [.str (SX.S l)] ∧ GxR.TabG H PP ∧ ∀ H', SmT H H' → Q (.bl (partB l)) H')
theorem ok_part (T : Txt K mg) (TP : GxR.TabB base mg T.cP T.PP) : FnOk P w K mg base CX0 3 T.f_is_part T.fd_is_part ["text"] (spPart T.PP) := by
  have G_is_word_sign : FnOk P w K mg base CX0 1 _ _ _ spWord := ok_word T
  refine T.W_P.ok sc_is_part (fun vs H Q E h => ?_) (fun A outer s H vs Q E hr h => ?_)
  · obtain ⟨l, rfl, _⟩ := h.out
    rfl
  · obtain ⟨l, rfl, hT, k⟩ := h.out
    refine ⟨_, PSs.nox (pss_one (ps_ret (pe_and (pe_cmpR SL.op_neL (pv 0) (SL.pe_strL [] (by decide +kernel)) (nomark _)) (pe_one (GA.pe_allW (N := ["sign"]) (nx := 1) (k := 1) (hr.mono (by first | decide | omega)) rfl T.B.n_all (by decide +kernel) TP rfl (GA.gsc0 rfl rfl rfl (by decide +kernel) (by decide)) (by decide) (pi_str (pv 0)) (fun _ _ _ _ _ _ _ => (pg_name (i := 0) (show (["sign"] : List Str).Nodup by decide +kernel) rfl (Or.inl rfl))) (fun _ _ _ _ _ _ hr => (pe_call G_is_word_sign (hr.mono (by first | decide | omega)) rfl T.D_is_word_sign.g T.D_is_word_sign.F.kp T.D_is_word_sign.b .nil pass0 (pa_cons (pv 0) pa_nil))) (fun _ => rfl)))))), ?_⟩
    walk_at "st"
    unfold partB at k
    by_cases h0 : l = []
    · refine if_false_of (by rw [decide_eq_true h0]; rfl) ?_
      have := k H (SmT.refl H)
      rw [decide_eq_true h0] at this
      exact this
    · refine if_true_of (by rw [decide_eq_false h0]; rfl) ?_
      refine allW_str wordc rfl hT (fun H2 tb => ?_) fun c H2 R hR => ?_
      · have := k H2 (.of hT tb)
        rw [decide_eq_false h0] at this
        exact this
      · walk_at "st"
        exact .a ⟨c, rfl, hR⟩
/-! ### dotted names -/
theorem isi_str {H : Hp} {x : Str} {b : Bool} {T : String} {Q : VK} (h : kitB "str" T = some b) (q : Q (.bl b) H) : rIsi K [.str x, .ty T] H Q := ⟨.str x, .ty T, _, _, b, rfl, .ty T, .base (.str x), kit_ty h, q⟩
def spDotted (PP PD : Addr) : Sp := fun vs H Q _ => Hd (∃ ps, vs = [.str (SX.S (DN.dot ps))] ∧ WP ps ∧ GxR.TabG H PP ∧ GxR.TabG H PD ∧ ∀ H', SmT H H' → Q (.bl true) H')
theorem ok_dotted (T : Txt K mg) (TP : GxR.TabB base mg T.cP T.PP) (TD : GxR.TabB base mg T.cD T.PD) : FnOk P w K mg base CX0 5 T.f_is_dotted T.fd_is_dotted ["thing"] (spDotted T.PP T.PD) := by
  have G_is_part : FnOk P w K mg base CX0 3 _ _ _ (spPart T.PP) := ok_part T TP
  refine T.W_D.ok sc_is_dotted (fun vs H Q E h => ?_) (fun A outer s H vs Q E hr h => ?_)
  · obtain ⟨ps, rfl, _⟩ := h.out
    rfl
  · obtain ⟨ps, rfl, wp, hP, hD, k⟩ := h.out
    refine ⟨_, PSs.nox (pss_one (ps_ret (pe_and (pe_callB call_isi (by rfl) T.B.n_isinstance (by decide +kernel) (pa_cons (pv 0) (pa_cons (pe_bltn (v := .ty "str") (u := .type "str") (by rfl) T.B.n_str (by decide +kernel) rfl) pa_nil))) (pe_one (GA.pe_allW (N := ["part"]) (nx := 1) (k := 3) (hr.mono (by first | decide | omega)) rfl T.B.n_all (by decide +kernel) TD rfl (GA.gsc0 rfl rfl rfl (by decide +kernel) (by decide)) (by decide) (pi_list (pe_bm PySem.F.plainAttrs_str PySem.F.slot_str_split PySem.F.type_str_split OQ.mt_splitD (pv 0) (pa_cons (SL.pe_strL [46] (by decide +kernel)) pa_nil))) (fun _ _ _ _ _ _ _ => (pg_name (i := 0) (show (["part"] : List Str).Nodup by decide +kernel) rfl (Or.inl rfl))) (fun _ _ _ _ _ _ hr => (pe_call G_is_part (hr.mono (by first | decide | omega)) rfl T.D_is_part.g T.D_is_part.F.kp T.D_is_part.b .nil pass0 (pa_cons (pv 0) pa_nil))) (fun _ => rfl)))))), ?_⟩
    walk_at "st"
    refine ⟨.str (SX.S (DN.dot ps)), .ty "str", _, _, true, rfl, .ty "str", .base (.str _), kit_ty (by decide +kernel), ?_⟩
    refine ⟨true, rfl, if_true_of rfl ?_⟩
    walk_at "st"
    refine ⟨wp.ne, wp.gp, Nat.le_trans wp.sz (by decide), fun p hp => ?_⟩
    have sm : SmT H (upd H p (.lst (ps.map fun q => V.str (SX.S q)))) := (SmT.refl H).new hp
    refine allW_listT upd_same (sm.tab hD) (fun H' s => k H' (sm.trans s)) fun v hv H' R s1 k1 => ?_
    obtain ⟨q, hq, rfl⟩ := List.mem_map.mp hv
    walk_at "st"
    refine .a ⟨q, rfl, (sm.trans s1).tab hP, fun H2 s2 => ?_⟩
    rw [wp.ok q hq]
    exact k1 H2 (s1.trans s2)
theorem ok_lname (T : Txt K mg) (TP : GxR.TabB base mg T.cP T.PP) (TD : GxR.TabB base mg T.cD T.PD) : FnOk P w K mg base CX0 6 T.f_is_logger_name T.fd_is_logger_name ["thing"] (spDotted T.PP T.PD) := by
  have G_is_dotted : FnOk P w K mg base CX0 5 _ _ _ (spDotted T.PP T.PD) := ok_dotted T TP TD
  refine T.D_is_logger_name.F.ok sc_is_logger_name (fun vs H Q E h => ?_) (fun cdv A outer s H vs Q E hr h => ?_)
  · obtain ⟨ps, rfl, _⟩ := h.out
    rfl
  · obtain ⟨ps, rfl, wp, hP, hD, k⟩ := h.out
    refine ⟨_, (pss_one (ps_ret (pe_or (pe_cmpR SL.op_eqL (pv 0) (SL.pe_strL [] (by decide +kernel)) (nomark _)) (pe_one (pe_call G_is_dotted (hr.mono (by first | decide | omega)) rfl T.D_is_dotted.g T.D_is_dotted.F.kp T.D_is_dotted.b .nil pass0 (pa_cons (pv 0) pa_nil)))))), ?_⟩
    walk_at "st"
    refine if_false_of (decide_eq_false (DN.dot_ne wp.ne wp.gp)) ?_
    walk_at "st"
    exact .a ⟨ps, rfl, wp, hP, hD, fun H' s1 => k H' s1⟩
end
end My

/-! the tree of loggers: names, parents -/
namespace LTr
open PySem PySem.Spec PyProof.Rows L2 SX
abbrev Nm : Type := List (List Nat)
structure Lg where
  nm : Nm
  a : Addr
  d : Addr
  h : Addr
  f : Addr
  lv : Int
  pp : Bool
  ds : Bool
def names (S : List Lg) : List Nm := S.map (·.nm)
/-- the longest beginning of at most k parts that there is -/
def nk (S : List Nm) (nm : Nm) : Nat → Nat
  | 0 => 0
  | k + 1 => if nm.take (k + 1) ∈ S then k + 1 else nk S nm k
theorem nk_le (S : List Nm) (nm : Nm) : ∀ k, nk S nm k ≤ k
  | 0 => Nat.le_refl _
  | k + 1 => by
    unfold nk
    split
    · exact Nat.le_refl _
    · exact Nat.le_succ_of_le (nk_le S nm k)
theorem nk_mem (S : List Nm) (nm : Nm) : ∀ k, nk S nm k ≠ 0 → nm.take (nk S nm k) ∈ S
  | 0, h => absurd rfl h
  | k + 1, h => by
    unfold nk at h ⊢
    split
    · rename_i z
      exact z
    · rename_i z
      rw [if_neg z] at h
      exact nk_mem S nm k h
theorem nk_max (S : List Nm) (nm : Nm) : ∀ k j, nk S nm k < j → j ≤ k → nm.take j ∉ S
  | 0, j, h1, h2 => absurd (Nat.lt_of_lt_of_le h1 h2) (Nat.lt_irrefl _)
  | k + 1, j, h1, h2 => by
    unfold nk at h1
    split at h1
    · exact absurd (Nat.lt_of_lt_of_le h1 h2) (Nat.lt_irrefl _)
    · rename_i z
      rcases Nat.lt_or_ge k j with q | q
      · rw [show j = k + 1 by omega]
        exact z
      · exact nk_max S nm k j h1 q
theorem nk_eq {S : List Nm} {nm : Nm} {k m : Nat} (h1 : m ≤ k) (h2 : m ≠ 0 → nm.take m ∈ S) (h3 : ∀ j, m < j → j ≤ k → nm.take j ∉ S) : nk S nm k = m := by
  rcases Nat.lt_trichotomy (nk S nm k) m with z | z | z
  · exact absurd (h2 (by omega)) (nk_max S nm k m z h1)
  · exact z
  · exact absurd (nk_mem S nm k (by omega)) (h3 _ z (nk_le S nm k))
/-- the parent's name; [] of the root -/
def parN (S : List Nm) (nm : Nm) : Nm := nm.take (nk S nm (nm.length - 1))
theorem parN_mem {S : List Nm} {nm : Nm} (h : parN S nm ≠ []) : parN S nm ∈ S := by
  refine nk_mem S nm _ fun z => h ?_
  unfold parN
  rw [z, List.take_zero]
theorem take_inj {nm : Nm} {i j : Nat} (hi : i ≤ nm.length) (hj : j ≤ nm.length) (e : nm.take i = nm.take j) : i = j := by
  have := congrArg List.length e
  rw [List.length_take, List.length_take] at this
  omega
open Classical in
/-- one more name -/
theorem parN_add {S : List Nm} {n nm : Nm} (hn : n ∉ S) (h0 : n ≠ []) (hm : nm ≠ []) :
    parN (S ++ [n]) nm = if (∃ r, r ≠ [] ∧ nm = n ++ r) ∧ parN S nm = parN S n then n else parN S nm := by
  have l0 : 0 < n.length := List.length_pos_iff.mpr h0
  have lm : 0 < nm.length := List.length_pos_iff.mpr hm
  have pl := nk_le S nm (nm.length - 1)
  by_cases hp : ∃ r, r ≠ [] ∧ nm = n ++ r
  · obtain ⟨r, hr, e⟩ := hp
    have lr : 0 < r.length := List.length_pos_iff.mpr hr
    have ln : nm.length = n.length + r.length := by rw [e, List.length_append]
    have tk : ∀ j, j ≤ n.length → nm.take j = n.take j := fun j hj => by rw [e, List.take_append_of_le_length hj]
    have tn : nm.take n.length = n := by rw [tk _ (Nat.le_refl _), List.take_length]
    rcases Nat.lt_trichotomy (nk S nm (nm.length - 1)) n.length with z | z | z
    · have e1 : nk S n (n.length - 1) = nk S nm (nm.length - 1) := nk_eq (by omega) (fun h => by
          rw [← tk _ (by omega)]
          exact nk_mem S nm _ h) fun j h1 h2 => by
          rw [← tk _ (by omega)]
          exact nk_max S nm _ j h1 (by omega)
      have e2 : parN S nm = parN S n := by
        unfold parN
        rw [e1, tk _ (by omega)]
      rw [if_pos ⟨⟨r, hr, e⟩, e2⟩]
      have e3 : nk (S ++ [n]) nm (nm.length - 1) = n.length := nk_eq (by omega) (fun _ => by rw [tn]; exact List.mem_append_right _ (List.mem_singleton.mpr rfl)) fun j h1 h2 q => by
        rcases List.mem_append.mp q with q | q
        · exact nk_max S nm _ j (by omega) h2 q
        · have := congrArg List.length (List.mem_singleton.mp q)
          rw [List.length_take] at this
          omega
      unfold parN
      rw [e3, tn]
    · exfalso
      have := nk_mem S nm (nm.length - 1) (by omega)
      rw [z, tn] at this
      exact hn this
    · have ne : parN S nm ≠ parN S n := fun q => by
        have q1 := congrArg List.length q
        unfold parN at q1
        have := nk_le S n (n.length - 1)
        rw [List.length_take, List.length_take] at q1
        omega
      rw [if_neg fun q => ne q.2]
      have e3 : nk (S ++ [n]) nm (nm.length - 1) = nk S nm (nm.length - 1) := nk_eq pl (fun h => List.mem_append_left _ (nk_mem S nm _ h)) fun j h1 h2 q => by
        rcases List.mem_append.mp q with q | q
        · exact nk_max S nm _ j h1 h2 q
        · have := congrArg List.length (List.mem_singleton.mp q)
          rw [List.length_take] at this
          omega
      unfold parN
      rw [e3]
  · rw [if_neg fun q => hp q.1]
    have e3 : nk (S ++ [n]) nm (nm.length - 1) = nk S nm (nm.length - 1) := nk_eq pl (fun h => List.mem_append_left _ (nk_mem S nm _ h)) fun j h1 h2 q => by
      rcases List.mem_append.mp q with q | q
      · exact nk_max S nm _ j h1 h2 q
      · refine hp ⟨nm.drop j, fun z => ?_, ?_⟩
        · have := congrArg List.length z
          rw [List.length_drop] at this
          simp at this
          omega
        · rw [← List.mem_singleton.mp q, List.take_append_drop]
    unfold parN
    rw [e3]
/-! ### loggers by their names -/
def getL (S : List Lg) (nm : Nm) : Option Lg := S.find? fun L => decide (L.nm = nm)
theorem getL_some {S : List Lg} {nm : Nm} {L : Lg} (h : getL S nm = some L) : L ∈ S ∧ L.nm = nm := ⟨List.mem_of_find?_eq_some h, by simpa using List.find?_some h⟩
theorem getL_none {S : List Lg} {nm : Nm} (h : getL S nm = none) : nm ∉ names S := fun z => by
  obtain ⟨L, hL, e⟩ := List.mem_map.mp z
  have := List.find?_eq_none.mp h L hL
  simp [e] at this
theorem getL_mem {S : List Lg} {L : Lg} (nd : (names S).Nodup) (h : L ∈ S) : getL S L.nm = some L := by
  cases q : getL S L.nm with
  | none => exact absurd (List.mem_map_of_mem h) (getL_none q)
  | some M =>
    obtain ⟨h1, h2⟩ := getL_some q
    congr 1
    clear q
    induction S with
    | nil => cases h
    | cons x r ih =>
      have nd' := List.nodup_cons.mp (show (x.nm :: names r).Nodup from nd)
      rcases List.mem_cons.mp h with e1 | h
      · rcases List.mem_cons.mp h1 with e2 | h1
        · rw [e1, e2]
        · rw [← e1, ← h2] at nd'
          exact absurd (List.mem_map_of_mem h1) nd'.1
      · rcases List.mem_cons.mp h1 with e2 | h1
        · rw [← e2, h2] at nd'
          exact absurd (List.mem_map_of_mem h) nd'.1
        · exact ih nd'.2 h h1
theorem getL_isSome {S : List Lg} {nm : Nm} : (getL S nm).isSome = decide (nm ∈ names S) := by
  cases q : getL S nm with
  | none => exact (decide_eq_false (getL_none q)).symm
  | some L =>
    obtain ⟨h1, h2⟩ := getL_some q
    exact (decide_eq_true (by rw [← h2]; exact List.mem_map_of_mem h1)).symm
def adr (rt : Addr) (S : List Lg) (nm : Nm) : Addr := match getL S nm with
  | some L => L.a
  | none => rt
theorem adr_of {rt : Addr} {S : List Lg} {nm : Nm} {L : Lg} (h : getL S nm = some L) : adr rt S nm = L.a := by
  unfold adr
  rw [h]
/-- the parent's object -/
def parA (rt : Addr) (S : List Lg) (nm : Nm) : Addr := adr rt S (parN (names S) nm)
/-- names, addresses -/
structure Wf (rt : Addr) (S : List Lg) : Prop where
  nn : (names S).Nodup
  an : (S.map (·.a)).Nodup
  rn : ∀ L ∈ S, L.a ≠ rt
  ne : ∀ L ∈ S, L.nm ≠ []
theorem Wf.no0 {rt : Addr} {S : List Lg} (w : Wf rt S) : getL S [] = none := by
  cases q : getL S [] with
  | none => rfl
  | some L =>
    obtain ⟨h1, h2⟩ := getL_some q
    exact absurd h2 (w.ne L h1)
theorem Wf.root {rt : Addr} {S : List Lg} (w : Wf rt S) : adr rt S [] = rt := by
  unfold adr
  rw [w.no0]
theorem an_inj : ∀ {S : List Lg}, (S.map (·.a)).Nodup → ∀ {L M : Lg}, L ∈ S → M ∈ S → L.a = M.a → L = M
  | [], _, _, _, h, _, _ => by cases h
  | x :: r, nd, L, M, hL, hM, e => by
    have nd' := List.nodup_cons.mp (show (x.a :: r.map (·.a)).Nodup from nd)
    rcases List.mem_cons.mp hL with e1 | hL
    · rcases List.mem_cons.mp hM with e2 | hM
      · rw [e1, e2]
      · rw [← e1, e] at nd'
        exact absurd (List.mem_map_of_mem hM) nd'.1
    · rcases List.mem_cons.mp hM with e2 | hM
      · rw [← e2, ← e] at nd'
        exact absurd (List.mem_map_of_mem hL) nd'.1
      · exact an_inj nd'.2 hL hM e
/-- names that there are, and the root's: by their objects -/
theorem Wf.adr_inj {rt : Addr} {S : List Lg} (w : Wf rt S) {n m : Nm} (hn : n = [] ∨ n ∈ names S) (hm : m = [] ∨ m ∈ names S) (e : adr rt S n = adr rt S m) : n = m := by
  have at_ : ∀ {k : Nm}, k ∈ names S → ∃ L ∈ S, L.nm = k ∧ adr rt S k = L.a := fun {k} hk => by
    obtain ⟨L, hL, rfl⟩ := List.mem_map.mp hk
    exact ⟨L, hL, rfl, adr_of (getL_mem w.nn hL)⟩
  rcases hn with rfl | hn
  · rcases hm with rfl | hm
    · rfl
    · obtain ⟨L, hL, _, e1⟩ := at_ hm
      rw [w.root, e1] at e
      exact absurd e.symm (w.rn L hL)
  · obtain ⟨L, hL, e2, e1⟩ := at_ hn
    rcases hm with rfl | hm
    · rw [w.root, e1] at e
      exact absurd e (w.rn L hL)
    · obtain ⟨M, hM, e3, e4⟩ := at_ hm
      rw [e1, e4] at e
      rw [← e2, ← e3, an_inj w.an hL hM e]
theorem parN_or (S : List Nm) (nm : Nm) : parN S nm = [] ∨ parN S nm ∈ S := by
  by_cases h : parN S nm = []
  · exact .inl h
  · exact .inr (parN_mem h)
theorem Wf.par_inj {rt : Addr} {S : List Lg} (w : Wf rt S) {n m : Nm} (e : parA rt S n = parA rt S m) : parN (names S) n = parN (names S) m :=
  w.adr_inj (parN_or _ _) (parN_or _ _) e
theorem getL_app {S : List Lg} {N : Lg} {nm : Nm} (h : nm ≠ N.nm) : getL (S ++ [N]) nm = getL S nm := by
  unfold getL
  rw [List.find?_append]
  have : [N].find? (fun L => decide (L.nm = nm)) = none := by simp [Ne.symm h]
  rw [this, Option.or_none]
theorem names_app (S : List Lg) (N : Lg) : names (S ++ [N]) = names S ++ [N.nm] := by
  unfold names
  rw [List.map_append]
  rfl
theorem adr_new {rt : Addr} {S : List Lg} {N : Lg} (h : N.nm ∉ names S) : adr rt (S ++ [N]) N.nm = N.a := by
  have q : getL S N.nm = none := by
    cases q : getL S N.nm with
    | none => rfl
    | some L =>
      obtain ⟨h1, h2⟩ := getL_some q
      exact absurd (by rw [← h2]; exact List.mem_map_of_mem h1) h
  unfold adr getL
  rw [List.find?_append]
  unfold getL at q
  rw [q]
  simp
open Classical in
/-- the parents when one more logger is there -/
theorem Wf.parA_add {rt : Addr} {S : List Lg} (w : Wf rt S) {N : Lg} {nm : Nm} (h : N.nm ∉ names S) (h0 : N.nm ≠ []) (hm : nm ≠ []) :
    parA rt (S ++ [N]) nm = if (∃ r, r ≠ [] ∧ nm = N.nm ++ r) ∧ parA rt S nm = parA rt S N.nm then N.a else parA rt S nm := by
  have e := parN_add (S := names S) h h0 hm
  unfold parA
  rw [names_app, e]
  by_cases c : (∃ r, r ≠ [] ∧ nm = N.nm ++ r) ∧ parN (names S) nm = parN (names S) N.nm
  · rw [if_pos c, if_pos ⟨c.1, by rw [c.2]⟩, adr_new h]
  · rw [if_neg c, if_neg fun q => c ⟨q.1, w.par_inj q.2⟩]
    unfold adr
    rw [getL_app]
    intro z
    rcases parN_or (names S) nm with q | q
    · rw [q] at z
      exact h0 z.symm
    · rw [z] at q
      exact h q
theorem Wf.parA_self {rt : Addr} {S : List Lg} (w : Wf rt S) {N : Lg} (h : N.nm ∉ names S) (h0 : N.nm ≠ []) : parA rt (S ++ [N]) N.nm = parA rt S N.nm := by
  rw [w.parA_add h h0 h0, if_neg]
  rintro ⟨⟨r, hr, e⟩, _⟩
  have := congrArg List.length e
  rw [List.length_append] at this
  have := List.length_pos_iff.mpr hr
  omega
theorem Wf.add {rt : Addr} {S : List Lg} (w : Wf rt S) {N : Lg} (h : N.nm ∉ names S) (h0 : N.nm ≠ []) (h1 : N.a ∉ S.map (·.a)) (h2 : N.a ≠ rt) : Wf rt (S ++ [N]) where
  nn := by
    rw [names_app, List.nodup_append]
    exact ⟨w.nn, List.nodup_cons.mpr ⟨List.not_mem_nil, List.nodup_nil⟩, fun a ha b hb e => h (by rw [← List.mem_singleton.mp hb, ← e]; exact ha)⟩
  an := by
    rw [List.map_append, List.nodup_append]
    exact ⟨w.an, List.nodup_cons.mpr ⟨List.not_mem_nil, List.nodup_nil⟩, fun a ha b hb e => h1 (by rw [← (List.mem_singleton.mp hb : b = N.a), ← e]; exact ha)⟩
  rn := fun L hL => (List.mem_append.mp hL).elim (w.rn L) fun z => by rw [List.mem_singleton.mp z]; exact h2
  ne := fun L hL => (List.mem_append.mp hL).elim (w.ne L) fun z => by rw [List.mem_singleton.mp z]; exact h0
end LTr

namespace SO
open PySem PySem.Spec PyProof.Rows L2
theorem rising_le : ∀ (r : List Str) (p : Str), risingS p r = true → ∀ x ∈ r, ltCps x.cps.toList p.cps.toList = false
  | [], _, _, x, hx => absurd hx List.not_mem_nil
  | y :: r, p, h, x, hx => by
    unfold risingS at h
    rw [Bool.and_eq_true, Bool.not_eq_true'] at h
    rcases List.mem_cons.mp hx with rfl | hx
    · exact h.1
    · have h2 := rising_le r y h.2 x hx
      have h1 := h.1
      rw [ltCps_eq, decide_eq_false_iff_not] at h1 h2 ⊢
      intro z
      have l1 : p.cps.toList ≤ y.cps.toList := h1
      have l2 : y.cps.toList ≤ x.cps.toList := h2
      exact (List.le_trans l1 l2) z
theorem rising_tail {p : Str} {r : List Str} (h : risingS p r = true) : sortedS r = true := by
  cases r with
  | nil => rfl
  | cons y r =>
    unfold risingS at h
    rw [Bool.and_eq_true] at h
    exact h.2
theorem sorted_uniq : ∀ (a b : List Str), a.Perm b → sortedS a = true → sortedS b = true → a = b
  | [], b, h, _, _ => (List.Perm.eq_nil h.symm).symm
  | x :: r, b, h, h1, h2 => by
    cases b with
    | nil => exact absurd h.length_eq (by simp)
    | cons y t =>
      have exy : x = y := by
        have hx : x ∈ y :: t := h.mem_iff.mp List.mem_cons_self
        have hy : y ∈ x :: r := h.mem_iff.mpr List.mem_cons_self
        rcases List.mem_cons.mp hx with e | hx
        · exact e
        · rcases List.mem_cons.mp hy with e | hy
          · exact e.symm
          · have l1 := rising_le t y h2 x hx
            have l2 := rising_le r x h1 y hy
            rw [ltCps_eq, decide_eq_false_iff_not] at l1 l2
            have e : x.cps.toList = y.cps.toList := List.le_antisymm (show x.cps.toList ≤ y.cps.toList from l2) (show y.cps.toList ≤ x.cps.toList from l1)
            have q : x.cps = y.cps := Array.toList_inj.mp e
            cases x; cases y; exact congrArg Str.mk q
      subst exy
      rw [sorted_uniq r t (h.cons_inv) (rising_tail h1) (rising_tail h2)]
theorem sorted_pw : ∀ {l : List Str}, sortedS l = true → l.Pairwise (fun a b => ltCps b.cps.toList a.cps.toList = false)
  | [], _ => List.Pairwise.nil
  | x :: r, h => List.pairwise_cons.mpr ⟨fun y hy => rising_le r x h y hy, sorted_pw (rising_tail h)⟩
theorem sorted_filter {ls : List (List Nat)} {p : List Nat → Bool} (h : sortedS (ls.map SX.S) = true) : sortedS ((ls.filter p).map SX.S) = true :=
  sortedS_of_pairwise _ ((sorted_pw h).sublist (List.Sublist.map _ List.filter_sublist))
theorem nd_of {α β : Type} {f : α → β} (hf : ∀ a b, f a = f b → a = b) : ∀ {l : List α}, l.Nodup → (l.map f).Nodup
  | [], _ => List.nodup_nil
  | a :: r, h => by
    have h' := List.nodup_cons.mp h
    refine List.nodup_cons.mpr ⟨fun z => ?_, nd_of hf h'.2⟩
    obtain ⟨x, hx, e⟩ := List.mem_map.mp z
    exact h'.1 (by rw [← hf _ _ e]; exact hx)
theorem perm_map_inj {α β : Type} [DecidableEq α] [DecidableEq β] {f : α → β} (hf : ∀ a b, f a = f b → a = b) {l r : List α} (h : (l.map f).Perm (r.map f)) : l.Perm r := by
  rw [List.perm_iff_count] at h ⊢
  intro a
  have q : ∀ l : List α, (l.map f).count (f a) = l.count a := fun l => by
    induction l with
    | nil => rfl
    | cons b t ih =>
      rw [List.map_cons, List.count_cons, List.count_cons, ih]
      by_cases e : b = a
      · rw [e]; simp
      · have : f b ≠ f a := fun z => e (hf _ _ z)
        simp [e, this]
  have := h (f a)
  rwa [q, q] at this
theorem perm_S : ∀ {ls : List (List Nat)} {ys : List Str}, ys.Perm (ls.map SX.S) → ∃ ks : List (List Nat), ks.Perm ls ∧ ys = ks.map SX.S := fun {ls ys} h => by
  have q : ∀ y ∈ ys, ∃ k, y = SX.S k := fun y hy => by
    obtain ⟨k, _, e⟩ := List.mem_map.mp (h.mem_iff.mp hy)
    exact ⟨k, e.symm⟩
  obtain ⟨ks, hk⟩ : ∃ ks : List (List Nat), ys = ks.map SX.S := by
    clear h
    induction ys with
    | nil => exact ⟨[], rfl⟩
    | cons y r ih =>
      obtain ⟨k, e⟩ := q y List.mem_cons_self
      obtain ⟨ks, e2⟩ := ih fun z hz => q z (List.mem_cons_of_mem _ hz)
      exact ⟨k :: ks, by rw [e, e2]; rfl⟩
  refine ⟨ks, ?_, hk⟩
  rw [hk] at h
  exact perm_map_inj (fun a b => SX.S_inj) h
end SO

namespace My
open PySem PySem.Spec PyProof.Rows L2 SuX LTr DN
local macro_rules | `(tactic| walk_at "hp") => `(tactic| first | assumption | exact upd_same | (refine Eq.trans (upd_ne (by first | assumption | (apply Ne.symm; assumption))) ?_; walk_at "hp"))
local macro_rules | `(tactic| walk_at "ixl") => `(tactic| (refine' ⟨_, ?xs, _, ?vv, rfl, rfl, SqL.of ?hh, ?aa, ?qq⟩; (case hh => walk_at "hp"); (case aa => rfl)))
local macro_rules | `(tactic| walk_at "setl") => `(tactic| (refine' ⟨_, ?xs, _, ?jj, rfl, rfl, ?hh, ?aa, ?qq⟩; (case hh => walk_at "hp"); (case aa => rfl)))
local macro_rules | `(tactic| walk_at "cond") => `(tactic| first | exact ⟨_, rfl⟩ | exact Nat.le_of_lt (small1000 (Nat.le_of_ble_eq_true rfl)) | decide | omega | (dsimp only; omega) | exact ⟨by decide, by decide⟩ | exact Or.inr ⟨by decide, by decide⟩ | exact Or.inl ⟨by decide, by decide⟩ | exact ⟨by decide, by decide, by decide⟩ | exact ⟨by omega, by omega⟩ | exact ⟨by omega, by omega, by omega⟩ | (simp only [List.length_cons, List.length_nil, List.length_append, List.length_take, List.length_drop]; omega) | (refine ⟨?_, ?_, ?_⟩ <;> first | decide | omega | (simp only [List.length_cons, List.length_nil, List.length_append, List.length_take, List.length_drop, Option.getD_some, Option.getD_none]; omega)))
local macro_rules | `(tactic| walk_at "st") => `(tactic| repeat (first | refine ⟨_, rfl, ?_⟩ | refine ⟨_, _, rfl, rfl, ?_⟩ | walk_at "ixl" | walk_at "setl" | refine ⟨rfl, ?_⟩ | refine Or.inl ⟨_, rfl, ?_⟩ | refine And.intro (by walk_at "cond") ?_))
local macro_rules | `(tactic| walk_at "cls") => `(tactic| first | exact OC.cl (by assumption) | exact (‹Txt _ _›).o_Clock.cl | exact (‹Txt _ _›).o_LevelTable.cl | exact (‹Txt _ _›).o_Store.cl | exact (‹Txt _ _›).o_Written.cl | exact (‹Txt _ _›).o_Roster.cl | exact (‹Txt _ _›).o_Handler.cl | exact (‹Txt _ _›).o_Logger.cl | exact (‹Txt _ _›).o_LoggerTree.cl | exact (‹Txt _ _›).o_StreamHandler.cl | exact (‹Txt _ _›).o_Yard.cl)
local macro_rules | `(tactic| walk_at "na") => `(tactic| first | (refine na_of (by assumption) ?_; decide) | (refine na_of (‹Txt _ _›).o_Clock ?_; decide) | (refine na_of (‹Txt _ _›).o_LevelTable ?_; decide) | (refine na_of (‹Txt _ _›).o_Store ?_; decide) | (refine na_of (‹Txt _ _›).o_Written ?_; decide) | (refine na_of (‹Txt _ _›).o_Roster ?_; decide) | (refine na_of (‹Txt _ _›).o_Handler ?_; decide) | (refine na_of (‹Txt _ _›).o_Logger ?_; decide) | (refine na_of (‹Txt _ _›).o_LoggerTree ?_; decide) | (refine na_of (‹Txt _ _›).o_StreamHandler ?_; decide) | (refine na_of (‹Txt _ _›).o_Yard ?_; decide))
local macro_rules | `(tactic| walk_at "fld") => `(tactic| (refine' ⟨_, _, _, _, ?vv, rfl, ?hh, ?cc, ?nn, ?ll, ?qq⟩; (case hh => walk_at "hp"); (case cc => walk_at "cls"); (case nn => walk_at "na"); (case ll => exact rfl)))
local macro_rules | `(tactic| walk_at "sto") => `(tactic| (refine' ⟨_, _, _, _, rfl, ?hh, ?cc, ?nn, ?ll, ?qq⟩; (case hh => walk_at "hp"); (case cc => walk_at "cls"); (case nn => walk_at "na"); (case ll => first | exact Nat.le_of_ble_eq_true rfl | assumption)))
local macro_rules | `(tactic| walk_at "mth") => `(tactic| (refine' ⟨_, _, _, rfl, ?hh, ?ll, ?qq⟩; (case hh => walk_at "hp"); (case ll => exact rfl)))
local macro_rules | `(tactic| walk_at "sx") => `(tactic| repeat (first | refine ⟨_, rfl, ?_⟩ | refine ⟨_, _, rfl, rfl, ?_⟩ | walk_at "ixl" | walk_at "setl" | refine ⟨rfl, ?_⟩ | refine Or.inl ⟨_, rfl, ?_⟩ | walk_at "fld" | walk_at "sto" | walk_at "mth" | refine And.intro (by walk_at "cond") ?_))
/-- the tree's addresses, and the root's words -/
structure TA where
  (tr dtr y lv ck lr nd rt drt rh rf : Addr)
  bar : Int
  rlv : Int
  rpp : Bool
  rds : Bool
def fTrG (A : TA) : List (Str × V) := [("yard", .ref A.y), ("levels", .ref A.lv), ("clock", .ref A.ck), ("last_resort", .ref A.lr), ("barred", .int A.bar), ("named", .ref A.nd), ("root", .ref A.rt)]
def fLgG (t y : Addr) (n : List Nat) (lv : Int) (pp ds : Bool) (h f : Addr) (p : V) : List (Str × V) := [("tree", .ref t), ("yard", .ref y), ("name", .str (SX.S n)), ("level", .int lv), ("propagate", .bl pp), ("disabled", .bl ds), ("handlers", .ref h), ("filters", .ref f), ("parent", p)]
abbrev fLgr (A : TA) (L : Lg) (p : V) : List (Str × V) := fLgG A.tr A.y (dot L.nm) L.lv L.pp L.ds L.h L.f p
theorem dot_take_le : ∀ (ps : Nm) (k : Nat), (dot (ps.take k)).length ≤ (dot ps).length
  | [], k => by simp
  | p :: r, 0 => by rw [List.take_zero]; exact Nat.zero_le _
  | p :: r, k + 1 => by
    rw [List.take_succ_cons]
    by_cases h1 : r = []
    · subst h1; simp
    · rw [dot_cons p h1]
      by_cases h2 : r.take k = []
      · rw [h2, dot_one, List.length_append]; omega
      · rw [dot_cons p h2, List.length_append, List.length_append, List.length_cons, List.length_cons]
        have := dot_take_le r k
        omega
def kvN (S : List Lg) : List (Key × V) := S.map fun L => (Sum.inr (SX.S (dot L.nm)), V.ref L.a)
structure TreeAt {K : PySem.W.Frag} {mg : Str → Option Value} (T : Txt K mg) (H : Hp) (A : TA) (S : List Lg) : Prop where
  tr : H A.tr = some (.ins T.C_LoggerTree A.dtr (fTrG A))
  nd : H A.nd = some (.dK (kvN S))
  rt : H A.rt = some (.ins T.C_Logger A.drt (fLgG A.tr A.y sRoot A.rlv A.rpp A.rds A.rh A.rf .non))
  lg : ∀ L ∈ S, H L.a = some (.ins T.C_Logger L.d (fLgr A L (.ref (parA A.rt S L.nm))))
  wp : ∀ L ∈ S, WP L.nm
  wf : Wf A.rt S
  sz : S.length ≤ 60
theorem kvN_at (S : List Lg) (hS : ∀ L ∈ S, GP L.nm) {nm : Nm} (hn : GP nm) : valV (kvN S) (Sum.inr (SX.S (dot nm)) : Key) = (getL S nm).map fun L => V.ref L.a := by
  induction S with
  | nil => rfl
  | cons L r ih =>
    have ih' := ih fun M hM => hS M (List.mem_cons_of_mem _ hM)
    by_cases h : L.nm = nm
    · have e1 : getL (L :: r) nm = some L := by simp [getL, h]
      rw [e1]
      show valV ((Sum.inr (SX.S (dot L.nm)), V.ref L.a) :: kvN r) _ = _
      rw [h]
      simp [valV]
    · have e1 : getL (L :: r) nm = getL r nm := by simp [getL, h]
      rw [e1, ← ih']
      have ne : (Sum.inr (SX.S (dot L.nm)) : Key) ≠ Sum.inr (SX.S (dot nm)) := fun z => h (dot_inj (hS L List.mem_cons_self) hn (SX.S_inj (Sum.inr.inj z)))
      show valV ((Sum.inr (SX.S (dot L.nm)), V.ref L.a) :: kvN r) _ = _
      simp [valV, ne]
theorem TreeAt.gp {K : PySem.W.Frag} {mg : Str → Option Value} {T : Txt K mg} {H : Hp} {A : TA} {S : List Lg} (t : TreeAt T H A S) : ∀ L ∈ S, GP L.nm := fun L hL => (t.wp L hL).gp
theorem TreeAt.at_ {K : PySem.W.Frag} {mg : Str → Option Value} {T : Txt K mg} {H : Hp} {A : TA} {S : List Lg} (t : TreeAt T H A S) {nm : Nm} (hn : GP nm) : valV (kvN S) (Sum.inr (SX.S (dot nm)) : Key) = (getL S nm).map fun L => V.ref L.a := kvN_at S t.gp hn
theorem TreeAt.same {K : PySem.W.Frag} {mg : Str → Option Value} {T : Txt K mg} {H H' : Hp} {A : TA} {S : List Lg} (t : TreeAt T H A S) (s : SmT H H') : TreeAt T H' A S :=
  ⟨s.st _ _ t.tr rfl, s.st _ _ t.nd rfl, s.st _ _ t.rt rfl, fun L hL => s.st _ _ (t.lg L hL) rfl, t.wp, t.wf, t.sz⟩
section
variable {P : Program} {w : World} {K : PySem.W.Frag} {mg : Str → Option Value} {base : Heap}
/-! ### nearest -/
def spNearest (T : Txt K mg) : Sp := fun vs H Q _ => Hd (∃ (A : TA) (S : List Lg) (nm : Nm), vs = [.ref A.tr, .str (SX.S (dot nm))] ∧ TreeAt T H A S ∧ WP nm ∧ ∀ H', Same H H' → Q (.ref (parA A.rt S nm)) H')
theorem ok_nearest (T : Txt K mg) : FnOk P w K mg base CX0 1 T.a_LoggerTree_nearest T.fd_LoggerTree_nearest ["self", "name"] (spNearest T) := by
  refine T.F_LoggerTree_nearest.ok sc_LoggerTree_nearest (fun vs H Q E h => ?_) (fun cdv A outer s H vs Q E hr h => ?_)
  · obtain ⟨A, S, nm, rfl, _⟩ := h.out
    rfl
  · obtain ⟨A, S, nm, rfl, t, wp, k⟩ := h.out
    have hu := hu_of hr
    refine ⟨_, (pss_cons (ps_set (i := 2) sc_LoggerTree_nearest.nd rfl (by first | exact Or.inl rfl | exact Or.inr rfl) (pe_ix ix_tup (pe_bm PySem.F.plainAttrs_str PySem.F.slot_str_rpartition PySem.F.type_str_rpartition OQ.mt_rpart (pv 1) (pa_cons (SL.pe_strL [46] (by decide +kernel)) pa_nil)) pe_int (fun _ _ => rfl)))
  (pss_cons (ps_while PassesOwn.never (PW.pt (pw_and (pt_cmpR SL.op_neL (pv 2) (SL.pe_strL [] (by decide +kernel)) (nomark _)) (pw_and1 (pt_cmp (pc_dnotin hu (pv 2) (pe_fld (pv 0) rfl))))))
    (pss_one (ps_set (i := 2) sc_LoggerTree_nearest.nd rfl (by first | exact Or.inl rfl | exact Or.inr rfl) (pe_ix ix_tup (pe_bm PySem.F.plainAttrs_str PySem.F.slot_str_rpartition PySem.F.type_str_rpartition OQ.mt_rpart (pv 2) (pa_cons (SL.pe_strL [46] (by decide +kernel)) pa_nil)) pe_int (fun _ _ => rfl)))))
  (pss_one (ps_ret (pe_ifExp (pt_cmpR SL.op_neL (pv 2) (SL.pe_strL [] (by decide +kernel)) (nomark _)) (pe_dget hu (pe_fld (pv 0) rfl) (pv 2) (fun _ _ => rfl)) (pe_fld (pv 0) rfl)))))), ?_⟩
    walk_at "sx"
    refine ⟨wp.ne, wp.gp, Nat.le_trans wp.sz (by decide), fun p a b hp => ?_⟩
    have sm : Same H (upd H p (.tup [.str (SX.S (dot nm.dropLast)), .str a, .str b])) := same_new hp
    refine ⟨p, _, 0, _, rfl, rfl, SqT.of upd_same, rfl, ?_⟩
    generalize upd H p (.tup [.str (SX.S (dot nm.dropLast)), .str a, .str b]) = H1 at sm
    have lm : 0 < nm.length := List.length_pos_iff.mpr wp.ne
    rw [List.dropLast_eq_take]
    refine while_ex (fun m σ H1 => ∃ k, m = k ∧ k ≤ nm.length - 1 ∧ σ = [some (.ref A.tr), some (.str (SX.S (dot nm))), some (.str (SX.S (dot (nm.take k))))] ∧ Same H H1 ∧ nk (names S) nm (nm.length - 1) = nk (names S) nm k)
      (fun σ H1 => σ = [some (.ref A.tr), some (.str (SX.S (dot nm))), some (.str (SX.S (dot (parN (names S) nm))))] ∧ Same H H1) ⟨_, nm.length - 1, rfl, Nat.le_refl _, rfl, sm, rfl⟩ ?_ ?_
    · rintro σ H2 ⟨rfl, sm2⟩
      have htr := sm2 _ _ t.tr
      have hnd := sm2 _ _ t.nd
      walk_at "sx"
      by_cases h0 : parN (names S) nm = []
      · refine if_false_of (by rw [h0]; rfl) ?_
        walk_at "sx"
        have := k H2 sm2
        unfold parA at this
        rw [h0, t.wf.root] at this
        exact this
      · have gpar : GP (parN (names S) nm) := wp.gp.take _
        refine if_true_of (by rw [decide_eq_false (dot_ne h0 gpar)]; rfl) ?_
        walk_at "sx"
        have hm := parN_mem h0
        obtain ⟨L, hL, eL⟩ := List.mem_map.mp hm
        have hg : getL S (parN (names S) nm) = some L := by rw [← eL]; exact getL_mem t.wf.nn hL
        refine ⟨A.nd, .ref L.a, rfl, by have g := DGet.k (k := Sum.inr (SX.S (dot (parN (names S) nm)))) hnd; rw [t.at_ gpar, hg] at g; exact g, ?_⟩
        have := k H2 sm2
        unfold parA at this
        rw [adr_of hg] at this
        exact this
    · rintro R fin m σ H2 ⟨k, rfl, hk, rfl, sm2, ek⟩ NW hNW
      have htr := sm2 _ _ t.tr
      have hnd := sm2 _ _ t.nd
      have gk : GP (nm.take m) := wp.gp.take _
      walk_at "sx"
      by_cases h0 : m = 0
      · refine if_false_of (by rw [h0]; rfl) ?_
        refine if_false_of rfl ?_
        refine fin _ _ ⟨?_, sm2⟩
        have e : parN (names S) nm = nm.take m := by
          unfold parN
          rw [ek, h0]
          rfl
        rw [e]
      · have hne : nm.take m ≠ [] := fun z => by
          have := congrArg List.length z
          rw [List.length_take, List.length_nil] at this
          omega
        refine if_true_of (by rw [decide_eq_false (dot_ne hne gk)]; rfl) ?_
        walk_at "sx"
        refine ⟨A.nd, _, rfl, DGet.k (k := Sum.inr (SX.S (dot (nm.take m)))) hnd, ?_⟩
        rw [t.at_ gk, Option.isSome_map, getL_isSome]
        refine ⟨_, rfl, ?_⟩
        obtain ⟨m, rfl⟩ : ∃ j, m = j + 1 := ⟨m - 1, by omega⟩
        by_cases hin : nm.take (m + 1) ∈ names S
        · refine if_false_of (c := !decide (nm.take (m + 1) ∈ names S)) (by rw [decide_eq_true hin]; rfl) ?_
          refine fin _ _ ⟨?_, sm2⟩
          have e : parN (names S) nm = nm.take (m + 1) := by
            unfold parN
            rw [ek]
            unfold nk
            rw [if_pos hin]
          rw [e]
        · refine if_true_of (c := !decide (nm.take (m + 1) ∈ names S)) (by rw [decide_eq_false hin]; rfl) ⟨NW, by rw [hNW]; exact fun _ _ => Hd.out, ?_⟩
          walk_at "sx"
          refine ⟨?_, fun p a b hp => ?_⟩
          · refine Nat.le_trans (Nat.le_trans ?_ wp.sz) (by decide)
            exact dot_take_le nm (m + 1)
          · walk_at "sx"
            refine ⟨p, _, 0, _, rfl, rfl, SqT.of upd_same, rfl, ?_⟩
            walk_at "sx"
            rw [hNW]
            refine .a ⟨m, Nat.lt_succ_self _, m, rfl, by omega, ?_, same_put sm2 (sm2.free hp), ?_⟩
            · rw [List.dropLast_eq_take, List.length_take, List.take_take, show min (min (m + 1) nm.length - 1) (m + 1) = m by omega]
              rfl
            · rw [ek]
              show nk (names S) nm (m + 1) = _
              conv => lhs; unfold nk
              rw [if_neg hin]
/-! ### the names, the loggers in their order -/
def spLoggers (T : Txt K mg) : Sp := fun vs H Q _ => Hd (∃ (A : TA) (S : List Lg), vs = [.ref A.tr] ∧ TreeAt T H A S ∧ ∀ (ns : List Nm) p, ns.Perm (names S) → sortedS ((ns.map dot).map SX.S) = true → H p = none → Q (.ref p) (upd H p (.lst ((ns.map dot).map fun l => V.str (SX.S l)))))
theorem ok_loggers (T : Txt K mg) : FnOk P w K mg base CX0 1 T.a_LoggerTree_loggers T.fd_LoggerTree_loggers ["self"] (spLoggers T) := by
  refine T.F_LoggerTree_loggers.ok sc_LoggerTree_loggers (fun vs H Q E h => ?_) (fun cdv A outer s H vs Q E hr h => ?_)
  · obtain ⟨A, S, rfl, _⟩ := h.out
    rfl
  · obtain ⟨A, S, rfl, t, kQ⟩ := h.out
    have hu := hu_of hr
    have htr := t.tr
    have hnd := t.nd
    refine ⟨_, (pss_one (ps_ret (pe_callB (call_sortedD rfl) (by rfl) T.B.n_sorted (by decide +kernel) (pa_cons (pe_fld (pv 0) rfl) pa_nil)))), ?_⟩
    walk_at "sx"
    refine ⟨A.nd, kvN S, ((names S).map dot).map SX.S, rfl, .inl hnd, ?_, by have := t.sz; simp [names]; omega, fun ys p hp hs hn => ?_⟩
    · unfold kvN names; rw [List.map_map, List.map_map, List.map_map, List.map_map]; rfl
    obtain ⟨ks, pk, rfl⟩ := SO.perm_S hp
    have q : ∀ k ∈ ks, ∃ n ∈ names S, k = dot n := fun k hk => by
      obtain ⟨n, hn, e⟩ := List.mem_map.mp (pk.mem_iff.mp hk)
      exact ⟨n, hn, e.symm⟩
    obtain ⟨ns, hns, e⟩ : ∃ ns : List Nm, (∀ n ∈ ns, n ∈ names S) ∧ ks = ns.map dot := by
      clear pk hs hp
      induction ks with
      | nil => exact ⟨[], fun _ h => absurd h List.not_mem_nil, rfl⟩
      | cons k r ih =>
        obtain ⟨n, hn, e⟩ := q k List.mem_cons_self
        obtain ⟨ns, h1, e2⟩ := ih fun z hz => q z (List.mem_cons_of_mem _ hz)
        exact ⟨n :: ns, fun m hm => (List.mem_cons.mp hm).elim (fun z => by rw [z]; exact hn) (h1 m), by rw [e, e2]; rfl⟩
    subst e
    have gn : ∀ n ∈ names S, GP n := fun n hn => by
      obtain ⟨L, hL, rfl⟩ := List.mem_map.mp hn
      exact t.gp L hL
    have pn : ns.Perm (names S) := by
      have c1 := pk
      rw [List.perm_iff_count] at c1 ⊢
      intro a
      by_cases ha : GP a
      · have cnt : ∀ l : List Nm, (∀ n ∈ l, GP n) → (l.map dot).count (dot a) = l.count a := fun l hl => by
          induction l with
          | nil => rfl
          | cons b r ih =>
            rw [List.map_cons, List.count_cons, List.count_cons, ih fun n hn => hl n (List.mem_cons_of_mem _ hn)]
            by_cases e : b = a
            · rw [e]; simp
            · have : dot b ≠ dot a := fun z => e (dot_inj (hl b List.mem_cons_self) ha z)
              simp [e, this]
        have := c1 (dot a)
        rwa [cnt _ fun n hn => gn n (hns n hn), cnt _ gn] at this
      · rw [List.count_eq_zero_of_not_mem fun z => ha (gn a (hns a z)), List.count_eq_zero_of_not_mem fun z => ha (gn a z)]
    have := kQ ns p pn hs hn
    rw [show ((ns.map dot).map SX.S).map V.str = (ns.map dot).map (fun l => V.str (SX.S l)) by rw [List.map_map]; rfl]
    exact this
def spMade (T : Txt K mg) : Sp := fun vs H Q _ => Hd (∃ (A : TA) (S : List Lg), vs = [.ref A.tr] ∧ TreeAt T H A S ∧ ∀ H' (ns : List Nm) p, ns.Perm (names S) → sortedS ((ns.map dot).map SX.S) = true → H p = none → Same H H' → H' p = some (.lst (ns.map fun n => V.ref (adr A.rt S n))) → Q (.ref p) H')
theorem ok_made (T : Txt K mg) : FnOk P w K mg base CX0 2 T.a_LoggerTree_made T.fd_LoggerTree_made ["self"] (spMade T) := by
  have G_LoggerTree_loggers : FnOk P w K mg base CX0 1 _ _ _ (spLoggers T) := ok_loggers T
  refine T.F_LoggerTree_made.ok sc_LoggerTree_made (fun vs H Q E h => ?_) (fun cdv A outer s H vs Q E hr h => ?_)
  · obtain ⟨A, S, rfl, _⟩ := h.out
    rfl
  · obtain ⟨A, S, rfl, t, kQ⟩ := h.out
    have hu := hu_of hr
    have htr := t.tr
    have hnd := t.nd
    refine ⟨_, (pss_one (ps_ret (pe_lc (own := [("name", 1)]) (g := gName 1) rfl sc_LoggerTree_made.nd (pi_list (pe_meth0 (pv 0) T.o_LoggerTree.cl T.Me_LoggerTree_loggers G_LoggerTree_loggers (hr.mono (by first | decide | omega)) T.b_LoggerTree_loggers .nil pass0)) (blkOk_by (N := ["self", "name"]) (sc := defScope s_LoggerTree_made) (by decide +kernel)) (fun _ _ _ _ _ => (pg_name (i := 1) sc_LoggerTree_made.nd rfl (by first | exact Or.inl rfl | exact Or.inr rfl))) (fun _ _ _ _ _ => pts_nil) (fun _ _ _ _ _ => (pe_dget hu (pe_fldK (K := K) rfl (pv 0) rfl) (pv 1) (fun _ _ => rfl)))))), ?_⟩
    walk_at "sx"
    refine .a ⟨A, S, rfl, t, fun ns p pn so hp => ?_⟩
    refine ⟨p, rfl, ⟨_, SqL.of upd_same⟩, fun D hD => ?_⟩
    have sm : Same H (upd H p (.lst ((ns.map dot).map fun l => V.str (SX.S l)))) := same_new hp
    have hD0 : H D = none := sm.free hD
    have ln : ns.length = S.length := by rw [pn.length_eq]; exact List.length_map _
    refine lc_map (ns.map fun n => V.ref (adr A.rt S n)) (by simp) upd_same hD (by rw [List.length_map, List.length_map, ln]; exact Nat.le_trans t.sz (by decide)) (fun i x y hx hy H' s1 R N k1 => ?_) fun H' s1 h1 => kQ H' ns D pn so hD0 (sm.trans s1) h1
    obtain ⟨n, hn, rfl⟩ := map_at hy
    obtain ⟨l, hl, rfl⟩ := map_at hx
    obtain ⟨n', hn', rfl⟩ := map_at hl
    obtain rfl : n = n' := Option.some.inj (hn.symm.trans hn')
    have hmem : n ∈ names S := pn.mem_iff.mp (List.mem_of_getElem? hn)
    obtain ⟨L, hL, eL⟩ := List.mem_map.mp hmem
    have hg : getL S n = some L := by rw [← eL]; exact getL_mem t.wf.nn hL
    have htr' := s1 _ _ (sm _ _ htr)
    have hnd' := s1 _ _ (sm _ _ hnd)
    walk_at "sx"
    refine ⟨A.nd, .ref L.a, rfl, by have g := DGet.k (k := Sum.inr (SX.S (dot n))) hnd'; rw [t.at_ (by rw [← eL]; exact t.gp L hL), hg] at g; exact g, ?_⟩
    have := k1 H' (Same.refl _)
    rw [adr_of hg] at this
    exact this
end
end My

namespace My
open PySem PySem.Spec PyProof.Rows L2 SuX LTr DN
local macro_rules | `(tactic| walk_at "hp") => `(tactic| first | assumption | exact upd_same | (refine Eq.trans (upd_ne (by first | assumption | (apply Ne.symm; assumption))) ?_; walk_at "hp"))
local macro_rules | `(tactic| walk_at "ixl") => `(tactic| (refine' ⟨_, ?xs, _, ?vv, rfl, rfl, SqL.of ?hh, ?aa, ?qq⟩; (case hh => walk_at "hp"); (case aa => rfl)))
local macro_rules | `(tactic| walk_at "setl") => `(tactic| (refine' ⟨_, ?xs, _, ?jj, rfl, rfl, ?hh, ?aa, ?qq⟩; (case hh => walk_at "hp"); (case aa => rfl)))
local macro_rules | `(tactic| walk_at "cond") => `(tactic| first | exact ⟨_, rfl⟩ | exact Nat.le_of_lt (small1000 (Nat.le_of_ble_eq_true rfl)) | decide | omega | (dsimp only; omega) | exact ⟨by decide, by decide⟩ | exact Or.inr ⟨by decide, by decide⟩ | exact Or.inl ⟨by decide, by decide⟩ | exact ⟨by decide, by decide, by decide⟩ | exact ⟨by omega, by omega⟩ | exact ⟨by omega, by omega, by omega⟩ | (simp only [List.length_cons, List.length_nil, List.length_append, List.length_take, List.length_drop]; omega) | (refine ⟨?_, ?_, ?_⟩ <;> first | decide | omega | (simp only [List.length_cons, List.length_nil, List.length_append, List.length_take, List.length_drop, Option.getD_some, Option.getD_none]; omega)))
local macro_rules | `(tactic| walk_at "st") => `(tactic| repeat (first | refine ⟨_, rfl, ?_⟩ | refine ⟨_, _, rfl, rfl, ?_⟩ | walk_at "ixl" | walk_at "setl" | refine ⟨rfl, ?_⟩ | refine Or.inl ⟨_, rfl, ?_⟩ | refine And.intro (by walk_at "cond") ?_))
local macro_rules | `(tactic| walk_at "cls") => `(tactic| first | exact OC.cl (by assumption) | exact (‹Txt _ _›).o_Clock.cl | exact (‹Txt _ _›).o_LevelTable.cl | exact (‹Txt _ _›).o_Store.cl | exact (‹Txt _ _›).o_Written.cl | exact (‹Txt _ _›).o_Roster.cl | exact (‹Txt _ _›).o_Handler.cl | exact (‹Txt _ _›).o_Logger.cl | exact (‹Txt _ _›).o_LoggerTree.cl | exact (‹Txt _ _›).o_StreamHandler.cl | exact (‹Txt _ _›).o_Yard.cl)
local macro_rules | `(tactic| walk_at "na") => `(tactic| first | (refine na_of (by assumption) ?_; decide) | (refine na_of (‹Txt _ _›).o_Clock ?_; decide) | (refine na_of (‹Txt _ _›).o_LevelTable ?_; decide) | (refine na_of (‹Txt _ _›).o_Store ?_; decide) | (refine na_of (‹Txt _ _›).o_Written ?_; decide) | (refine na_of (‹Txt _ _›).o_Roster ?_; decide) | (refine na_of (‹Txt _ _›).o_Handler ?_; decide) | (refine na_of (‹Txt _ _›).o_Logger ?_; decide) | (refine na_of (‹Txt _ _›).o_LoggerTree ?_; decide) | (refine na_of (‹Txt _ _›).o_StreamHandler ?_; decide) | (refine na_of (‹Txt _ _›).o_Yard ?_; decide))
local macro_rules | `(tactic| walk_at "fld") => `(tactic| (refine' ⟨_, _, _, _, ?vv, rfl, ?hh, ?cc, ?nn, ?ll, ?qq⟩; (case hh => walk_at "hp"); (case cc => walk_at "cls"); (case nn => walk_at "na"); (case ll => exact rfl)))
local macro_rules | `(tactic| walk_at "sto") => `(tactic| (refine' ⟨_, _, _, _, rfl, ?hh, ?cc, ?nn, ?ll, ?qq⟩; (case hh => walk_at "hp"); (case cc => walk_at "cls"); (case nn => walk_at "na"); (case ll => first | exact Nat.le_of_ble_eq_true rfl | assumption)))
local macro_rules | `(tactic| walk_at "mth") => `(tactic| (refine' ⟨_, _, _, rfl, ?hh, ?ll, ?qq⟩; (case hh => walk_at "hp"); (case ll => exact rfl)))
local macro_rules | `(tactic| walk_at "sx") => `(tactic| repeat (first | refine ⟨_, rfl, ?_⟩ | refine ⟨_, _, rfl, rfl, ?_⟩ | walk_at "ixl" | walk_at "setl" | refine ⟨rfl, ?_⟩ | refine Or.inl ⟨_, rfl, ?_⟩ | walk_at "fld" | walk_at "sto" | walk_at "mth" | refine And.intro (by walk_at "cond") ?_))
def newL (nm : Nm) (x d h f : Addr) : Lg := ⟨nm, x, d, h, f, 0, true, false⟩
theorem gate {K : PySem.W.Frag} {mg : Str → Option Value} {T : Txt K mg} {H : Hp} {A : TA} {S : List Lg} (ro : ∃ d fs, H A.rt = some (.ins T.C_Logger d fs)) (lo : ∀ L ∈ S, ∃ d fs, H L.a = some (.ins T.C_Logger d fs)) (n : Nm) : OQ.ObjA K H (adr A.rt S n) := by
  unfold adr
  cases q : getL S n with
  | none =>
    obtain ⟨d, fs, e⟩ := ro
    exact ⟨_, d, fs, e, T.cmp_Logger⟩
  | some L =>
    obtain ⟨d, fs, e⟩ := lo L (getL_some q).1
    exact ⟨_, d, fs, e, T.cmp_Logger⟩
theorem TreeAt.obj {K : PySem.W.Frag} {mg : Str → Option Value} {T : Txt K mg} {H : Hp} {A : TA} {S : List Lg} (t : TreeAt T H A S) (n : Nm) : OQ.ObjA K H (adr A.rt S n) :=
  gate ⟨_, _, t.rt⟩ (fun L hL => ⟨_, _, t.lg L hL⟩) n
theorem TreeAt.nt {K : PySem.W.Frag} {mg : Str → Option Value} {T : Txt K mg} {H : Hp} {A : TA} {S : List Lg} (t : TreeAt T H A S) : A.tr ∉ S.map (·.a) := fun z => by
  obtain ⟨L, hL, e⟩ := List.mem_map.mp z
  have := t.lg L hL
  rw [show L.a = A.tr from e, t.tr] at this
  injection this with this
  injection this with _ _ q
  have := congrArg (fun l => l.head?.map (·.1)) q
  exact absurd (show (some ("yard" : Str)) = some "tree" from this) (by decide)
theorem TreeAt.nn {K : PySem.W.Frag} {mg : Str → Option Value} {T : Txt K mg} {H : Hp} {A : TA} {S : List Lg} (t : TreeAt T H A S) : A.nd ∉ S.map (·.a) := fun z => by
  obtain ⟨L, hL, e⟩ := List.mem_map.mp z
  have := t.lg L hL
  rw [show L.a = A.nd from e, t.nd] at this
  injection this with this
  cases this
theorem TreeAt.nr {K : PySem.W.Frag} {mg : Str → Option Value} {T : Txt K mg} {H : Hp} {A : TA} {S : List Lg} (t : TreeAt T H A S) : A.rt ∉ S.map (·.a) := fun z => by
  obtain ⟨L, hL, e⟩ := List.mem_map.mp z
  exact t.wf.rn L hL e
theorem TreeAt.nw {K : PySem.W.Frag} {mg : Str → Option Value} {T : Txt K mg} {H : Hp} {A : TA} {S : List Lg} (t : TreeAt T H A S) {x : Addr} (hx : H x = none) : x ∉ S.map (·.a) := fun z => by
  obtain ⟨L, hL, e⟩ := List.mem_map.mp z
  have := t.lg L hL
  rw [show L.a = x from e, hx] at this
  cases this
theorem kvN_app (S : List Lg) (L : Lg) : kvN (S ++ [L]) = kvN S ++ [(Sum.inr (SX.S (dot L.nm)), .ref L.a)] := by
  unfold kvN
  rw [List.map_append]
  rfl
theorem take_mem {α : Type} {ns : List α} {i : Nat} {n m : α} (hn : ns[i]? = some n) : m ∈ ns.take (i + 1) ↔ m ∈ ns.take i ∨ m = n := by
  rw [take_snoc hn, List.mem_append, List.mem_singleton]
theorem nd_take {α : Type} {ns : List α} {i : Nat} {n : α} (nd : ns.Nodup) (hn : ns[i]? = some n) : n ∉ ns.take i := fun z => by
  rw [← List.take_append_drop i ns] at nd
  have h2 : n ∈ ns.drop i := List.mem_of_getElem? (i := 0) (by rw [List.getElem?_drop]; exact hn)
  exact (List.nodup_append.mp nd).2.2 n z n h2 rfl
section
variable {P : Program} {w : World} {K : PySem.W.Frag} {mg : Str → Option Value} {base : Heap}
def spGrowT (T : Txt K mg) : Sp := fun vs H Q _ => Hd (∃ (A : TA) (S : List Lg) (nm : Nm), vs = [.ref A.tr, .str (SX.S (dot nm))] ∧ TreeAt T H A S ∧ S.length < 60 ∧ WP nm ∧ nm ∉ names S ∧
  ∀ (H' : Hp) (L : Lg), L.nm = nm → L.lv = 0 → L.pp = true → L.ds = false → TreeAt T H' A (S ++ [L]) → H L.a = none → H' L.h = some (.lst []) → H' L.f = some (.lst []) → H L.h = none → H L.f = none → L.h ≠ L.f → FrS (A.nd :: S.map (·.a)) H H' → Q .non H')
theorem ok_grow (T : Txt K mg) : FnOk P w K mg base CX0 3 T.a_LoggerTree_grow T.fd_LoggerTree_grow ["self", "name"] (spGrowT T) := by
  have G_LoggerTree_nearest : FnOk P w K mg base CX0 1 _ _ _ (spNearest T) := ok_nearest T
  have G_LoggerTree_made : FnOk P w K mg base CX0 2 _ _ _ (spMade T) := ok_made T
  have G_Logger : FnOk P w K mg base CX0 1 _ _ _ (spLogger T.C_Logger K) := ok_logger T
  refine T.F_LoggerTree_grow.ok sc_LoggerTree_grow (fun vs H Q E h => ?_) (fun cdv A outer s H vs Q E hr h => ?_)
  · obtain ⟨A, S, nm, rfl, _⟩ := h.out
    rfl
  · obtain ⟨A, S, nm, rfl, t, lt60, wp, hnew, kQ⟩ := h.out
    have hu := hu_of hr
    have hu64 := hr.units
    refine ⟨_, (pss_cons (ps_set (i := 2) sc_LoggerTree_grow.nd rfl (by first | exact Or.inl rfl | exact Or.inr rfl) (pe_make T.M_Logger G_Logger (hr.mono (by first | decide | omega)) rfl T.g_Logger T.b_Logger_init .nil pass0 (pa_cons (pv 0) (pa_cons (pv 1) (pa_cons (C8.pe_gc rfl T.k_NOTSET) (pa_cons (pe_meth (pv 0) T.o_LoggerTree.cl T.Me_LoggerTree_nearest G_LoggerTree_nearest (hr.mono (by first | decide | omega)) T.b_LoggerTree_nearest .nil pass0 (pa_cons (pv 1) pa_nil)) pa_nil))))))
  (pss_cons (ps_for PassesOwn.never rfl (pi_list (pe_meth0 (pv 0) T.o_LoggerTree.cl T.Me_LoggerTree_made G_LoggerTree_made (hr.mono (by first | decide | omega)) T.b_LoggerTree_made .nil pass0)) (pg_name (i := 3) sc_LoggerTree_grow.nd rfl (by first | exact Or.inl rfl | exact Or.inr rfl))
    (pss_one (ps_if (PW.pt (pw_and (pt_cmpR (OQ.op_eqO hu64) (pe_fld (pv 3) rfl) (pe_fld (pv 2) rfl) (nomark _)) (pw_and1 (pt_val (pe_bm PySem.F.plainAttrs_str PySem.F.slot_str_startswith PySem.F.type_str_startswith OQ.mt_swD (pe_fld (pv 3) rfl) (pa_cons (pe_op SL.op_addL (pv 1) (SL.pe_strL [46] (by decide +kernel))) pa_nil))))))
    (pss_one (ps_fld (pv 3) (pv 2) rfl))
    pss_nil)))
  (pss_one (ps_dput hu (pe_fld (pv 0) rfl) (pv 1) (pv 2) rfl)))), ?_⟩
    have htr := t.tr
    walk_at "sx"
    refine .a ⟨A, S, nm, rfl, t, wp, fun H1 s1 => ?_⟩
    intro x dx hx hdx ndx
    have t1 := t.same (Same.t s1)
    have htr1 := mkH_old (C := T.C_Logger) hx hdx t1.tr
    refine .a ⟨x, dx, A.tr, T.C_LoggerTree, A.dtr, _, _, _, _, _, rfl, upd_same, htr1, T.o_LoggerTree.cl, T.o_LoggerTree.na _ (by decide), rfl, (neN t1.tr hx).symm, fun H2 lh lf h1 h2 h3 h4 h5 h6 h7 => ?_⟩
    have s2 : Same H1 H2 := fun b o e => h7 b o (neN e hx) (mkH_old hx hdx e)
    have t2 := t1.same (Same.t s2)
    have htr2 := t2.tr
    clear htr htr1
    walk_at "sx"
    refine .a ⟨A, S, rfl, t2, fun H3 ns p pn so hp s3 q3 => ?_⟩
    have t3 := t2.same (Same.t s3)
    refine ⟨p, rfl, ⟨_, SqL.of q3⟩, ?_⟩
    refine for_list (xs := ns.map fun n => V.ref (adr A.rt S n)) (fun i σ Hx => ∃ o, σ = [some (.ref A.tr), some (.str (SX.S (dot nm))), some (.ref x), o] ∧ FrS (S.map (·.a)) H3 Hx ∧
      ∀ L ∈ S, Hx L.a = some (.ins T.C_Logger L.d (fLgr A L (.ref (if L.nm ∈ ns.take i then parA A.rt (S ++ [newL nm x dx lh lf]) L.nm else parA A.rt S L.nm))))) ?_ ?_ ?_ ?_
    · rintro i σ Hx ⟨o, rfl, fr, _⟩
      exact fr _ _ (t2.nw hp) q3
    · refine ⟨_, rfl, FrS.refl _ _, fun L hL => ?_⟩
      rw [List.take_zero, if_neg List.not_mem_nil]
      exact t3.lg L hL
    · rintro σ Hx ⟨o, rfl, fr, hl⟩
      have htrx := fr _ _ t3.nt t3.tr
      have hndx := fr _ _ t3.nn t3.nd
      walk_at "sx"
      have hg0 : getL S nm = none := by
        cases q : getL S nm with
        | none => rfl
        | some L => exact absurd (by rw [← (getL_some q).2]; exact List.mem_map_of_mem (getL_some q).1) hnew
      refine ⟨A.nd, _, rfl, DPut.k (k := Sum.inr (SX.S (dot nm))) hndx (by unfold kvN; rw [List.length_map]; exact Nat.lt_of_le_of_lt t.sz (by decide)), ?_⟩
      rw [putK_new _ (by rw [t.at_ wp.gp, hg0]; rfl), show (Sum.inr (SX.S (dot nm)), V.ref x) = ((Sum.inr (SX.S (dot (newL nm x dx lh lf).nm)) : Key), V.ref (newL nm x dx lh lf).a) from rfl, ← kvN_app]
      have nax := t1.nw hx
      have keep : ∀ b u, b ∉ S.map (·.a) → H2 b = some u → b ≠ A.nd → upd Hx A.nd (.dK (kvN (S ++ [newL nm x dx lh lf]))) b = some u := fun b u h1 h2 h3 => by
        rw [upd_ne h3]
        exact fr _ _ h1 (s3 _ _ h2)
      have ndr : A.nd ≠ A.tr := fun z => by have := t.tr; rw [← z, t.nd] at this; cases this
      have ndt : A.nd ≠ A.rt := fun z => by have := t.rt; rw [← z, t.nd] at this; cases this
      have lm : ∀ M ∈ S, M.nm ∈ ns.take (ns.map fun n => V.ref (adr A.rt S n)).length := fun M hM => by
        rw [List.length_map, List.take_length]
        exact pn.mem_iff.mpr (List.mem_map_of_mem hM)
      have lhx := mkH_none h4
      have lfx := mkH_none h5
      refine kQ _ (newL nm x dx lh lf) rfl rfl rfl rfl ⟨keep _ _ t3.nt t2.tr ndr.symm, upd_same, keep _ _ t3.nr t2.rt ndt.symm, fun M hM => ?_, fun M hM => ?_, t.wf.add hnew wp.ne nax (neN t1.rt hx).symm, by rw [List.length_append]; exact lt60⟩ ?_ ?_ ?_ ?_ ?_ h6 ?_
      · rcases List.mem_append.mp hM with hM | hM
        · rw [upd_ne (fun z => t.nn (by rw [← z]; exact List.mem_map_of_mem hM)), hl M hM, if_pos (lm M hM)]
        · obtain rfl := List.mem_singleton.mp hM
          have := t.wf.parA_self (N := newL nm x dx lh lf) hnew wp.ne
          rw [this]
          exact keep _ _ nax h1 (neN t1.nd hx).symm
      · exact (List.mem_append.mp hM).elim (t.wp M) fun z => by rw [List.mem_singleton.mp z]; exact wp
      · exact Same.free s1 hx
      · exact keep _ _ (t1.nw lhx.2.2) h2 (neN t1.nd lhx.2.2).symm
      · exact keep _ _ (t1.nw lfx.2.2) h3 (neN t1.nd lfx.2.2).symm
      · exact Same.free s1 lhx.2.2
      · exact Same.free s1 lfx.2.2
      · intro b u hb e
        rw [upd_ne fun z => hb (by rw [z]; exact List.mem_cons_self)]
        exact fr _ _ (fun z => hb (List.mem_cons_of_mem _ z)) (s3 _ _ (s2 _ _ (s1 _ _ e)))
    · rintro R i σ Hx v ⟨o, rfl, fr, hl⟩ hv N hN
      obtain ⟨n, hn, rfl⟩ := map_at hv
      have hmem : n ∈ names S := pn.mem_iff.mp (List.mem_of_getElem? hn)
      obtain ⟨L, hL, rfl⟩ := List.mem_map.mp hmem
      have hg := getL_mem t.wf.nn hL
      rw [adr_of hg]
      have eL := hl L hL
      rw [if_neg (nd_take (pn.nodup_iff.mpr t.wf.nn) hn)] at eL
      have hxx := fr _ _ (t1.nw hx) (s3 _ _ h1)
      have oo : ∀ n, OQ.ObjA K Hx (adr A.rt S n) := gate ⟨_, _, fr _ _ t3.nr t3.rt⟩ fun M hM => ⟨_, _, hl M hM⟩
      have gL := t.gp L hL
      have neL := t.wf.ne L hL
      have padd := t.wf.parA_add (N := newL nm x dx lh lf) hnew wp.ne neL
      have fin : ∀ Hy pr, FrS (S.map (·.a)) H3 Hy → Hy L.a = some (.ins T.C_Logger L.d (fLgr A L (.ref pr))) → pr = parA A.rt (S ++ [newL nm x dx lh lf]) L.nm → (∀ b, b ≠ L.a → Hy b = Hx b) →
          N [some (.ref A.tr), some (.str (SX.S (dot nm))), some (.ref x), some (.ref L.a)] Hy := fun Hy pr f1 f2 f3 f4 => by
        rw [hN]
        refine .a ⟨_, rfl, f1, fun M hM => ?_⟩
        by_cases e : M.nm = L.nm
        · obtain rfl : M = L := by
            have g2 := getL_mem t.wf.nn hM
            rw [e, hg] at g2
            exact (Option.some.inj g2).symm
          rw [if_pos ((take_mem hn).mpr (.inr rfl)), ← f3]
          exact f2
        · have ne : M.a ≠ L.a := fun z => e (by rw [an_inj t.wf.an hM hL z])
          rw [f4 _ ne, hl M hM]
          have : (M.nm ∈ ns.take (i + 1)) = (M.nm ∈ ns.take i) := propext ((take_mem hn).trans ⟨fun h => h.resolve_right e, .inl⟩)
          simp only [this]
      walk_at "sx"
      refine ⟨oo _, oo _, ?_⟩
      by_cases c1 : parA A.rt S L.nm = parA A.rt S nm
      · refine ⟨true, by rw [decide_eq_true c1], if_true_of rfl ?_⟩
        walk_at "sx"
        refine ⟨by have h1 := wp.sz; simp only [List.length_cons, List.length_nil]; omega, ?_⟩
        refine ⟨L.nm, nm, rfl, rfl, neL, wp.ne, gL, wp.gp, fun b hb => ?_⟩
        refine ⟨b, rfl, ?_⟩
        cases hb1 : b with
        | false =>
          refine if_false_of rfl ?_
          refine fin _ _ fr eL ?_ fun _ _ => rfl
          rw [padd, if_neg fun z => ?_]
          rw [hb.mpr z.1] at hb1
          cases hb1
        | true =>
          refine if_true_of rfl ?_
          walk_at "sx"
          refine fin _ x ?_ upd_same ?_ fun _ h => upd_ne h
          · exact fr.put (List.mem_map_of_mem hL)
          · rw [padd, if_pos ⟨hb.mp hb1, c1⟩]
            rfl
      · refine ⟨false, by rw [decide_eq_false c1], if_false_of rfl (if_false_of rfl ?_)⟩
        refine fin _ _ fr eL ?_ fun _ _ => rfl
        rw [padd, if_neg fun z => c1 z.2]
end
end My

namespace My
open PySem PySem.Spec PyProof.Rows L2 SuX LTr DN
local macro_rules | `(tactic| walk_at "hp") => `(tactic| first | assumption | exact upd_same | (refine Eq.trans (upd_ne (by first | assumption | (apply Ne.symm; assumption))) ?_; walk_at "hp"))
local macro_rules | `(tactic| walk_at "ixl") => `(tactic| (refine' ⟨_, ?xs, _, ?vv, rfl, rfl, SqL.of ?hh, ?aa, ?qq⟩; (case hh => walk_at "hp"); (case aa => rfl)))
local macro_rules | `(tactic| walk_at "setl") => `(tactic| (refine' ⟨_, ?xs, _, ?jj, rfl, rfl, ?hh, ?aa, ?qq⟩; (case hh => walk_at "hp"); (case aa => rfl)))
local macro_rules | `(tactic| walk_at "cond") => `(tactic| first | exact ⟨_, rfl⟩ | exact Nat.le_of_lt (small1000 (Nat.le_of_ble_eq_true rfl)) | decide | omega | (dsimp only; omega) | exact ⟨by decide, by decide⟩ | exact Or.inr ⟨by decide, by decide⟩ | exact Or.inl ⟨by decide, by decide⟩ | exact ⟨by decide, by decide, by decide⟩ | exact ⟨by omega, by omega⟩ | exact ⟨by omega, by omega, by omega⟩ | (simp only [List.length_cons, List.length_nil, List.length_append, List.length_take, List.length_drop]; omega) | (refine ⟨?_, ?_, ?_⟩ <;> first | decide | omega | (simp only [List.length_cons, List.length_nil, List.length_append, List.length_take, List.length_drop, Option.getD_some, Option.getD_none]; omega)))
local macro_rules | `(tactic| walk_at "st") => `(tactic| repeat (first | refine ⟨_, rfl, ?_⟩ | refine ⟨_, _, rfl, rfl, ?_⟩ | walk_at "ixl" | walk_at "setl" | refine ⟨rfl, ?_⟩ | refine Or.inl ⟨_, rfl, ?_⟩ | refine And.intro (by walk_at "cond") ?_))
local macro_rules | `(tactic| walk_at "cls") => `(tactic| first | exact OC.cl (by assumption) | exact (‹Txt _ _›).o_Clock.cl | exact (‹Txt _ _›).o_LevelTable.cl | exact (‹Txt _ _›).o_Store.cl | exact (‹Txt _ _›).o_Written.cl | exact (‹Txt _ _›).o_Roster.cl | exact (‹Txt _ _›).o_Handler.cl | exact (‹Txt _ _›).o_Logger.cl | exact (‹Txt _ _›).o_LoggerTree.cl | exact (‹Txt _ _›).o_StreamHandler.cl | exact (‹Txt _ _›).o_Yard.cl)
local macro_rules | `(tactic| walk_at "na") => `(tactic| first | (refine na_of (by assumption) ?_; decide) | (refine na_of (‹Txt _ _›).o_Clock ?_; decide) | (refine na_of (‹Txt _ _›).o_LevelTable ?_; decide) | (refine na_of (‹Txt _ _›).o_Store ?_; decide) | (refine na_of (‹Txt _ _›).o_Written ?_; decide) | (refine na_of (‹Txt _ _›).o_Roster ?_; decide) | (refine na_of (‹Txt _ _›).o_Handler ?_; decide) | (refine na_of (‹Txt _ _›).o_Logger ?_; decide) | (refine na_of (‹Txt _ _›).o_LoggerTree ?_; decide) | (refine na_of (‹Txt _ _›).o_StreamHandler ?_; decide) | (refine na_of (‹Txt _ _›).o_Yard ?_; decide))
local macro_rules | `(tactic| walk_at "fld") => `(tactic| (refine' ⟨_, _, _, _, ?vv, rfl, ?hh, ?cc, ?nn, ?ll, ?qq⟩; (case hh => walk_at "hp"); (case cc => walk_at "cls"); (case nn => walk_at "na"); (case ll => exact rfl)))
local macro_rules | `(tactic| walk_at "sto") => `(tactic| (refine' ⟨_, _, _, _, rfl, ?hh, ?cc, ?nn, ?ll, ?qq⟩; (case hh => walk_at "hp"); (case cc => walk_at "cls"); (case nn => walk_at "na"); (case ll => first | exact Nat.le_of_ble_eq_true rfl | assumption)))
local macro_rules | `(tactic| walk_at "mth") => `(tactic| (refine' ⟨_, _, _, rfl, ?hh, ?ll, ?qq⟩; (case hh => walk_at "hp"); (case ll => exact rfl)))
local macro_rules | `(tactic| walk_at "sx") => `(tactic| repeat (first | refine ⟨_, rfl, ?_⟩ | refine ⟨_, _, rfl, rfl, ?_⟩ | walk_at "ixl" | walk_at "setl" | refine ⟨rfl, ?_⟩ | refine Or.inl ⟨_, rfl, ?_⟩ | walk_at "fld" | walk_at "sto" | walk_at "mth" | refine And.intro (by walk_at "cond") ?_))
/-! ### levels: numbers, names of them -/
section
variable {P : Program} {w : World} {K : PySem.W.Frag} {mg : Str → Option Value} {base : Heap}
def spIsInt : Sp := fun vs H Q _ => Hd (∃ v b, vs = [v] ∧ ((∃ i, v = .int i ∧ b = true) ∨ ∃ z, v = .str z ∧ b = false) ∧ Q (.bl b) H)
theorem ok_isint (T : Txt K mg) : FnOk P w K mg base CX0 1 T.f_is_integer T.fd_is_integer ["thing"] spIsInt := by
  refine T.D_is_integer.F.ok sc_is_integer (fun vs H Q E h => ?_) (fun cdv A outer s H vs Q E hr h => ?_)
  · obtain ⟨v, b, rfl, _⟩ := h.out
    rfl
  · obtain ⟨v, b, rfl, c, k⟩ := h.out
    refine ⟨_, (pss_one (ps_ret (pe_and (pe_callB call_isi (by rfl) T.B.n_isinstance (by decide +kernel) (pa_cons (pv 0) (pa_cons (pe_bltn (v := .ty "int") (u := .type "int") (by rfl) T.B.n_int (by decide +kernel) rfl) pa_nil))) (pe_one (pe_not (pe_callB call_isi (by rfl) T.B.n_isinstance (by decide +kernel) (pa_cons (pv 0) (pa_cons (pe_bltn (v := .ty "bool") (u := .type "bool") (by rfl) T.B.n_bool (by decide +kernel) rfl) pa_nil)))))))), ?_⟩
    walk_at "st"
    rcases c with ⟨i, rfl, rfl⟩ | ⟨z, rfl, rfl⟩
    · refine ⟨.int i, .ty "int", _, _, true, rfl, .ty "int", .base (.int i), kit_ty (by decide +kernel), ?_⟩
      refine ⟨true, rfl, if_true_of rfl ?_⟩
      walk_at "st"
      refine ⟨.int i, .ty "bool", _, _, false, rfl, .ty "bool", .base (.int i), kit_ty (by decide +kernel), ?_⟩
      exact ⟨false, rfl, k⟩
    · refine ⟨.str z, .ty "int", _, _, false, rfl, .ty "int", .base (.str z), kit_ty (by decide +kernel), ?_⟩
      exact ⟨false, rfl, if_false_of rfl k⟩
/-- a level given: its number, or a name of it in the table -/
def LvV (kvs : List (Key × V)) (v : V) (i : Int) : Prop := v = .int i ∨ ∃ l : List Nat, v = .str (SX.S l) ∧ valV kvs (Sum.inr (SX.S l) : Key) = some (.int i)
def spKnows (C : Addr) : Sp := fun vs H Q _ => Hd (∃ (x dx a b : Addr) (kvs : List (Key × V)) (v : V) (i : Int), vs = [.ref x, v] ∧ H x = some (.ins C dx (fLv a b)) ∧ H b = some (.dK kvs) ∧ LvV kvs v i ∧ Q (.bl true) H)
theorem ok_knows (T : Txt K mg) : FnOk P w K mg base CX0 2 T.a_LevelTable_knows T.fd_LevelTable_knows ["self", "level"] (spKnows T.C_LevelTable) := by
  have G_is_integer : FnOk P w K mg base CX0 1 _ _ _ spIsInt := ok_isint T
  refine T.F_LevelTable_knows.ok sc_LevelTable_knows (fun vs H Q E h => ?_) (fun cdv A outer s H vs Q E hr h => ?_)
  · obtain ⟨x, dx, a, b, kvs, v, i, rfl, _⟩ := h.out
    rfl
  · obtain ⟨x, dx, a, b, kvs, v, i, rfl, hx, hb, c, k⟩ := h.out
    have hu := hu_of hr
    refine ⟨_, (pss_one (ps_ret (pe_or (pe_call G_is_integer (hr.mono (by first | decide | omega)) rfl T.D_is_integer.g T.D_is_integer.F.kp T.D_is_integer.b .nil pass0 (pa_cons (pv 1) pa_nil)) (pe_one (pe_and (pe_callB call_isi (by rfl) T.B.n_isinstance (by decide +kernel) (pa_cons (pv 1) (pa_cons (pe_bltn (v := .ty "str") (u := .type "str") (by rfl) T.B.n_str (by decide +kernel) rfl) pa_nil))) (pe_one (pe_cmp (pc_din hu (pv 1) (pe_fld (pv 0) rfl)) rfl))))))), ?_⟩
    walk_at "sx"
    rcases c with rfl | ⟨l, rfl, hv⟩
    · refine .a ⟨_, true, rfl, .inl ⟨i, rfl, rfl⟩, ?_⟩
      exact ⟨true, rfl, if_true_of rfl k⟩
    · refine .a ⟨_, false, rfl, .inr ⟨_, rfl, rfl⟩, ?_⟩
      refine ⟨false, rfl, if_false_of rfl ?_⟩
      walk_at "sx"
      refine ⟨.str (SX.S l), .ty "str", _, _, true, rfl, .ty "str", .base (.str _), kit_ty (by decide +kernel), ?_⟩
      refine ⟨true, rfl, if_true_of rfl ?_⟩
      walk_at "sx"
      refine ⟨b, _, rfl, DGet.k (k := Sum.inr (SX.S l)) hb, ?_⟩
      rw [hv]
      exact k
def spNumber (C : Addr) : Sp := fun vs H Q _ => Hd (∃ (x dx a b : Addr) (kvs : List (Key × V)) (v : V) (i : Int), vs = [.ref x, v] ∧ H x = some (.ins C dx (fLv a b)) ∧ H b = some (.dK kvs) ∧ LvV kvs v i ∧ Q (.int i) H)
theorem ok_number (T : Txt K mg) : FnOk P w K mg base (L2.CX P w) 3 T.a_LevelTable_number T.fd_LevelTable_number ["self", "level"] (spNumber T.C_LevelTable) := by
  have G_is_integer : FnOk P w K mg base CX0 1 _ _ _ spIsInt := ok_isint T
  have G_LevelTable_knows : FnOk P w K mg base CX0 2 _ _ _ (spKnows T.C_LevelTable) := ok_knows T
  refine T.F_LevelTable_number.okX sc_LevelTable_number (fun vs H Q E h => ?_) (fun cdv A outer s H vs Q E hr h => ?_)
  · obtain ⟨x, dx, a, b, kvs, v, i, rfl, _⟩ := h.out
    rfl
  · obtain ⟨x, dx, a, b, kvs, v, i, rfl, hx, hb, c, k⟩ := h.out
    have hu := hu_of hr
    refine ⟨_, (pss_cons (ps_if (pt_not (pt_val (pe_meth (pv 0) T.o_LevelTable.cl T.Me_LevelTable_knows G_LevelTable_knows (hr.mono (by first | decide | omega)) T.b_LevelTable_knows .nil pass0 (pa_cons (pv 1) pa_nil))))
    (pss_one (ps_raise rfl (takes_of rfl rfl rfl rfl) (pmk_err T.E_BadLevel hr (pa_cons (pv 1) pa_nil) rfl)))
    pss_nil)
  (pss_one (ps_ret (pe_ifExp (pt_val (pe_call G_is_integer (hr.mono (by first | decide | omega)) rfl T.D_is_integer.g T.D_is_integer.F.kp T.D_is_integer.b .nil pass0 (pa_cons (pv 1) pa_nil))) (pv 1) (pe_dget hu (pe_fld (pv 0) rfl) (pv 1) (fun _ _ => rfl)))))), ?_⟩
    walk_at "sx"
    refine .a ⟨x, dx, a, b, kvs, v, i, rfl, hx, hb, c, ?_⟩
    refine ⟨true, rfl, if_false_of rfl ?_⟩
    walk_at "sx"
    rcases c with rfl | ⟨l, rfl, hv⟩
    · refine .a ⟨_, true, rfl, .inl ⟨i, rfl, rfl⟩, ?_⟩
      refine ⟨true, rfl, if_true_of rfl ?_⟩
      walk_at "sx"
      exact k
    · refine .a ⟨_, false, rfl, .inr ⟨_, rfl, rfl⟩, ?_⟩
      refine ⟨false, rfl, if_false_of rfl ?_⟩
      walk_at "sx"
      exact ⟨b, _, rfl, by have g := DGet.k (k := Sum.inr (SX.S l)) hb; rw [hv] at g; exact g, k⟩
end
end My

namespace My
open PySem PySem.Spec PyProof.Rows L2 SuX LTr DN
local macro_rules | `(tactic| walk_at "hp") => `(tactic| first | assumption | exact upd_same | (refine Eq.trans (upd_ne (by first | assumption | (apply Ne.symm; assumption))) ?_; walk_at "hp"))
local macro_rules | `(tactic| walk_at "ixl") => `(tactic| (refine' ⟨_, ?xs, _, ?vv, rfl, rfl, SqL.of ?hh, ?aa, ?qq⟩; (case hh => walk_at "hp"); (case aa => rfl)))
local macro_rules | `(tactic| walk_at "setl") => `(tactic| (refine' ⟨_, ?xs, _, ?jj, rfl, rfl, ?hh, ?aa, ?qq⟩; (case hh => walk_at "hp"); (case aa => rfl)))
local macro_rules | `(tactic| walk_at "cond") => `(tactic| first | exact ⟨_, rfl⟩ | exact Nat.le_of_lt (small1000 (Nat.le_of_ble_eq_true rfl)) | decide | omega | (dsimp only; omega) | exact ⟨by decide, by decide⟩ | exact Or.inr ⟨by decide, by decide⟩ | exact Or.inl ⟨by decide, by decide⟩ | exact ⟨by decide, by decide, by decide⟩ | exact ⟨by omega, by omega⟩ | exact ⟨by omega, by omega, by omega⟩ | (simp only [List.length_cons, List.length_nil, List.length_append, List.length_take, List.length_drop]; omega) | (refine ⟨?_, ?_, ?_⟩ <;> first | decide | omega | (simp only [List.length_cons, List.length_nil, List.length_append, List.length_take, List.length_drop, Option.getD_some, Option.getD_none]; omega)))
local macro_rules | `(tactic| walk_at "st") => `(tactic| repeat (first | refine ⟨_, rfl, ?_⟩ | refine ⟨_, _, rfl, rfl, ?_⟩ | walk_at "ixl" | walk_at "setl" | refine ⟨rfl, ?_⟩ | refine Or.inl ⟨_, rfl, ?_⟩ | refine And.intro (by walk_at "cond") ?_))
local macro_rules | `(tactic| walk_at "cls") => `(tactic| first | exact OC.cl (by assumption) | exact (‹Txt _ _›).o_Clock.cl | exact (‹Txt _ _›).o_LevelTable.cl | exact (‹Txt _ _›).o_Store.cl | exact (‹Txt _ _›).o_Written.cl | exact (‹Txt _ _›).o_Roster.cl | exact (‹Txt _ _›).o_Handler.cl | exact (‹Txt _ _›).o_Logger.cl | exact (‹Txt _ _›).o_LoggerTree.cl | exact (‹Txt _ _›).o_StreamHandler.cl | exact (‹Txt _ _›).o_Yard.cl)
local macro_rules | `(tactic| walk_at "na") => `(tactic| first | (refine na_of (by assumption) ?_; decide) | (refine na_of (‹Txt _ _›).o_Clock ?_; decide) | (refine na_of (‹Txt _ _›).o_LevelTable ?_; decide) | (refine na_of (‹Txt _ _›).o_Store ?_; decide) | (refine na_of (‹Txt _ _›).o_Written ?_; decide) | (refine na_of (‹Txt _ _›).o_Roster ?_; decide) | (refine na_of (‹Txt _ _›).o_Handler ?_; decide) | (refine na_of (‹Txt _ _›).o_Logger ?_; decide) | (refine na_of (‹Txt _ _›).o_LoggerTree ?_; decide) | (refine na_of (‹Txt _ _›).o_StreamHandler ?_; decide) | (refine na_of (‹Txt _ _›).o_Yard ?_; decide))
local macro_rules | `(tactic| walk_at "fld") => `(tactic| (refine' ⟨_, _, _, _, ?vv, rfl, ?hh, ?cc, ?nn, ?ll, ?qq⟩; (case hh => walk_at "hp"); (case cc => walk_at "cls"); (case nn => walk_at "na"); (case ll => exact rfl)))
local macro_rules | `(tactic| walk_at "sto") => `(tactic| (refine' ⟨_, _, _, _, rfl, ?hh, ?cc, ?nn, ?ll, ?qq⟩; (case hh => walk_at "hp"); (case cc => walk_at "cls"); (case nn => walk_at "na"); (case ll => first | exact Nat.le_of_ble_eq_true rfl | assumption)))
local macro_rules | `(tactic| walk_at "mth") => `(tactic| (refine' ⟨_, _, _, rfl, ?hh, ?ll, ?qq⟩; (case hh => walk_at "hp"); (case ll => exact rfl)))
local macro_rules | `(tactic| walk_at "sx") => `(tactic| repeat (first | refine ⟨_, rfl, ?_⟩ | refine ⟨_, _, rfl, rfl, ?_⟩ | walk_at "ixl" | walk_at "setl" | refine ⟨rfl, ?_⟩ | refine Or.inl ⟨_, rfl, ?_⟩ | walk_at "fld" | walk_at "sto" | walk_at "mth" | refine And.intro (by walk_at "cond") ?_))
/-- all stands but what is named; tables may grow -/
structure FrT (S : List Addr) (H H' : Hp) : Prop where
  st : ∀ b o, b ∉ S → H b = some o → noT o = true → H' b = some o
  tb : ∀ b ps, H b = some (.tbl ps) → ∃ ps', H' b = some (.tbl ps') ∧ (TriplesOk ps.toList → TriplesOk ps'.toList)
theorem SmT.fr {S : List Addr} {H H' : Hp} (s : SmT H H') : FrT S H H' := ⟨fun b o _ e z => s.st b o e z, s.tb⟩
theorem FrT.trans {S : List Addr} {H H1 H2 : Hp} (a : FrT S H H1) (b : FrT S H1 H2) : FrT S H H2 := ⟨fun c o n e z => b.st c o n (a.st c o n e z) z, fun c ps e => by
  obtain ⟨p1, e1, k1⟩ := a.tb c ps e
  obtain ⟨p2, e2, k2⟩ := b.tb c p1 e1
  exact ⟨p2, e2, fun h => k2 (k1 h)⟩⟩
theorem FrT.mono {S S' : List Addr} {H H' : Hp} (a : FrT S H H') (h : ∀ b ∈ S, b ∈ S' ∨ H b = none) : FrT S' H H' := ⟨fun c u n e z => a.st c u (fun z => (h c z).elim n fun q => by rw [q] at e; cases e) e z, a.tb⟩
theorem FrT.free {S : List Addr} {H H' : Hp} (h : FrT S H H') (hs : ∀ b ∈ S, H b ≠ none → H' b ≠ none) {b : Addr} (e : H' b = none) : H b = none := by
  cases z : H b with
  | none => rfl
  | some o =>
    by_cases m : b ∈ S
    · exact absurd e (hs b m (by rw [z]; simp))
    · cases o with
      | tbl ps => obtain ⟨p, e1, _⟩ := h.tb b ps z; rw [e1] at e; cases e
      | _ => rw [h.st b _ m z rfl] at e; cases e
theorem FrT.tab {S : List Addr} {H H' : Hp} {P : Addr} (h : FrT S H H') (t : GxR.TabG H P) : GxR.TabG H' P := by
  obtain ⟨ps, e, k⟩ := t
  obtain ⟨p, e1, k1⟩ := h.tb P ps e
  exact ⟨p, e1, k1 k⟩
theorem FrS.t {S : List Addr} {H H' : Hp} (h : FrS S H H') (n : ∀ b ∈ S, ∀ ps, H b ≠ some (.tbl ps)) : FrT S H H' := ⟨fun b o m e _ => h b o m e, fun b ps e => ⟨ps, h b _ (fun z => n b z ps e) e, id⟩⟩
theorem TreeAt.ntb {K : PySem.W.Frag} {mg : Str → Option Value} {T : Txt K mg} {H : Hp} {A : TA} {S : List Lg} (t : TreeAt T H A S) : ∀ b ∈ A.nd :: S.map (·.a), ∀ ps, H b ≠ some (.tbl ps) := fun b hb ps e => by
  rcases List.mem_cons.mp hb with rfl | hb
  · rw [t.nd] at e; cases e
  · obtain ⟨L, hL, rfl⟩ := List.mem_map.mp hb
    rw [t.lg L hL] at e; cases e
/-- a logger made anew -/
structure NewL (H H' : Hp) (nm : Nm) (L : Lg) : Prop where
  nm : L.nm = nm
  lv : L.lv = 0
  pp : L.pp = true
  ds : L.ds = false
  a0 : H L.a = none
  hh : H' L.h = some (.lst [])
  hf : H' L.f = some (.lst [])
  h0 : H L.h = none
  f0 : H L.f = none
  ne : L.h ≠ L.f
theorem getL_not {S : List Lg} {nm : Nm} (h : nm ∉ names S) : getL S nm = none := by
  cases q : getL S nm with
  | none => rfl
  | some L => exact absurd (by rw [← (getL_some q).2]; exact List.mem_map_of_mem (getL_some q).1) h
theorem TreeAt.get {K : PySem.W.Frag} {mg : Str → Option Value} {T : Txt K mg} {H : Hp} {A : TA} {S : List Lg} (t : TreeAt T H A S) {nm : Nm} (g : GP nm) (h : nm ∈ names S) : DGet H A.nd (kV (Sum.inr (SX.S (dot nm)))) (some (.ref (adr A.rt S nm))) := by
  have q := DGet.k (k := Sum.inr (SX.S (dot nm))) t.nd
  have e := getL_isSome (S := S) (nm := nm)
  rw [decide_eq_true h] at e
  obtain ⟨L, eL⟩ := Option.isSome_iff_exists.mp e
  rw [t.at_ g, eL] at q
  rw [adr_of eL]
  exact q
section
variable {P : Program} {w : World} {K : PySem.W.Frag} {mg : Str → Option Value} {base : Heap}
def GotL {K : PySem.W.Frag} {mg : Str → Option Value} (T : Txt K mg) (H : Hp) (A : TA) (S : List Lg) (nm : Nm) (Q : VK) : Prop :=
  ∀ H' S', TreeAt T H' A S' → (S' = S ∧ SmT H H' ∨ nm ∉ names S ∧ FrT (A.nd :: S.map (·.a)) H H' ∧ ∃ L, S' = S ++ [L] ∧ NewL H H' nm L) → nm ∈ names S' → Q (.ref (adr A.rt S' nm)) H'
def spGet (T : Txt K mg) : Sp := fun vs H Q _ => Hd (∃ (A : TA) (S : List Lg) (nm : Nm), vs = [.ref A.tr, .str (SX.S (dot nm))] ∧ TreeAt T H A S ∧ S.length < 60 ∧ WP nm ∧ dot nm ≠ sRoot ∧ GxR.TabG H T.PP ∧ GxR.TabG H T.PD ∧ GotL T H A S nm Q)
theorem not_root {nm : Nm} (wp : WP nm) (nr : dot nm ≠ sRoot) : inV (.str (SX.S (dot nm))) [V.str (SX.S []), V.str (SX.S sRoot)] = false := by
  have h1 : SX.S (dot nm) ≠ SX.S [] := fun z => dot_ne wp.ne wp.gp (SX.S_inj z)
  have h2 : SX.S (dot nm) ≠ SX.S sRoot := fun z => nr (SX.S_inj z)
  unfold inV
  rw [List.any_cons, List.any_cons, List.any_nil]
  show ((SX.S [] == SX.S (dot nm)) || ((SX.S sRoot == SX.S (dot nm)) || false)) = false
  rw [beq_eq_false_iff_ne.mpr h1.symm, beq_eq_false_iff_ne.mpr h2.symm]
  rfl
theorem ok_get (T : Txt K mg) (TP : GxR.TabB base mg T.cP T.PP) (TD : GxR.TabB base mg T.cD T.PD) : FnOk P w K mg base (L2.CX P w) 7 T.a_LoggerTree_getLogger T.fd_LoggerTree_getLogger ["self", "name"] (spGet T) := by
  have G_LoggerTree_grow : FnOk P w K mg base CX0 3 _ _ _ (spGrowT T) := ok_grow T
  have G_is_logger_name : FnOk P w K mg base CX0 6 _ _ _ (spDotted T.PP T.PD) := ok_lname T TP TD
  refine T.F_LoggerTree_getLogger.ok sc_LoggerTree_getLogger (fun vs H Q E h => ?_) (fun cdv A outer s H vs Q E hr h => ?_)
  · obtain ⟨A, S, nm, rfl, _⟩ := h.out
    rfl
  · obtain ⟨A, S, nm, rfl, t, lt60, wp, nr, tP, tD, kQ⟩ := h.out
    have hu := hu_of hr
    have hu64 := hr.units
    refine ⟨_, (pss_cons (ps_if (pt_not (pt_val (pe_call G_is_logger_name (hr.mono (by first | decide | omega)) rfl T.D_is_logger_name.g T.D_is_logger_name.F.kp T.D_is_logger_name.b .nil pass0 (pa_cons (pv 1) pa_nil))))
    (pss_one (ps_raise rfl (takes_of rfl rfl rfl rfl) (pmk_err T.E_BadName hr (pa_cons (pv 1) pa_nil) rfl)))
    pss_nil)
  (pss_cons (ps_if (pt_cmpR op_in_seq (pv 1) (C8.pe_gc rfl T.k_ROOT_NAMES) rfl)
    (pss_one (ps_ret (pe_fld (pv 0) rfl)))
    pss_nil)
  (pss_cons (ps_if (pt_cmp (pc_dnotin hu (pv 1) (pe_fld (pv 0) rfl)))
    (pss_one (ps_expr (pe_meth (pv 0) T.o_LoggerTree.cl T.Me_LoggerTree_grow G_LoggerTree_grow (hr.mono (by first | decide | omega)) T.b_LoggerTree_grow .nil pass0 (pa_cons (pv 1) pa_nil))))
    pss_nil)
  (pss_one (ps_ret (pe_dget hu (pe_fld (pv 0) rfl) (pv 1) (fun _ _ => rfl))))))), ?_⟩
    walk_at "sx"
    refine .a ⟨nm, rfl, wp, tP, tD, fun H1 s1 => ?_⟩
    refine ⟨true, rfl, if_false_of rfl ?_⟩
    have t1 := t.same s1
    have htr1 := t1.tr
    have hnd1 := t1.nd
    walk_at "sx"
    refine ⟨T.aRN, _, rfl, .inr (T.t_ROOT_NAMES _), rfl, rfl, ?_⟩
    refine ⟨_, rfl, if_false_of (not_root wp nr) ?_⟩
    walk_at "sx"
    refine ⟨A.nd, _, rfl, DGet.k (k := Sum.inr (SX.S (dot nm))) hnd1, ?_⟩
    rw [t1.at_ wp.gp, Option.isSome_map, getL_isSome]
    refine ⟨_, rfl, ?_⟩
    by_cases hin : nm ∈ names S
    · refine if_false_of (c := !decide (nm ∈ names S)) (by rw [decide_eq_true hin]; rfl) ?_
      walk_at "sx"
      exact ⟨A.nd, _, rfl, t1.get wp.gp hin, kQ H1 S t1 (.inl ⟨rfl, s1⟩) hin⟩
    · refine if_true_of (c := !decide (nm ∈ names S)) (by rw [decide_eq_false hin]; rfl) ?_
      walk_at "sx"
      refine .a ⟨A, S, nm, rfl, t1, lt60, wp, hin, fun H2 L e1 e2 e3 e4 t2 e5 e6 e7 e8 e9 e10 fr => ?_⟩
      have htr2 := t2.tr
      have hm : nm ∈ names (S ++ [L]) := by rw [names_app, e1]; exact List.mem_append_right _ List.mem_cons_self
      walk_at "sx"
      exact ⟨A.nd, _, rfl, t2.get wp.gp hm, kQ H2 _ t2 (.inr ⟨hin, s1.fr.trans (fr.t t1.ntb), L, rfl, e1, e2, e3, e4, s1.free e5, e6, e7, s1.free e8, s1.free e9, e10⟩) hm⟩
def spGetY (T : Txt K mg) : Sp := fun vs H Q _ => Hd (∃ (A : TA) (S : List Lg) (nm : Nm) (dy : Addr) (fy : List (Str × V)), vs = [.ref A.y, .str (SX.S (dot nm))] ∧ H A.y = some (.ins T.C_Yard dy fy) ∧ fy.lookup ("tree" : Str) = some (.ref A.tr) ∧ TreeAt T H A S ∧ S.length < 60 ∧ WP nm ∧ dot nm ≠ sRoot ∧ GxR.TabG H T.PP ∧ GxR.TabG H T.PD ∧ GotL T H A S nm Q)
theorem ok_getY (T : Txt K mg) (TP : GxR.TabB base mg T.cP T.PP) (TD : GxR.TabB base mg T.cD T.PD) : FnOk P w K mg base (L2.CX P w) 8 T.a_Yard_getLogger T.fd_Yard_getLogger ["self", "name"] (spGetY T) := by
  have G_LoggerTree_getLogger : FnOk P w K mg base (L2.CX P w) 7 _ _ _ (spGet T) := ok_get T TP TD
  refine T.F_Yard_getLogger.ok sc_Yard_getLogger (fun vs H Q E h => ?_) (fun cdv A outer s H vs Q E hr h => ?_)
  · obtain ⟨A, S, nm, dy, fy, rfl, _⟩ := h.out
    rfl
  · obtain ⟨A, S, nm, dy, fy, rfl, hy, lt, t, lt60, wp, nr, tP, tD, kQ⟩ := h.out
    have hu := hu_of hr
    have hu64 := hr.units
    refine ⟨_, (pss_one (ps_ret (pe_meth (pe_fld (pv 0) rfl) T.o_LoggerTree.cl T.Me_LoggerTree_getLogger G_LoggerTree_getLogger (hr.mono (by first | decide | omega)) T.b_LoggerTree_getLogger .nil (passes_call (takes_of rfl rfl rfl rfl) (fun _ _ _ _ h => h)) (pa_cons (pv 1) pa_nil)))), ?_⟩
    walk_at "sx"
    refine ⟨A.y, T.C_Yard, dy, fy, _, rfl, hy, T.o_Yard.cl, T.o_Yard.na _ (by decide), lt, ?_⟩
    have htr := t.tr
    walk_at "sx"
    exact .a ⟨A, S, nm, rfl, t, lt60, wp, nr, tP, tD, kQ⟩
end
end My

namespace My
open PySem PySem.Spec PyProof.Rows L2 SuX LTr DN
local macro_rules | `(tactic| walk_at "hp") => `(tactic| first | assumption | exact upd_same | (refine Eq.trans (upd_ne (by first | assumption | (apply Ne.symm; assumption))) ?_; walk_at "hp"))
local macro_rules | `(tactic| walk_at "ixl") => `(tactic| (refine' ⟨_, ?xs, _, ?vv, rfl, rfl, SqL.of ?hh, ?aa, ?qq⟩; (case hh => walk_at "hp"); (case aa => rfl)))
local macro_rules | `(tactic| walk_at "setl") => `(tactic| (refine' ⟨_, ?xs, _, ?jj, rfl, rfl, ?hh, ?aa, ?qq⟩; (case hh => walk_at "hp"); (case aa => rfl)))
local macro_rules | `(tactic| walk_at "cond") => `(tactic| first | exact ⟨_, rfl⟩ | exact Nat.le_of_lt (small1000 (Nat.le_of_ble_eq_true rfl)) | decide | omega | (dsimp only; omega) | exact ⟨by decide, by decide⟩ | exact Or.inr ⟨by decide, by decide⟩ | exact Or.inl ⟨by decide, by decide⟩ | exact ⟨by decide, by decide, by decide⟩ | exact ⟨by omega, by omega⟩ | exact ⟨by omega, by omega, by omega⟩ | (simp only [List.length_cons, List.length_nil, List.length_append, List.length_take, List.length_drop]; omega) | (refine ⟨?_, ?_, ?_⟩ <;> first | decide | omega | (simp only [List.length_cons, List.length_nil, List.length_append, List.length_take, List.length_drop, Option.getD_some, Option.getD_none]; omega)))
local macro_rules | `(tactic| walk_at "st") => `(tactic| repeat (first | refine ⟨_, rfl, ?_⟩ | refine ⟨_, _, rfl, rfl, ?_⟩ | walk_at "ixl" | walk_at "setl" | refine ⟨rfl, ?_⟩ | refine Or.inl ⟨_, rfl, ?_⟩ | refine And.intro (by walk_at "cond") ?_))
local macro_rules | `(tactic| walk_at "cls") => `(tactic| first | exact OC.cl (by assumption) | exact (‹Txt _ _›).o_Clock.cl | exact (‹Txt _ _›).o_LevelTable.cl | exact (‹Txt _ _›).o_Store.cl | exact (‹Txt _ _›).o_Written.cl | exact (‹Txt _ _›).o_Roster.cl | exact (‹Txt _ _›).o_Handler.cl | exact (‹Txt _ _›).o_Logger.cl | exact (‹Txt _ _›).o_LoggerTree.cl | exact (‹Txt _ _›).o_StreamHandler.cl | exact (‹Txt _ _›).o_Yard.cl)
local macro_rules | `(tactic| walk_at "na") => `(tactic| first | (refine na_of (by assumption) ?_; decide) | (refine na_of (‹Txt _ _›).o_Clock ?_; decide) | (refine na_of (‹Txt _ _›).o_LevelTable ?_; decide) | (refine na_of (‹Txt _ _›).o_Store ?_; decide) | (refine na_of (‹Txt _ _›).o_Written ?_; decide) | (refine na_of (‹Txt _ _›).o_Roster ?_; decide) | (refine na_of (‹Txt _ _›).o_Handler ?_; decide) | (refine na_of (‹Txt _ _›).o_Logger ?_; decide) | (refine na_of (‹Txt _ _›).o_LoggerTree ?_; decide) | (refine na_of (‹Txt _ _›).o_StreamHandler ?_; decide) | (refine na_of (‹Txt _ _›).o_Yard ?_; decide))
local macro_rules | `(tactic| walk_at "fld") => `(tactic| (refine' ⟨_, _, _, _, ?vv, rfl, ?hh, ?cc, ?nn, ?ll, ?qq⟩; (case hh => walk_at "hp"); (case cc => walk_at "cls"); (case nn => walk_at "na"); (case ll => exact rfl)))
local macro_rules | `(tactic| walk_at "sto") => `(tactic| (refine' ⟨_, _, _, _, rfl, ?hh, ?cc, ?nn, ?ll, ?qq⟩; (case hh => walk_at "hp"); (case cc => walk_at "cls"); (case nn => walk_at "na"); (case ll => first | exact Nat.le_of_ble_eq_true rfl | assumption)))
local macro_rules | `(tactic| walk_at "mth") => `(tactic| (refine' ⟨_, _, _, rfl, ?hh, ?ll, ?qq⟩; (case hh => walk_at "hp"); (case ll => exact rfl)))
local macro_rules | `(tactic| walk_at "sx") => `(tactic| repeat (first | refine ⟨_, rfl, ?_⟩ | refine ⟨_, _, rfl, rfl, ?_⟩ | walk_at "ixl" | walk_at "setl" | refine ⟨rfl, ?_⟩ | refine Or.inl ⟨_, rfl, ?_⟩ | walk_at "fld" | walk_at "sto" | walk_at "mth" | refine And.intro (by walk_at "cond") ?_))
/-! ### the level that holds -/
def lvOf (A : TA) (S : List Lg) (n : Nm) : Int := match getL S n with
  | some L => L.lv
  | none => A.rlv
def dsOf (A : TA) (S : List Lg) (n : Nm) : Bool := match getL S n with
  | some L => L.ds
  | none => A.rds
/-- a node, and those above it -/
def chF (S : List Nm) : Nat → Nm → List Nm
  | 0, n => [n]
  | k + 1, n => if n = [] then [n] else n :: chF S k (parN S n)
def chain (S : List Nm) (n : Nm) : List Nm := chF S n.length n
def effC (lv : Nm → Int) : List Nm → Int
  | [] => 0
  | n :: r => if lv n ≠ 0 then lv n else effC lv r
def eff (A : TA) (S : List Lg) (n : Nm) : Int := effC (lvOf A S) (chain (names S) n)
theorem chF_nil (S : List Nm) : ∀ k, chF S k [] = [[]]
  | 0 => rfl
  | k + 1 => by unfold chF; rw [if_pos rfl]
theorem chF_cons (S : List Nm) {k : Nat} {n : Nm} (h0 : n ≠ []) (h : n.length ≤ k) : ∃ j, k = j + 1 ∧ chF S k n = n :: chF S j (parN S n) ∧ (parN S n).length ≤ j := by
  have l0 := List.length_pos_iff.mpr h0
  obtain ⟨j, rfl⟩ : ∃ j, k = j + 1 := ⟨k - 1, by omega⟩
  refine ⟨j, rfl, ?_, ?_⟩
  · conv => lhs; unfold chF
    rw [if_neg h0]
  · unfold parN
    rw [List.length_take]
    have := nk_le S n (n.length - 1)
    omega
theorem TreeAt.at1 {K : PySem.W.Frag} {mg : Str → Option Value} {T : Txt K mg} {H : Hp} {A : TA} {S : List Lg} (t : TreeAt T H A S) {n : Nm} (hn : n = [] ∨ n ∈ names S) :
    ∃ d nm pp h f, H (adr A.rt S n) = some (.ins T.C_Logger d (fLgG A.tr A.y nm (lvOf A S n) pp (dsOf A S n) h f (if n = [] then .non else .ref (parA A.rt S n)))) := by
  rcases hn with rfl | hn
  · rw [t.wf.root, if_pos rfl]
    unfold lvOf dsOf
    rw [t.wf.no0]
    exact ⟨_, _, _, _, _, t.rt⟩
  · obtain ⟨L, hL, rfl⟩ := List.mem_map.mp hn
    have hg := getL_mem t.wf.nn hL
    rw [adr_of hg, if_neg (t.wf.ne L hL)]
    unfold lvOf dsOf
    rw [hg]
    exact ⟨_, _, _, _, _, t.lg L hL⟩
section
variable {P : Program} {w : World} {K : PySem.W.Frag} {mg : Str → Option Value} {base : Heap}
def spEff (T : Txt K mg) : Sp := fun vs H Q _ => Hd (∃ (A : TA) (S : List Lg) (n : Nm), vs = [.ref (adr A.rt S n)] ∧ (n = [] ∨ n ∈ names S) ∧ TreeAt T H A S ∧ Q (.int (eff A S n)) H)
theorem ok_eff (T : Txt K mg) : FnOk P w K mg base CX0 1 T.a_Logger_getEffectiveLevel T.fd_Logger_getEffectiveLevel ["self"] (spEff T) := by
  refine T.F_Logger_getEffectiveLevel.ok sc_Logger_getEffectiveLevel (fun vs H Q E h => ?_) (fun cdv A outer s H vs Q E hr h => ?_)
  · obtain ⟨A, S, n, rfl, _⟩ := h.out
    rfl
  · obtain ⟨A, S, n, rfl, hn, t, k⟩ := h.out
    refine ⟨_, (pss_cons (ps_set (i := 1) sc_Logger_getEffectiveLevel.nd rfl (by first | exact Or.inl rfl | exact Or.inr rfl) (pv 0))
  (pss_cons (ps_while PassesOwn.never (pt_cmpR op_notN (pv 1) pe_non (nomark _))
    (pss_cons (ps_if (pt_cmpR op_ne (pe_fld (pv 1) rfl) (C8.pe_gc rfl T.k_NOTSET) (nomark _))
    (pss_one (ps_ret (pe_fld (pv 1) rfl)))
    pss_nil)
  (pss_one (ps_set (i := 1) sc_Logger_getEffectiveLevel.nd rfl (by first | exact Or.inl rfl | exact Or.inr rfl) (pe_fld (pv 1) rfl)))))
  (pss_one (ps_ret (C8.pe_gc rfl T.k_NOTSET))))), ?_⟩
    walk_at "sx"
    refine while_ex (fun m σ H1 => H1 = H ∧ ((m = 0 ∧ σ = [some (.ref (adr A.rt S n)), some .non] ∧ eff A S n = 0) ∨ ∃ j x, m = j + 1 ∧ σ = [some (.ref (adr A.rt S n)), some (.ref (adr A.rt S x))] ∧ (x = [] ∨ x ∈ names S) ∧ x.length ≤ j ∧ eff A S n = effC (lvOf A S) (chF (names S) j x)))
      (fun σ H1 => H1 = H ∧ eff A S n = 0) ⟨n.length + 1, rfl, .inr ⟨n.length, n, rfl, rfl, hn, Nat.le_refl _, rfl⟩⟩ ?_ ?_
    · rintro σ H2 ⟨rfl, e0⟩
      walk_at "sx"
      rw [e0] at k
      exact k
    · rintro R fin m σ H2 ⟨rfl, c⟩ NW hNW
      rcases c with ⟨rfl, rfl, e0⟩ | ⟨j, x, rfl, rfl, hx, lx, ex⟩
      · walk_at "sx"
        refine if_false_of rfl ?_
        exact fin _ _ ⟨rfl, e0⟩
      · obtain ⟨d, nm, pp, hh, hf, hme⟩ := t.at1 hx
        walk_at "sx"
        refine if_true_of (by rw [decide_eq_false (fun z => nomatch z)]; rfl) ⟨NW, by rw [hNW]; exact fun _ _ => Hd.out, ?_⟩
        walk_at "sx"
        have e1 : effC (lvOf A S) (chF (names S) j x) = if lvOf A S x ≠ 0 then lvOf A S x else if x = [] then 0 else effC (lvOf A S) (chF (names S) (j - 1) (parN (names S) x)) := by
          by_cases h0 : x = []
          · subst h0
            rw [chF_nil, if_pos rfl]
            rfl
          · obtain ⟨i, rfl, e, _⟩ := chF_cons (names S) h0 lx
            rw [e, if_neg h0]
            rfl
        by_cases hl : lvOf A S x = 0
        · refine if_false_of (by rw [hl]; rfl) ?_
          walk_at "sx"
          rw [hNW]
          rw [if_neg (fun z => z hl)] at e1
          by_cases h0 : x = []
          · rw [if_pos h0] at e1 ⊢
            walk_at "sx"
            exact .a ⟨0, Nat.succ_pos _, rfl, .inl ⟨rfl, rfl, ex.trans e1⟩⟩
          · rw [if_neg h0] at e1 ⊢
            obtain ⟨i, rfl, _, l2⟩ := chF_cons (names S) h0 lx
            walk_at "sx"
            exact .a ⟨i + 1, Nat.lt_succ_self _, rfl, .inr ⟨i, parN (names S) x, rfl, rfl, parN_or _ _, l2, ex.trans e1⟩⟩
        · refine if_true_of (by rw [decide_eq_false (fun z => hl (V.int.inj z))]; rfl) ?_
          walk_at "sx"
          rw [ex, e1, if_pos hl] at k
          exact k
def spBar (T : Txt K mg) : Sp := fun vs H Q _ => Hd (∃ (A : TA), vs = [.ref A.tr] ∧ H A.tr = some (.ins T.C_LoggerTree A.dtr (fTrG A)) ∧ Q (.int A.bar) H)
theorem ok_bar (T : Txt K mg) : FnOk P w K mg base CX0 1 T.a_LoggerTree_bar T.fd_LoggerTree_bar ["self"] (spBar T) := by
  refine T.F_LoggerTree_bar.ok sc_LoggerTree_bar (fun vs H Q E h => ?_) (fun cdv A outer s H vs Q E hr h => ?_)
  · obtain ⟨A, rfl, _⟩ := h.out
    rfl
  · obtain ⟨A, rfl, ht, k⟩ := h.out
    refine ⟨_, (pss_one (ps_ret (pe_fld (pv 0) rfl))), ?_⟩
    walk_at "sx"
    exact k
def enB (A : TA) (S : List Lg) (n : Nm) (i : Int) : Bool := !dsOf A S n && (decide (A.bar < i) && decide (eff A S n ≤ i))
def spEnabled (T : Txt K mg) : Sp := fun vs H Q _ => Hd (∃ (A : TA) (S : List Lg) (n : Nm) (i : Int), vs = [.ref (adr A.rt S n), .int i] ∧ (n = [] ∨ n ∈ names S) ∧ TreeAt T H A S ∧ Q (.bl (enB A S n i)) H)
theorem ok_enabled (T : Txt K mg) : FnOk P w K mg base CX0 2 T.a_Logger_isEnabledFor T.fd_Logger_isEnabledFor ["self", "level"] (spEnabled T) := by
  have G_LoggerTree_bar : FnOk P w K mg base CX0 1 _ _ _ (spBar T) := ok_bar T
  have G_Logger_getEffectiveLevel : FnOk P w K mg base CX0 1 _ _ _ (spEff T) := ok_eff T
  refine T.F_Logger_isEnabledFor.ok sc_Logger_isEnabledFor (fun vs H Q E h => ?_) (fun cdv A outer s H vs Q E hr h => ?_)
  · obtain ⟨A, S, n, i, rfl, _⟩ := h.out
    rfl
  · obtain ⟨A, S, n, i, rfl, hn, t, k⟩ := h.out
    obtain ⟨d, nm, pp, hh, hf, hme⟩ := t.at1 hn
    have htr := t.tr
    refine ⟨_, (pss_cons (ps_if (PW.pt (pw_or (pt_val (pe_fld (pv 0) rfl)) (pw_or1 (pt_cmpR op_le (pv 1) (pe_meth0 (pe_fld (pv 0) rfl) T.o_LoggerTree.cl T.Me_LoggerTree_bar G_LoggerTree_bar (hr.mono (by first | decide | omega)) T.b_LoggerTree_bar .nil pass0) (nomark _)))))
    (pss_one (ps_ret pe_bl))
    pss_nil)
  (pss_one (ps_ret (pe_cmpR op_ge (pv 1) (pe_meth0 (pv 0) T.o_Logger.cl T.Me_Logger_getEffectiveLevel G_Logger_getEffectiveLevel (hr.mono (by first | decide | omega)) T.b_Logger_getEffectiveLevel .nil pass0) (nomark _))))), ?_⟩
    walk_at "sx"
    unfold enB at k
    cases hd : dsOf A S n with
    | true =>
      rw [hd] at k
      refine if_true_of rfl ?_
      refine if_true_of rfl ?_
      walk_at "sx"
      exact k
    | false =>
      rw [hd] at k
      refine if_false_of rfl ?_
      walk_at "sx"
      refine .a ⟨A, rfl, htr, ?_⟩
      walk_at "sx"
      by_cases hb : i ≤ A.bar
      · refine if_true_of (decide_eq_true hb) ?_
        rw [decide_eq_false (show ¬ A.bar < i by omega)] at k
        walk_at "sx"
        exact k
      · refine if_false_of (decide_eq_false hb) ?_
        rw [decide_eq_true (show A.bar < i by omega)] at k
        walk_at "sx"
        refine .a ⟨A, S, n, rfl, hn, t, ?_⟩
        walk_at "sx"
        exact k
end
end My

namespace My
open PySem PySem.Spec PyProof.Rows L2 SuX LTr DN
local macro_rules | `(tactic| walk_at "hp") => `(tactic| first | assumption | exact upd_same | (refine Eq.trans (upd_ne (by first | assumption | (apply Ne.symm; assumption))) ?_; walk_at "hp"))
local macro_rules | `(tactic| walk_at "ixl") => `(tactic| (refine' ⟨_, ?xs, _, ?vv, rfl, rfl, SqL.of ?hh, ?aa, ?qq⟩; (case hh => walk_at "hp"); (case aa => rfl)))
local macro_rules | `(tactic| walk_at "setl") => `(tactic| (refine' ⟨_, ?xs, _, ?jj, rfl, rfl, ?hh, ?aa, ?qq⟩; (case hh => walk_at "hp"); (case aa => rfl)))
local macro_rules | `(tactic| walk_at "cond") => `(tactic| first | exact ⟨_, rfl⟩ | exact Nat.le_of_lt (small1000 (Nat.le_of_ble_eq_true rfl)) | decide | omega | (dsimp only; omega) | exact ⟨by decide, by decide⟩ | exact Or.inr ⟨by decide, by decide⟩ | exact Or.inl ⟨by decide, by decide⟩ | exact ⟨by decide, by decide, by decide⟩ | exact ⟨by omega, by omega⟩ | exact ⟨by omega, by omega, by omega⟩ | (simp only [List.length_cons, List.length_nil, List.length_append, List.length_take, List.length_drop]; omega) | (refine ⟨?_, ?_, ?_⟩ <;> first | decide | omega | (simp only [List.length_cons, List.length_nil, List.length_append, List.length_take, List.length_drop, Option.getD_some, Option.getD_none]; omega)))
local macro_rules | `(tactic| walk_at "st") => `(tactic| repeat (first | refine ⟨_, rfl, ?_⟩ | refine ⟨_, _, rfl, rfl, ?_⟩ | walk_at "ixl" | walk_at "setl" | refine ⟨rfl, ?_⟩ | refine Or.inl ⟨_, rfl, ?_⟩ | refine And.intro (by walk_at "cond") ?_))
local macro_rules | `(tactic| walk_at "cls") => `(tactic| first | exact OC.cl (by assumption) | exact (‹Txt _ _›).o_Clock.cl | exact (‹Txt _ _›).o_LevelTable.cl | exact (‹Txt _ _›).o_Store.cl | exact (‹Txt _ _›).o_Written.cl | exact (‹Txt _ _›).o_Roster.cl | exact (‹Txt _ _›).o_Handler.cl | exact (‹Txt _ _›).o_Logger.cl | exact (‹Txt _ _›).o_LoggerTree.cl | exact (‹Txt _ _›).o_StreamHandler.cl | exact (‹Txt _ _›).o_Yard.cl)
local macro_rules | `(tactic| walk_at "na") => `(tactic| first | (refine na_of (by assumption) ?_; decide) | (refine na_of (‹Txt _ _›).o_Clock ?_; decide) | (refine na_of (‹Txt _ _›).o_LevelTable ?_; decide) | (refine na_of (‹Txt _ _›).o_Store ?_; decide) | (refine na_of (‹Txt _ _›).o_Written ?_; decide) | (refine na_of (‹Txt _ _›).o_Roster ?_; decide) | (refine na_of (‹Txt _ _›).o_Handler ?_; decide) | (refine na_of (‹Txt _ _›).o_Logger ?_; decide) | (refine na_of (‹Txt _ _›).o_LoggerTree ?_; decide) | (refine na_of (‹Txt _ _›).o_StreamHandler ?_; decide) | (refine na_of (‹Txt _ _›).o_Yard ?_; decide))
local macro_rules | `(tactic| walk_at "fld") => `(tactic| (refine' ⟨_, _, _, _, ?vv, rfl, ?hh, ?cc, ?nn, ?ll, ?qq⟩; (case hh => walk_at "hp"); (case cc => walk_at "cls"); (case nn => walk_at "na"); (case ll => exact rfl)))
local macro_rules | `(tactic| walk_at "sto") => `(tactic| (refine' ⟨_, _, _, _, rfl, ?hh, ?cc, ?nn, ?ll, ?qq⟩; (case hh => walk_at "hp"); (case cc => walk_at "cls"); (case nn => walk_at "na"); (case ll => first | exact Nat.le_of_ble_eq_true rfl | assumption)))
local macro_rules | `(tactic| walk_at "mth") => `(tactic| (refine' ⟨_, _, _, rfl, ?hh, ?ll, ?qq⟩; (case hh => walk_at "hp"); (case ll => exact rfl)))
local macro_rules | `(tactic| walk_at "sx") => `(tactic| repeat (first | refine ⟨_, rfl, ?_⟩ | refine ⟨_, _, rfl, rfl, ?_⟩ | walk_at "ixl" | walk_at "setl" | refine ⟨rfl, ?_⟩ | refine Or.inl ⟨_, rfl, ?_⟩ | walk_at "fld" | walk_at "sto" | walk_at "mth" | refine And.intro (by walk_at "cond") ?_))
/-! ### a level set in the tree -/
section
variable {S : List Lg} {f : Lg → Lg}
theorem names_map (hn : ∀ L, (f L).nm = L.nm) : names (S.map f) = names S := by
  unfold names
  rw [List.map_map]
  exact List.map_congr_left fun L _ => hn L
theorem getL_map (hn : ∀ L, (f L).nm = L.nm) (n : Nm) : getL (S.map f) n = (getL S n).map f := by
  induction S with
  | nil => rfl
  | cons L r ih =>
    rw [List.map_cons]
    by_cases e : L.nm = n
    · have e1 : getL (L :: r) n = some L := by simp [getL, e]
      have e2 : getL (f L :: r.map f) n = some (f L) := by simp [getL, hn, e]
      rw [e1, e2]; rfl
    · have e1 : getL (L :: r) n = getL r n := by simp [getL, e]
      have e2 : getL (f L :: r.map f) n = getL (r.map f) n := by simp [getL, hn, e]
      rw [e1, e2, ih]
theorem adr_map (hn : ∀ L, (f L).nm = L.nm) (ha : ∀ L, (f L).a = L.a) (rt : Addr) (n : Nm) : adr rt (S.map f) n = adr rt S n := by
  unfold adr
  rw [getL_map hn]
  cases getL S n with
  | none => rfl
  | some L => exact ha L
theorem parA_map (hn : ∀ L, (f L).nm = L.nm) (ha : ∀ L, (f L).a = L.a) (rt : Addr) (n : Nm) : parA rt (S.map f) n = parA rt S n := by
  unfold parA
  rw [names_map hn, adr_map hn ha]
theorem kvN_map (hn : ∀ L, (f L).nm = L.nm) (ha : ∀ L, (f L).a = L.a) : kvN (S.map f) = kvN S := by
  unfold kvN
  rw [List.map_map]
  refine List.map_congr_left fun L _ => ?_
  show ((Sum.inr (SX.S (dot (f L).nm)), V.ref (f L).a) : Key × V) = _
  rw [hn, ha]
theorem wf_map {rt : Addr} (w : Wf rt S) (hn : ∀ L, (f L).nm = L.nm) (ha : ∀ L, (f L).a = L.a) : Wf rt (S.map f) := by
  refine ⟨by rw [names_map hn]; exact w.nn, ?_, fun L hL => ?_, fun L hL => ?_⟩
  · rw [List.map_map, show ((fun L : Lg => L.a) ∘ f) = fun L => L.a from funext ha]
    exact w.an
  · obtain ⟨M, hM, rfl⟩ := List.mem_map.mp hL
    rw [ha]; exact w.rn M hM
  · obtain ⟨M, hM, rfl⟩ := List.mem_map.mp hL
    rw [hn]; exact w.ne M hM
end
def setF (n : Nm) (i : Int) (L : Lg) : Lg := if L.nm = n then { L with lv := i } else L
theorem setF_nm (n : Nm) (i : Int) (L : Lg) : (setF n i L).nm = L.nm := by unfold setF; split <;> rfl
theorem setF_a (n : Nm) (i : Int) (L : Lg) : (setF n i L).a = L.a := by unfold setF; split <;> rfl
def setA (A : TA) (n : Nm) (i : Int) : TA := if n = [] then { A with rlv := i } else A
theorem setA_rt (A : TA) (n : Nm) (i : Int) : (setA A n i).rt = A.rt := by unfold setA; split <;> rfl
theorem setA_ (A : TA) (n : Nm) (i : Int) : (setA A n i).tr = A.tr ∧ (setA A n i).nd = A.nd ∧ (setA A n i).y = A.y ∧ (setA A n i).lv = A.lv ∧ (setA A n i).bar = A.bar ∧ (setA A n i).rds = A.rds := by unfold setA; split <;> exact ⟨rfl, rfl, rfl, rfl, rfl, rfl⟩
theorem lvOf_set {A : TA} {S : List Lg} (w : Wf A.rt S) {n m : Nm} (i : Int) (hn : n = [] ∨ n ∈ names S) (hm : m = [] ∨ m ∈ names S) : lvOf (setA A n i) (S.map (setF n i)) m = if m = n then i else lvOf A S m := by
  unfold lvOf
  rw [getL_map (setF_nm n i)]
  rcases hm with rfl | hm
  · rw [w.no0]
    show (setA A n i).rlv = _
    unfold setA
    by_cases e : n = []
    · rw [if_pos e, if_pos e.symm]
    · rw [if_neg e, if_neg (Ne.symm e)]
  · obtain ⟨L, hL, rfl⟩ := List.mem_map.mp hm
    rw [getL_mem w.nn hL]
    show (setF n i L).lv = _
    unfold setF
    by_cases e : L.nm = n
    · rw [if_pos e, if_pos e]
    · rw [if_neg e, if_neg e]
theorem dsOf_set {A : TA} {S : List Lg} (n m : Nm) (i : Int) : dsOf (setA A n i) (S.map (setF n i)) m = dsOf A S m := by
  unfold dsOf
  rw [getL_map (setF_nm n i)]
  cases getL S m with
  | none => exact (setA_ A n i).2.2.2.2.2
  | some L =>
    show (setF n i L).ds = L.ds
    unfold setF
    split <;> rfl
section
variable {K : PySem.W.Frag} {mg : Str → Option Value} {T : Txt K mg} {H : Hp} {A : TA} {S : List Lg}
theorem TreeAt.rtt (t : TreeAt T H A S) : A.rt ≠ A.tr := fun z => by
  have := t.rt
  rw [z, t.tr] at this
  injection this with this
  injection this with _ _ q
  have := congrArg (fun l => l.head?.map (·.1)) q
  exact absurd (show (some ("yard" : Str)) = some "tree" from this) (by decide)
/-- the node's object, with its level set -/
theorem TreeAt.setLv (t : TreeAt T H A S) {n : Nm} (hn : n = [] ∨ n ∈ names S) (i : Int) : ∃ d nm pp h f, H (adr A.rt S n) = some (.ins T.C_Logger d (fLgG A.tr A.y nm (lvOf A S n) pp (dsOf A S n) h f (if n = [] then .non else .ref (parA A.rt S n)))) ∧
    TreeAt T (upd H (adr A.rt S n) (.ins T.C_Logger d (putF "level" (.int i) (fLgG A.tr A.y nm (lvOf A S n) pp (dsOf A S n) h f (if n = [] then .non else .ref (parA A.rt S n)))))) (setA A n i) (S.map (setF n i)) := by
  have sn := setF_nm n i
  have sa := setF_a n i
  have szm : (S.map (setF n i)).length ≤ 60 := by rw [List.length_map]; exact t.sz
  have wpm : ∀ L ∈ S.map (setF n i), WP L.nm := fun L hL => by
    obtain ⟨M, hM, rfl⟩ := List.mem_map.mp hL
    rw [sn]; exact t.wp M hM
  have ndt : A.nd ≠ A.rt := fun z => by have := t.rt; rw [← z, t.nd] at this; cases this
  rcases hn with rfl | hn
  · rw [t.wf.root, if_pos rfl]
    have e1 : lvOf A S [] = A.rlv := by unfold lvOf; rw [t.wf.no0]
    have e2 : dsOf A S [] = A.rds := by unfold dsOf; rw [t.wf.no0]
    have eA : setA A [] i = { A with rlv := i } := by unfold setA; rw [if_pos rfl]
    have eS : S.map (setF [] i) = S := by
      refine (List.map_congr_left fun L hL => ?_).trans (List.map_id S)
      unfold setF
      rw [if_neg (t.wf.ne L hL)]
      rfl
    rw [e1, e2, eA, eS]
    refine ⟨A.drt, sRoot, A.rpp, A.rh, A.rf, t.rt, ?_, ?_, upd_same, fun L hL => ?_, t.wp, t.wf, t.sz⟩
    · exact (upd_ne (Ne.symm t.rtt)).trans t.tr
    · exact (upd_ne ndt).trans t.nd
    · exact (upd_ne (t.wf.rn L hL)).trans (t.lg L hL)
  · obtain ⟨L0, hL0, rfl⟩ := List.mem_map.mp hn
    have hg := getL_mem t.wf.nn hL0
    have n0 := t.wf.ne L0 hL0
    have e1 : lvOf A S L0.nm = L0.lv := by unfold lvOf; rw [hg]
    have e2 : dsOf A S L0.nm = L0.ds := by unfold dsOf; rw [hg]
    have eA : setA A L0.nm i = A := by unfold setA; rw [if_neg n0]
    rw [adr_of hg, if_neg n0, e1, e2, eA]
    refine ⟨L0.d, dot L0.nm, L0.pp, L0.h, L0.f, t.lg L0 hL0, ?_, ?_, ?_, fun L hL => ?_, wpm, wf_map t.wf sn sa, szm⟩
    · exact (upd_ne fun z => t.nt (by rw [z]; exact List.mem_map_of_mem hL0)).trans t.tr
    · rw [kvN_map sn sa]
      exact (upd_ne fun z => t.nn (by rw [z]; exact List.mem_map_of_mem hL0)).trans t.nd
    · exact (upd_ne fun z => t.nr (by rw [z]; exact List.mem_map_of_mem hL0)).trans t.rt
    · obtain ⟨M, hM, rfl⟩ := List.mem_map.mp hL
      rw [sn, parA_map sn sa, sa]
      by_cases e : M.nm = L0.nm
      · obtain rfl : M = L0 := by
          have g2 := getL_mem t.wf.nn hM
          rw [e, hg] at g2
          exact (Option.some.inj g2).symm
        have ef : setF M.nm i M = { M with lv := i } := by unfold setF; rw [if_pos rfl]
        rw [ef]
        exact upd_same
      · have ef : setF L0.nm i M = M := by unfold setF; rw [if_neg e]
        rw [ef]
        exact (upd_ne fun z => e (by rw [an_inj t.wf.an hM hL0 z])).trans (t.lg M hM)
end
end My

namespace My
open PySem PySem.Spec PyProof.Rows L2 SuX LTr DN
local macro_rules | `(tactic| walk_at "hp") => `(tactic| first | assumption | exact upd_same | (refine Eq.trans (upd_ne (by first | assumption | (apply Ne.symm; assumption))) ?_; walk_at "hp"))
local macro_rules | `(tactic| walk_at "ixl") => `(tactic| (refine' ⟨_, ?xs, _, ?vv, rfl, rfl, SqL.of ?hh, ?aa, ?qq⟩; (case hh => walk_at "hp"); (case aa => rfl)))
local macro_rules | `(tactic| walk_at "setl") => `(tactic| (refine' ⟨_, ?xs, _, ?jj, rfl, rfl, ?hh, ?aa, ?qq⟩; (case hh => walk_at "hp"); (case aa => rfl)))
local macro_rules | `(tactic| walk_at "cond") => `(tactic| first | exact ⟨_, rfl⟩ | exact Nat.le_of_lt (small1000 (Nat.le_of_ble_eq_true rfl)) | decide | omega | (dsimp only; omega) | exact ⟨by decide, by decide⟩ | exact Or.inr ⟨by decide, by decide⟩ | exact Or.inl ⟨by decide, by decide⟩ | exact ⟨by decide, by decide, by decide⟩ | exact ⟨by omega, by omega⟩ | exact ⟨by omega, by omega, by omega⟩ | (simp only [List.length_cons, List.length_nil, List.length_append, List.length_take, List.length_drop]; omega) | (refine ⟨?_, ?_, ?_⟩ <;> first | decide | omega | (simp only [List.length_cons, List.length_nil, List.length_append, List.length_take, List.length_drop, Option.getD_some, Option.getD_none]; omega)))
local macro_rules | `(tactic| walk_at "st") => `(tactic| repeat (first | refine ⟨_, rfl, ?_⟩ | refine ⟨_, _, rfl, rfl, ?_⟩ | walk_at "ixl" | walk_at "setl" | refine ⟨rfl, ?_⟩ | refine Or.inl ⟨_, rfl, ?_⟩ | refine And.intro (by walk_at "cond") ?_))
local macro_rules | `(tactic| walk_at "cls") => `(tactic| first | exact OC.cl (by assumption) | exact (‹Txt _ _›).o_Clock.cl | exact (‹Txt _ _›).o_LevelTable.cl | exact (‹Txt _ _›).o_Store.cl | exact (‹Txt _ _›).o_Written.cl | exact (‹Txt _ _›).o_Roster.cl | exact (‹Txt _ _›).o_Handler.cl | exact (‹Txt _ _›).o_Logger.cl | exact (‹Txt _ _›).o_LoggerTree.cl | exact (‹Txt _ _›).o_StreamHandler.cl | exact (‹Txt _ _›).o_Yard.cl)
local macro_rules | `(tactic| walk_at "na") => `(tactic| first | (refine na_of (by assumption) ?_; decide) | (refine na_of (‹Txt _ _›).o_Clock ?_; decide) | (refine na_of (‹Txt _ _›).o_LevelTable ?_; decide) | (refine na_of (‹Txt _ _›).o_Store ?_; decide) | (refine na_of (‹Txt _ _›).o_Written ?_; decide) | (refine na_of (‹Txt _ _›).o_Roster ?_; decide) | (refine na_of (‹Txt _ _›).o_Handler ?_; decide) | (refine na_of (‹Txt _ _›).o_Logger ?_; decide) | (refine na_of (‹Txt _ _›).o_LoggerTree ?_; decide) | (refine na_of (‹Txt _ _›).o_StreamHandler ?_; decide) | (refine na_of (‹Txt _ _›).o_Yard ?_; decide))
local macro_rules | `(tactic| walk_at "fld") => `(tactic| (refine' ⟨_, _, _, _, ?vv, rfl, ?hh, ?cc, ?nn, ?ll, ?qq⟩; (case hh => walk_at "hp"); (case cc => walk_at "cls"); (case nn => walk_at "na"); (case ll => exact rfl)))
local macro_rules | `(tactic| walk_at "sto") => `(tactic| (refine' ⟨_, _, _, _, rfl, ?hh, ?cc, ?nn, ?ll, ?qq⟩; (case hh => walk_at "hp"); (case cc => walk_at "cls"); (case nn => walk_at "na"); (case ll => first | exact Nat.le_of_ble_eq_true rfl | assumption)))
local macro_rules | `(tactic| walk_at "mth") => `(tactic| (refine' ⟨_, _, _, rfl, ?hh, ?ll, ?qq⟩; (case hh => walk_at "hp"); (case ll => exact rfl)))
local macro_rules | `(tactic| walk_at "sx") => `(tactic| repeat (first | refine ⟨_, rfl, ?_⟩ | refine ⟨_, _, rfl, rfl, ?_⟩ | walk_at "ixl" | walk_at "setl" | refine ⟨rfl, ?_⟩ | refine Or.inl ⟨_, rfl, ?_⟩ | walk_at "fld" | walk_at "sto" | walk_at "mth" | refine And.intro (by walk_at "cond") ?_))
/-! ### a node's words, and the tree behind a change of them -/
def ppOf (A : TA) (S : List Lg) (n : Nm) : Bool := match getL S n with
  | some L => L.pp
  | none => A.rpp
structure LP where
  lv : Int
  pp : Bool
  ds : Bool
def lpOf (A : TA) (S : List Lg) (n : Nm) : LP := ⟨lvOf A S n, ppOf A S n, dsOf A S n⟩
def chL (n : Nm) (q : LP) (L : Lg) : Lg := if L.nm = n then { L with lv := q.lv, pp := q.pp, ds := q.ds } else L
def chA (A : TA) (n : Nm) (q : LP) : TA := if n = [] then { A with rlv := q.lv, rpp := q.pp, rds := q.ds } else A
theorem chL_nm (n : Nm) (q : LP) (L : Lg) : (chL n q L).nm = L.nm := by unfold chL; split <;> rfl
theorem chL_a (n : Nm) (q : LP) (L : Lg) : (chL n q L).a = L.a := by unfold chL; split <;> rfl
structure TAeq (A A' : TA) : Prop where
  tr : A'.tr = A.tr
  nd : A'.nd = A.nd
  y : A'.y = A.y
  lv : A'.lv = A.lv
  rt : A'.rt = A.rt
theorem chA_ (A : TA) (n : Nm) (q : LP) : TAeq A (chA A n q) := by unfold chA; split <;> exact ⟨rfl, rfl, rfl, rfl, rfl⟩
theorem chA_bar (A : TA) (n : Nm) (q : LP) : (chA A n q).bar = A.bar := by unfold chA; split <;> rfl
theorem lpOf_ch {A : TA} {S : List Lg} (w : Wf A.rt S) {n m : Nm} (q : LP) (hm : m = [] ∨ m ∈ names S) : lpOf (chA A n q) (S.map (chL n q)) m = if m = n then q else lpOf A S m := by
  unfold lpOf lvOf ppOf dsOf
  rw [getL_map (chL_nm n q)]
  rcases hm with rfl | hm
  · rw [w.no0]
    show (⟨(chA A n q).rlv, (chA A n q).rpp, (chA A n q).rds⟩ : LP) = _
    unfold chA
    by_cases e : n = []
    · rw [if_pos e, if_pos e.symm]
    · rw [if_neg e, if_neg (Ne.symm e)]
  · obtain ⟨L, hL, rfl⟩ := List.mem_map.mp hm
    rw [getL_mem w.nn hL]
    show (⟨(chL n q L).lv, (chL n q L).pp, (chL n q L).ds⟩ : LP) = _
    unfold chL
    by_cases e : L.nm = n
    · rw [if_pos e, if_pos e]
    · rw [if_neg e, if_neg e]
theorem lpOf_app {A : TA} {S : List Lg} {L : Lg} (h : L.nm ∉ names S) (x : Nm) : lpOf A (S ++ [L]) x = if x = L.nm then ⟨L.lv, L.pp, L.ds⟩ else lpOf A S x := by
  unfold lpOf lvOf ppOf dsOf
  by_cases e : x = L.nm
  · subst e
    rw [if_pos rfl, show getL (S ++ [L]) L.nm = some L by
      unfold getL
      rw [List.find?_append]
      have := getL_not h
      unfold getL at this
      rw [this]
      simp]
  · rw [if_neg e, getL_app e]
section
variable {K : PySem.W.Frag} {mg : Str → Option Value} {T : Txt K mg} {H : Hp} {A : TA} {S : List Lg}
theorem TreeAt.ch (t : TreeAt T H A S) {n : Nm} (hn : n = [] ∨ n ∈ names S) : ∃ d nm h f, H (adr A.rt S n) = some (.ins T.C_Logger d (fLgG A.tr A.y nm (lpOf A S n).lv (lpOf A S n).pp (lpOf A S n).ds h f (if n = [] then .non else .ref (parA A.rt S n)))) ∧
    ∀ q : LP, TreeAt T (upd H (adr A.rt S n) (.ins T.C_Logger d (fLgG A.tr A.y nm q.lv q.pp q.ds h f (if n = [] then .non else .ref (parA A.rt S n))))) (chA A n q) (S.map (chL n q)) := by
  have ndt : A.nd ≠ A.rt := fun z => by have := t.rt; rw [← z, t.nd] at this; cases this
  rcases hn with rfl | hn
  · rw [t.wf.root, if_pos rfl]
    have e1 : lpOf A S [] = ⟨A.rlv, A.rpp, A.rds⟩ := by unfold lpOf lvOf ppOf dsOf; rw [t.wf.no0]
    rw [e1]
    refine ⟨A.drt, sRoot, A.rh, A.rf, t.rt, fun q => ?_⟩
    have eA : chA A [] q = { A with rlv := q.lv, rpp := q.pp, rds := q.ds } := by unfold chA; rw [if_pos rfl]
    have eS : S.map (chL [] q) = S := by
      refine (List.map_congr_left fun L hL => ?_).trans (List.map_id S)
      unfold chL
      rw [if_neg (t.wf.ne L hL)]
      rfl
    rw [eA, eS]
    refine ⟨?_, ?_, upd_same, fun L hL => ?_, t.wp, t.wf, t.sz⟩
    · exact (upd_ne (Ne.symm t.rtt)).trans t.tr
    · exact (upd_ne ndt).trans t.nd
    · exact (upd_ne (t.wf.rn L hL)).trans (t.lg L hL)
  · obtain ⟨L0, hL0, rfl⟩ := List.mem_map.mp hn
    have hg := getL_mem t.wf.nn hL0
    have n0 := t.wf.ne L0 hL0
    have e1 : lpOf A S L0.nm = ⟨L0.lv, L0.pp, L0.ds⟩ := by unfold lpOf lvOf ppOf dsOf; rw [hg]
    rw [adr_of hg, if_neg n0, e1]
    refine ⟨L0.d, dot L0.nm, L0.h, L0.f, t.lg L0 hL0, fun q => ?_⟩
    have sn := chL_nm L0.nm q
    have sa := chL_a L0.nm q
    have eA : chA A L0.nm q = A := by unfold chA; rw [if_neg n0]
    rw [eA]
    refine ⟨?_, ?_, ?_, fun L hL => ?_, fun L hL => ?_, wf_map t.wf sn sa, by rw [List.length_map]; exact t.sz⟩
    · exact (upd_ne fun z => t.nt (by rw [z]; exact List.mem_map_of_mem hL0)).trans t.tr
    · rw [kvN_map sn sa]
      exact (upd_ne fun z => t.nn (by rw [z]; exact List.mem_map_of_mem hL0)).trans t.nd
    · exact (upd_ne fun z => t.nr (by rw [z]; exact List.mem_map_of_mem hL0)).trans t.rt
    · obtain ⟨M, hM, rfl⟩ := List.mem_map.mp hL
      rw [sn, parA_map sn sa, sa]
      by_cases e : M.nm = L0.nm
      · obtain rfl : M = L0 := by
          have g2 := getL_mem t.wf.nn hM
          rw [e, hg] at g2
          exact (Option.some.inj g2).symm
        have ef : chL M.nm q M = { M with lv := q.lv, pp := q.pp, ds := q.ds } := by unfold chL; rw [if_pos rfl]
        rw [ef]
        exact upd_same
      · have ef : chL L0.nm q M = M := by unfold chL; rw [if_neg e]
        rw [ef]
        exact (upd_ne fun z => e (by rw [an_inj t.wf.an hM hL0 z])).trans (t.lg M hM)
    · obtain ⟨M, hM, rfl⟩ := List.mem_map.mp hL
      rw [sn]; exact t.wp M hM
/-- the bar set -/
theorem TreeAt.setBar (t : TreeAt T H A S) (i : Int) : TreeAt T (upd H A.tr (.ins T.C_LoggerTree A.dtr (fTrG { A with bar := i }))) { A with bar := i } S := by
  refine ⟨upd_same, ?_, (upd_ne t.rtt).trans t.rt, fun L hL => (upd_ne fun z => t.nt (by rw [← z]; exact List.mem_map_of_mem hL)).trans (t.lg L hL), t.wp, t.wf, t.sz⟩
  exact (upd_ne fun z => by have := t.tr; rw [← z, t.nd] at this; cases this).trans t.nd
end
end My

namespace My
open PySem PySem.Spec PyProof.Rows L2 SuX
local macro_rules | `(tactic| walk_at "hp") => `(tactic| first | assumption | exact upd_same | (refine Eq.trans (upd_ne (by first | assumption | (apply Ne.symm; assumption))) ?_; walk_at "hp"))
local macro_rules | `(tactic| walk_at "ixl") => `(tactic| (refine' ⟨_, ?xs, _, ?vv, rfl, rfl, SqL.of ?hh, ?aa, ?qq⟩; (case hh => walk_at "hp"); (case aa => rfl)))
local macro_rules | `(tactic| walk_at "setl") => `(tactic| (refine' ⟨_, ?xs, _, ?jj, rfl, rfl, ?hh, ?aa, ?qq⟩; (case hh => walk_at "hp"); (case aa => rfl)))
local macro_rules | `(tactic| walk_at "cond") => `(tactic| first | exact ⟨_, rfl⟩ | exact Nat.le_of_lt (small1000 (Nat.le_of_ble_eq_true rfl)) | decide | omega | (dsimp only; omega) | exact ⟨by decide, by decide⟩ | exact Or.inr ⟨by decide, by decide⟩ | exact Or.inl ⟨by decide, by decide⟩ | exact ⟨by decide, by decide, by decide⟩ | exact ⟨by omega, by omega⟩ | exact ⟨by omega, by omega, by omega⟩ | (simp only [List.length_cons, List.length_nil, List.length_append, List.length_take, List.length_drop]; omega) | (refine ⟨?_, ?_, ?_⟩ <;> first | decide | omega | (simp only [List.length_cons, List.length_nil, List.length_append, List.length_take, List.length_drop, Option.getD_some, Option.getD_none]; omega)))
local macro_rules | `(tactic| walk_at "st") => `(tactic| repeat (first | refine ⟨_, rfl, ?_⟩ | refine ⟨_, _, rfl, rfl, ?_⟩ | walk_at "ixl" | walk_at "setl" | refine ⟨rfl, ?_⟩ | refine Or.inl ⟨_, rfl, ?_⟩ | refine And.intro (by walk_at "cond") ?_))
/-- o.name(..) of a builtin kind, in a block (a comprehension's) -/
theorem pe_bmK {X : Cx} {K : PySem.W.Frag} {b g : Expr} {gs : List Expr} {tb : TE} {ts : L2.TA} {m : Str} {p1 p2 : Pos} {T id : String} {r : V → List V → Hp → VK → Prop} (hK : X.K = K) (pa : PlainAttrs T) (slot : Slot T m id) (hty : typeOf (.builtin id) = pure (.type "method_descriptor")) (hm : MtR X id r) (hb : PE X b tb) (hg : PA X (g :: gs) ts)
    (k1 : attributeBase b m X.env (eval b X.env) = eval b X.env := by rfl) (k2 : ((backTo p2 (starEach (g :: gs) X.env)).all (fun z => !z.1) && (backToKw p2 (keywordEach [] X.env)).all (fun z => z.1.isSome) && decide ((g :: gs).length + ([] : List Keyword).length + (if ([] : List Keyword).isEmpty then 0 else 1) < 30)) = true := by rfl)
    (k3 : (p1.endLine == p2.line) = true := by rfl) (k4 : starEach (g :: gs) X.env = (false, eval g X.env) :: starEach gs X.env := by rfl) (k5 : (backTo p2 (starEach gs X.env)).any (·.1) = false := by rfl) : PE X (.Call (.Attribute b m p1) (g :: gs) [] p2) (tBM K T r tb ts) := by
  subst hK
  exact pe_bm pa slot hty hm hb hg k1 k2 k3 k4 k5
theorem op_eqOK {X : Cx} {K : PySem.W.Frag} (hK : X.K = K) (hu : X.A.units + 64 < cLine) : OpR X (compareOp .Eq) (OQ.rEqO K) := by
  subst hK
  exact OQ.op_eqO hu
/-- a comprehension over a list with a test, item by item; what stood stands -/
theorem lc_filt {α : Type} {K : PySem.W.Frag} {a : Addr} {g : TG} {tt : TT} {te : TE} {vs : List Nat} {σ : L2.St} {H : Hp} {D : Addr} {Qd : Hp → Prop} (is : List α) (h : α → V) (q : α → Bool) (f : α → V) (hl : H a = some (.lst (is.map h))) (hD : H D = none) (hz : is.length ≤ 1000)
    (hs : ∀ (i : Nat) (x : α), is[i]? = some x → ∀ H', Same H H' → ∀ (R : V → Hp → Prop) (N : Hp → Prop), (∀ H4, Same H' H4 → q x = true → R (f x) H4) → (∀ H4, Same H' H4 → q x = false → N H4) → g (h x) (wipe σ vs) H' fun σ2 H2 => wipe σ2 vs = wipe σ vs ∧ tt σ2 H2 fun b H3 => if b = true then te σ2 H3 R else N H3)
    (hq : ∀ H', Same H H' → H' D = some (.lst ((is.filter q).map f)) → Qd H') :
    ∃ W : Nat → Nat → Hp → Prop, (∃ m, W 0 m (upd H D (.lst []))) ∧ ∀ i m H, W i m H →
      ((Itl K a).stop i H ∧ Qd H) ∨ ((Itl K a).go i H ∧ ∃ Nx : Hp → Prop, (∀ H', Nx H' → ∃ m', m' < m ∧ W (i + 1) m' H') ∧ ∀ x H', (Itl K a).yld i H x H' → g x (wipe σ vs) H' fun σ2 H2 => wipe σ2 vs = wipe σ vs ∧ tt σ2 H2 fun b H3 =>
        if b = true then te σ2 H3 fun y H4 => ∃ acc, H4 D = some (.lst acc) ∧ acc.length < sizeLine ∧ Nx (upd H4 D (.lst (acc ++ [y]))) else Nx H3) := by
  refine lc_listN (xs := is.map h) (fun i H' => Same H H' ∧ H' D = some (.lst (((is.take i).filter q).map f))) ⟨same_put (Same.refl _) hD, by rw [upd_same]; rfl⟩ (fun i H' _ p => SqL.of (p.1 _ _ hl)) (fun i v H' hx p N hN => ?_) (fun H' p => hq H' p.1 (by rw [p.2, List.length_map, List.take_length]))
  obtain ⟨x, hi, rfl⟩ := map_at hx
  have tk := take_snoc hi
  refine hs i x hi H' p.1 (fun y H4 => ∃ acc, H4 D = some (.lst acc) ∧ acc.length < sizeLine ∧ N (upd H4 D (.lst (acc ++ [y])))) N (fun H4 s4 hq => ⟨_, s4 _ _ p.2, ?_, ?_⟩) fun H4 s4 hq => ?_
  · rw [List.length_map]
    have h1 := List.length_filter_le q (is.take i)
    have h2 : (is.take i).length ≤ is.length := by rw [List.length_take]; omega
    exact Nat.lt_of_le_of_lt (Nat.le_trans (Nat.le_trans h1 h2) hz) (by decide)
  · rw [hN]
    refine ⟨same_put (p.1.trans s4) hD, ?_⟩
    rw [upd_same, tk, List.filter_append, List.map_append, List.filter_cons, if_pos hq]
    rfl
  · rw [hN]
    refine ⟨p.1.trans s4, ?_⟩
    rw [s4 _ _ p.2, tk, List.filter_append, List.map_append, List.filter_cons, if_neg (by rw [hq]; exact Bool.false_ne_true)]
    simp
theorem comp_rng {lo : Int} {n : Nat} {D : Addr} {g : TG} {tt : TT} {te : TE} {σ : L2.St} {vs : List Nat} {H1 : Hp} {Q : Hp → Prop} (W : Nat → Hp → Prop) (h0 : W 0 (upd H1 D (.lst []))) (hend : ∀ H, W n H → Q H)
    (hs : ∀ (i : Nat) H, i < n → W i H → ∀ N : Hp → Prop, N = (fun H' => Hd (W (i + 1) H')) → g (.int (lo + i)) (wipe σ vs) H fun σ2 H2 => wipe σ2 vs = wipe σ vs ∧ tt σ2 H2 fun b H3 => if b = true then te σ2 H3 fun y H4 => ∃ acc, H4 D = some (.lst acc) ∧ acc.length < sizeLine ∧ N (upd H4 D (.lst (acc ++ [y]))) else N H3) :
    ∃ W : Nat → Nat → Hp → Prop, (∃ m, W 0 m (upd H1 D (.lst []))) ∧ ∀ i m H, W i m H → ((Itr lo n).stop i H ∧ Q H) ∨ ((Itr lo n).go i H ∧ ∃ Nx : Hp → Prop, (∀ H', Nx H' → ∃ m', m' < m ∧ W (i + 1) m' H') ∧
      ∀ x H', (Itr lo n).yld i H x H' → g x (wipe σ vs) H' fun σ2 H2 => wipe σ2 vs = wipe σ vs ∧ tt σ2 H2 fun b H3 => if b = true then te σ2 H3 fun y H4 => ∃ acc, H4 D = some (.lst acc) ∧ acc.length < sizeLine ∧ Nx (upd H4 D (.lst (acc ++ [y]))) else Nx H3) := by
  refine ⟨fun i m H => W i H ∧ m = n - i ∧ i ≤ n, ⟨_, h0, rfl, Nat.zero_le _⟩, ?_⟩
  rintro i m H ⟨hw, rfl, hi⟩
  by_cases hlt : i < n
  · refine .inr ⟨hlt, fun H' => Hd (W (i + 1) H'), fun H' z => ⟨n - (i + 1), by omega, z.out, rfl, by omega⟩, ?_⟩
    rintro x H' ⟨rfl, rfl⟩
    exact hs i H' hlt hw _ rfl
  · have e : i = n := by omega
    subst e
    exact .inl ⟨Nat.le_refl _, hend H hw⟩
end My

namespace My
open PySem PySem.Spec PyProof.Rows L2 SuX
local macro_rules | `(tactic| walk_at "hp") => `(tactic| first | assumption | exact upd_same | (refine Eq.trans (upd_ne (by first | assumption | (apply Ne.symm; assumption))) ?_; walk_at "hp"))
local macro_rules | `(tactic| walk_at "ixl") => `(tactic| (refine' ⟨_, ?xs, _, ?vv, rfl, rfl, SqL.of ?hh, ?aa, ?qq⟩; (case hh => walk_at "hp"); (case aa => rfl)))
local macro_rules | `(tactic| walk_at "setl") => `(tactic| (refine' ⟨_, ?xs, _, ?jj, rfl, rfl, ?hh, ?aa, ?qq⟩; (case hh => walk_at "hp"); (case aa => rfl)))
local macro_rules | `(tactic| walk_at "cond") => `(tactic| first | exact ⟨_, rfl⟩ | exact Nat.le_of_lt (small1000 (Nat.le_of_ble_eq_true rfl)) | decide | omega | (dsimp only; omega) | exact ⟨by decide, by decide⟩ | exact Or.inr ⟨by decide, by decide⟩ | exact Or.inl ⟨by decide, by decide⟩ | exact ⟨by decide, by decide, by decide⟩ | exact ⟨by omega, by omega⟩ | exact ⟨by omega, by omega, by omega⟩ | (simp only [List.length_cons, List.length_nil, List.length_append, List.length_take, List.length_drop]; omega) | (refine ⟨?_, ?_, ?_⟩ <;> first | decide | omega | (simp only [List.length_cons, List.length_nil, List.length_append, List.length_take, List.length_drop, Option.getD_some, Option.getD_none]; omega)))
local macro_rules | `(tactic| walk_at "st") => `(tactic| repeat (first | refine ⟨_, rfl, ?_⟩ | refine ⟨_, _, rfl, rfl, ?_⟩ | walk_at "ixl" | walk_at "setl" | refine ⟨rfl, ?_⟩ | refine Or.inl ⟨_, rfl, ?_⟩ | refine And.intro (by walk_at "cond") ?_))
theorem same_rd {H H' : Hp} {a : Addr} {u : HO} (s : Same H H') (r : Rd H a u) : Rd H' a u := r.elim (fun h => .inl (s _ _ h)) fun ⟨o, h⟩ => .inr ⟨o, s _ _ h⟩
theorem for_keys {α : Type} {d : Addr} {o : Obj} {is : List α} {h : α → Key × V} {g : TG} {tb : TS} {D : Ends} {σ : L2.St} {H : Hp} (W : Nat → L2.St → Hp → Prop) (hst : ∀ i σ H, W i σ H → H d = some (.frz o (.dK (is.map h)))) (h0 : W 0 σ H) (hend : ∀ σ H, W is.length σ H → D.nx σ H)
    (hs : ∀ (R : L2.St → Hp → Prop) (i : Nat) σ H x, W i σ H → is[i]? = some x → ∀ N : L2.St → Hp → Prop, N = (fun σ' H' => Hd (W (i + 1) σ' H')) → g (kV (h x).1) σ H fun σ2 H2 => tb { D with nx := N, ct := N, bk := D.nx } σ2 H2) :
    ∃ W : Nat → Nat → L2.St → Hp → Prop, (∃ m, W 0 m σ H) ∧ ∀ i m σ H, W i m σ H →
      ((Itk d o (is.map h)).stop i H ∧ D.nx σ H) ∨ ((Itk d o (is.map h)).go i H ∧ ∃ N : L2.St → Hp → Prop, (∀ σ' H', N σ' H' → ∃ m', m' < m ∧ W (i + 1) m' σ' H') ∧ ∀ x H', (Itk d o (is.map h)).yld i H x H' → g x σ H' fun σ2 H2 => tb { D with nx := N, ct := N, bk := D.nx } σ2 H2) := by
  refine ⟨fun i m σ H => W i σ H ∧ m = is.length - i ∧ i ≤ is.length, ⟨_, h0, rfl, Nat.zero_le _⟩, ?_⟩
  rintro i m σ H ⟨hw, rfl, hi⟩
  have hl := hst i σ H hw
  have ln : (is.map h).length = is.length := List.length_map _
  by_cases hlt : i < is.length
  · refine .inr ⟨⟨hl, by rw [ln]; exact hlt⟩, fun σ' H' => Hd (W (i + 1) σ' H'), fun σ' H' z => ⟨is.length - (i + 1), by omega, z.out, rfl, by omega⟩, ?_⟩
    rintro x H' ⟨rfl, k, v, hx, rfl⟩
    obtain ⟨y, hy, e⟩ := map_at hx
    have := hs D.nx i σ H' y hw hy _ rfl
    rw [e] at this
    exact this
  · have e : i = is.length := by omega
    subst e
    exact .inl ⟨⟨hl, by rw [ln]; exact Nat.le_refl _⟩, hend σ H hw⟩
/-- a comprehension over a dict's keys with a test; what stood stands -/
theorem lc_keys {α : Type} {a : Addr} {o : Obj} {g : TG} {tt : TT} {te : TE} {vs : List Nat} {σ : L2.St} {H : Hp} {D : Addr} {Qd : Hp → Prop} (is : List α) (h : α → Key × V) (q : α → Bool) (f : α → V) (hl : H a = some (.frz o (.dK (is.map h)))) (hD : H D = none) (hz : is.length ≤ 1000)
    (hs : ∀ (i : Nat) (x : α), is[i]? = some x → ∀ H', Same H H' → ∀ (R : V → Hp → Prop) (N : Hp → Prop), (∀ H4, Same H' H4 → q x = true → R (f x) H4) → (∀ H4, Same H' H4 → q x = false → N H4) → g (kV (h x).1) (wipe σ vs) H' fun σ2 H2 => wipe σ2 vs = wipe σ vs ∧ tt σ2 H2 fun b H3 => if b = true then te σ2 H3 R else N H3)
    (hq : ∀ H', Same H H' → H' D = some (.lst ((is.filter q).map f)) → Qd H') :
    ∃ W : Nat → Nat → Hp → Prop, (∃ m, W 0 m (upd H D (.lst []))) ∧ ∀ i m H, W i m H →
      ((Itk a o (is.map h)).stop i H ∧ Qd H) ∨ ((Itk a o (is.map h)).go i H ∧ ∃ Nx : Hp → Prop, (∀ H', Nx H' → ∃ m', m' < m ∧ W (i + 1) m' H') ∧ ∀ x H', (Itk a o (is.map h)).yld i H x H' → g x (wipe σ vs) H' fun σ2 H2 => wipe σ2 vs = wipe σ vs ∧ tt σ2 H2 fun b H3 =>
        if b = true then te σ2 H3 fun y H4 => ∃ acc, H4 D = some (.lst acc) ∧ acc.length < sizeLine ∧ Nx (upd H4 D (.lst (acc ++ [y]))) else Nx H3) := by
  refine ⟨fun i m H' => m = is.length - i ∧ i ≤ is.length ∧ Same H H' ∧ H' D = some (.lst (((is.take i).filter q).map f)), ⟨is.length, by simp, Nat.zero_le _, same_put (Same.refl _) hD, by rw [upd_same]; rfl⟩, ?_⟩
  rintro i m H1 ⟨rfl, hi, s1, d1⟩
  have hl1 := s1 _ _ hl
  have ln : (is.map h).length = is.length := List.length_map _
  by_cases hlt : i < is.length
  · refine .inr ⟨⟨hl1, by rw [ln]; exact hlt⟩, fun H' => i + 1 ≤ is.length ∧ Same H H' ∧ H' D = some (.lst (((is.take (i + 1)).filter q).map f)), fun H' p' => ⟨is.length - (i + 1), by omega, rfl, p'⟩, ?_⟩
    rintro v H' ⟨rfl, k, w, hx, rfl⟩
    obtain ⟨x, hi2, e⟩ := map_at hx
    have tk := take_snoc hi2
    have := hs i x hi2 H' s1 (fun y H4 => ∃ acc, H4 D = some (.lst acc) ∧ acc.length < sizeLine ∧ (i + 1 ≤ is.length ∧ Same H (upd H4 D (.lst (acc ++ [y]))) ∧ upd H4 D (.lst (acc ++ [y])) D = some (.lst (((is.take (i + 1)).filter q).map f)))) (fun H' => i + 1 ≤ is.length ∧ Same H H' ∧ H' D = some (.lst (((is.take (i + 1)).filter q).map f))) (fun H4 s4 hq => ⟨_, s4 _ _ d1, ?_, hlt, same_put (s1.trans s4) hD, ?_⟩) fun H4 s4 hq => ⟨hlt, s1.trans s4, ?_⟩
    · rw [e] at this
      exact this
    · rw [List.length_map]
      have h1 := List.length_filter_le q (is.take i)
      have h2 : (is.take i).length ≤ is.length := by rw [List.length_take]; omega
      exact Nat.lt_of_le_of_lt (Nat.le_trans (Nat.le_trans h1 h2) hz) (by decide)
    · rw [upd_same, tk, List.filter_append, List.map_append, List.filter_cons, if_pos hq]
      rfl
    · rw [s4 _ _ d1, tk, List.filter_append, List.map_append, List.filter_cons, if_neg (by rw [hq]; exact Bool.false_ne_true)]
      simp
  · have e : i = is.length := by omega
    subst e
    exact .inl ⟨⟨hl1, by rw [ln]; exact Nat.le_refl _⟩, hq H1 s1 (by rw [d1, List.take_length])⟩
end My

namespace My
open PySem PySem.Spec PyProof.Rows L2 SuX LTr DN
local macro_rules | `(tactic| walk_at "hp") => `(tactic| first | assumption | exact upd_same | (refine Eq.trans (upd_ne (by first | assumption | (apply Ne.symm; assumption))) ?_; walk_at "hp"))
local macro_rules | `(tactic| walk_at "ixl") => `(tactic| (refine' ⟨_, ?xs, _, ?vv, rfl, rfl, SqL.of ?hh, ?aa, ?qq⟩; (case hh => walk_at "hp"); (case aa => rfl)))
local macro_rules | `(tactic| walk_at "setl") => `(tactic| (refine' ⟨_, ?xs, _, ?jj, rfl, rfl, ?hh, ?aa, ?qq⟩; (case hh => walk_at "hp"); (case aa => rfl)))
local macro_rules | `(tactic| walk_at "cond") => `(tactic| first | exact ⟨_, rfl⟩ | exact Nat.le_of_lt (small1000 (Nat.le_of_ble_eq_true rfl)) | decide | omega | (dsimp only; omega) | exact ⟨by decide, by decide⟩ | exact Or.inr ⟨by decide, by decide⟩ | exact Or.inl ⟨by decide, by decide⟩ | exact ⟨by decide, by decide, by decide⟩ | exact ⟨by omega, by omega⟩ | exact ⟨by omega, by omega, by omega⟩ | (simp only [List.length_cons, List.length_nil, List.length_append, List.length_take, List.length_drop]; omega) | (refine ⟨?_, ?_, ?_⟩ <;> first | decide | omega | (simp only [List.length_cons, List.length_nil, List.length_append, List.length_take, List.length_drop, Option.getD_some, Option.getD_none]; omega)))
local macro_rules | `(tactic| walk_at "st") => `(tactic| repeat (first | refine ⟨_, rfl, ?_⟩ | refine ⟨_, _, rfl, rfl, ?_⟩ | walk_at "ixl" | walk_at "setl" | refine ⟨rfl, ?_⟩ | refine Or.inl ⟨_, rfl, ?_⟩ | refine And.intro (by walk_at "cond") ?_))
local macro_rules | `(tactic| walk_at "cls") => `(tactic| first | exact OC.cl (by assumption) | exact (‹Txt _ _›).o_Clock.cl | exact (‹Txt _ _›).o_LevelTable.cl | exact (‹Txt _ _›).o_Store.cl | exact (‹Txt _ _›).o_Written.cl | exact (‹Txt _ _›).o_Roster.cl | exact (‹Txt _ _›).o_Handler.cl | exact (‹Txt _ _›).o_Logger.cl | exact (‹Txt _ _›).o_LoggerTree.cl | exact (‹Txt _ _›).o_StreamHandler.cl | exact (‹Txt _ _›).o_Yard.cl)
local macro_rules | `(tactic| walk_at "na") => `(tactic| first | (refine na_of (by assumption) ?_; decide) | (refine na_of (‹Txt _ _›).o_Clock ?_; decide) | (refine na_of (‹Txt _ _›).o_LevelTable ?_; decide) | (refine na_of (‹Txt _ _›).o_Store ?_; decide) | (refine na_of (‹Txt _ _›).o_Written ?_; decide) | (refine na_of (‹Txt _ _›).o_Roster ?_; decide) | (refine na_of (‹Txt _ _›).o_Handler ?_; decide) | (refine na_of (‹Txt _ _›).o_Logger ?_; decide) | (refine na_of (‹Txt _ _›).o_LoggerTree ?_; decide) | (refine na_of (‹Txt _ _›).o_StreamHandler ?_; decide) | (refine na_of (‹Txt _ _›).o_Yard ?_; decide))
local macro_rules | `(tactic| walk_at "fld") => `(tactic| (refine' ⟨_, _, _, _, ?vv, rfl, ?hh, ?cc, ?nn, ?ll, ?qq⟩; (case hh => walk_at "hp"); (case cc => walk_at "cls"); (case nn => walk_at "na"); (case ll => exact rfl)))
local macro_rules | `(tactic| walk_at "sto") => `(tactic| (refine' ⟨_, _, _, _, rfl, ?hh, ?cc, ?nn, ?ll, ?qq⟩; (case hh => walk_at "hp"); (case cc => walk_at "cls"); (case nn => walk_at "na"); (case ll => first | exact Nat.le_of_ble_eq_true rfl | assumption)))
local macro_rules | `(tactic| walk_at "mth") => `(tactic| (refine' ⟨_, _, _, rfl, ?hh, ?ll, ?qq⟩; (case hh => walk_at "hp"); (case ll => exact rfl)))
local macro_rules | `(tactic| walk_at "sx") => `(tactic| repeat (first | refine ⟨_, rfl, ?_⟩ | refine ⟨_, _, rfl, rfl, ?_⟩ | walk_at "ixl" | walk_at "setl" | refine ⟨rfl, ?_⟩ | refine Or.inl ⟨_, rfl, ?_⟩ | walk_at "fld" | walk_at "sto" | walk_at "mth" | refine And.intro (by walk_at "cond") ?_))
/-! ### names drawn -/
theorem len_dot : ∀ {ps : Nm}, GP ps → ps.length ≤ (dot ps).length
  | [], _ => Nat.le_refl _
  | [p], h => by
    have := List.length_pos_iff.mpr (h p List.mem_cons_self).1
    rw [dot_one, List.length_singleton]
    exact this
  | p :: q :: r, h => by
    have := len_dot (ps := q :: r) fun x hx => h x (List.mem_cons_of_mem _ hx)
    have e1 : (p ++ 46 :: dot (q :: r)).length = p.length + ((dot (q :: r)).length + 1) := by rw [List.length_append, List.length_cons]
    rw [dot_cons p (by simp), e1, List.length_cons]
    omega
theorem sum_dot : ∀ (ps : Nm), ((ps.map SX.S).map (·.length)).sum + ps.length ≤ (dot ps).length + 1
  | [] => Nat.zero_le _
  | [p] => by
    show (SX.S p).length + 0 + 1 ≤ p.length + 1
    rw [SX.S_len]
    omega
  | p :: q :: r => by
    have := sum_dot (q :: r)
    have e1 : (p ++ 46 :: dot (q :: r)).length = p.length + ((dot (q :: r)).length + 1) := by rw [List.length_append, List.length_cons]
    have e2 := SX.S_len p
    rw [dot_cons p (by simp), e1, List.map_cons, List.map_cons, List.sum_cons, List.length_cons]
    omega
section
variable {P : Program} {w : World} {K : PySem.W.Frag} {mg : Str → Option Value} {base : Heap}
def kvR (rt : Addr) (S : List Lg) : List (Key × V) := (Sum.inr (SX.S []), .ref rt) :: kvN S
theorem kvR_at (rt : Addr) {S : List Lg} (hS : ∀ L ∈ S, GP L.nm) {nm : Nm} (hn : GP nm) (h0 : nm ≠ []) : valV (kvR rt S) (Sum.inr (SX.S (dot nm)) : Key) = (getL S nm).map fun L => V.ref L.a := by
  rw [← kvN_at S hS hn]
  have ne : (Sum.inr (SX.S []) : Key) ≠ Sum.inr (SX.S (dot nm)) := fun z => dot_ne h0 hn (SX.S_inj (Sum.inr.inj z)).symm
  unfold kvR
  simp [valV, ne]
theorem kvR_get {rt : Addr} {S : List Lg} (w : Wf rt S) (hS : ∀ L ∈ S, GP L.nm) {nm : Nm} (hn : nm = [] ∨ nm ∈ names S) : valV (kvR rt S) (Sum.inr (SX.S (dot nm)) : Key) = some (V.ref (adr rt S nm)) := by
  rcases hn with rfl | hn
  · rw [w.root]
    rfl
  · obtain ⟨L, hL, rfl⟩ := List.mem_map.mp hn
    have hg := getL_mem w.nn hL
    rw [kvR_at rt hS (hS L hL) (w.ne L hL), hg, adr_of hg]
    rfl
theorem dget_rd {H : Hp} {a : Addr} {kvs : List (Key × V)} {k : Key} (e : Rd H a (.dK kvs)) : DGet H a (kV k) (valV kvs k) := .inl ⟨kvs, k, e, rfl, rfl⟩
/-- a dict's keys: the names ms (and the root's) -/
def KN (kvs : List (Key × V)) (ms : List Nm) : Prop := ∀ n, GP n → n ≠ [] → (valV kvs (Sum.inr (SX.S (dot n)) : Key)).isSome = decide (n ∈ ms)
def spParent : Sp := fun vs H Q _ => Hd (∃ (kd : Addr) (kvs : List (Key × V)) (ms : List Nm) (nm : Nm), vs = [.ref kd, .str (SX.S (dot nm))] ∧ Rd H kd (.dK kvs) ∧ KN kvs ms ∧ WP nm ∧ ∀ H', Same H H' → Q (.str (SX.S (dot (parN ms nm)))) H')
theorem ok_parent (T : Txt K mg) : FnOk P w K mg base CX0 1 T.f__law_parent T.fd__law_parent ["_law_names", "_law_name"] spParent := by
  refine T.D__law_parent.F.ok sc__law_parent (fun vs H Q E h => ?_) (fun cdv A outer s H vs Q E hr h => ?_)
  · obtain ⟨kd, kvs, ms, nm, rfl, _⟩ := h.out
    rfl
  · obtain ⟨kd, kvs, ms, nm, rfl, hk, hKN, wp, k⟩ := h.out
    have hu := hu_of hr
    refine ⟨_, (pss_cons (ps_par (i := 2) (j := 3) rfl sc__law_parent.nd rfl rfl (by decide) rfl rfl (pa_cons (pe_bm PySem.F.plainAttrs_str PySem.F.slot_str_split PySem.F.type_str_split OQ.mt_splitD (pv 1) (pa_cons (SL.pe_strL [46] (by decide +kernel)) pa_nil)) (pa_cons (SL.pe_strL [] (by decide +kernel)) pa_nil)) rfl)
  (pss_cons (ps_for PassesOwn.never rfl (pi_range2 rfl T.B.n_range (pa_cons pe_int (pa_cons (pe_callB call_len_seq (by rfl) T.B.n_len (by decide +kernel) (pa_cons (pv 2) pa_nil)) pa_nil))) (pg_name (i := 4) sc__law_parent.nd rfl (by first | exact Or.inl rfl | exact Or.inr rfl))
    (pss_cons (ps_set (i := 5) sc__law_parent.nd rfl (by first | exact Or.inl rfl | exact Or.inr rfl) (pe_join (SL.pe_strL [46] (by decide +kernel)) (pe_slice sl_list (pv 2) po_none (po_some (pv 4)))))
  (pss_one (ps_set (i := 3) sc__law_parent.nd rfl (by first | exact Or.inl rfl | exact Or.inr rfl) (pe_ifExp (pt_cmp (pc_din hu (pv 5) (pv 0))) (pv 5) (pv 3))))))
  (pss_one (ps_ret (pv 3))))), ?_⟩
    walk_at "st"
    refine ⟨wp.ne, wp.gp, Nat.le_trans wp.sz (by decide), fun p hp => ?_⟩
    have sm : Same H (upd H p (.lst (nm.map fun q => V.str (SX.S q)))) := same_new hp
    walk_at "st"
    refine ⟨_, _, rfl, ?_⟩
    walk_at "st"
    have hpl : upd H p (.lst (nm.map fun q => V.str (SX.S q))) p = some (.lst (nm.map fun q => V.str (SX.S q))) := upd_same
    generalize upd H p (.lst (nm.map fun q => V.str (SX.S q))) = H1 at sm hpl ⊢
    have hk1 := same_rd sm hk
    walk_at "st"
    refine ⟨p, _, rfl, .inl (SqL.of hpl), ?_⟩
    walk_at "st"
    have ln : (List.map (fun q => V.str (SX.S q)) nm).length = nm.length := List.length_map _
    have l0 : 0 < nm.length := List.length_pos_iff.mpr wp.ne
    rw [ln]
    walk_at "st"
    refine ⟨_, _, rfl, ?_⟩
    have ld := len_dot wp.gp
    have lz := wp.sz
    refine ⟨⟨by decide, by decide, by omega, by omega⟩, ?_⟩
    have hn : ((nm.length : Int) - 1).toNat = nm.length - 1 := by omega
    rw [hn]
    refine for_rng (fun i σ H2 => ∃ o4 o5, σ = [some (.ref kd), some (.str (SX.S (dot nm))), some (.ref p), some (.str (SX.S (dot (nm.take (nk ms nm i))))), o4, o5] ∧ Same H1 H2) ⟨_, _, rfl, Same.refl _⟩ ?_ ?_
    · rintro σ H2 ⟨o4, o5, rfl, s2⟩
      walk_at "st"
      exact k H2 (sm.trans s2)
    · rintro R i σ H2 hi ⟨o4, o5, rfl, s2⟩ N hN
      have hpl2 := s2 _ _ hpl
      have hk2 := same_rd s2 hk1
      walk_at "st"
      refine ⟨p, _, rfl, SqL.of hpl2, fun d hd => ?_⟩
      have ec : cutV (nm.map fun q => V.str (SX.S q)) none (some (1 + (i : Int))) = (nm.take (i + 1)).map fun q => V.str (SX.S q) := by
        unfold cutV
        rw [show (1 + (i : Int)) = ((i + 1 : Nat) : Int) by omega, HT.sIx_nat, HT.sIx_none, List.drop_zero, Nat.sub_zero, List.length_map, Nat.min_eq_left (by omega), List.map_take]
      rw [ec]
      have s3 : Same H2 (upd H2 d (.lst ((nm.take (i + 1)).map fun q => V.str (SX.S q)))) := same_new hd
      have hd3 : upd H2 d (.lst ((nm.take (i + 1)).map fun q => V.str (SX.S q))) d = some (.lst ((nm.take (i + 1)).map fun q => V.str (SX.S q))) := upd_same
      generalize upd H2 d (.lst ((nm.take (i + 1)).map fun q => V.str (SX.S q))) = H3 at s3 hd3 ⊢
      have hk3 := same_rd s3 hk2
      refine ⟨_, d, (nm.take (i + 1)).map SX.S, rfl, rfl, .inl (SqL.of (by rw [hd3, List.map_map]; rfl)), ?_, ?_⟩
      · have h1 := sum_dot (nm.take (i + 1))
        have h2 := dot_take_le nm (i + 1)
        rw [List.length_map]
        show _ + _ * 1 ≤ _
        omega
      have e : Txt.join (SX.S [46]) ((nm.take (i + 1)).map SX.S) = SX.S (dot (nm.take (i + 1))) := SX.join_S [46] _
      rw [e]
      walk_at "st"
      have hne : nm.take (i + 1) ≠ [] := fun z => by
        have := congrArg List.length z
        rw [List.length_take, List.length_nil] at this
        omega
      refine ⟨kd, _, rfl, dget_rd (k := Sum.inr (SX.S (dot (nm.take (i + 1))))) hk3, ?_⟩
      rw [hKN _ (wp.gp.take _) hne]
      refine ⟨_, rfl, ?_⟩
      by_cases hin : nm.take (i + 1) ∈ ms
      · refine if_true_of (decide_eq_true hin) ?_
        walk_at "st"
        rw [hN]
        refine .a ⟨some (.int (1 + i)), some (.str (SX.S (dot (nm.take (i + 1))))), ?_, s2.trans s3⟩
        rw [show nk ms nm (i + 1) = i + 1 by show (if _ then _ else _) = _; rw [if_pos hin]]
        rfl
      · refine if_false_of (decide_eq_false hin) ?_
        walk_at "st"
        rw [hN]
        refine .a ⟨some (.int (1 + i)), some (.str (SX.S (dot (nm.take (i + 1))))), ?_, s2.trans s3⟩
        rw [show nk ms nm (i + 1) = nk ms nm i by show (if _ then _ else _) = _; rw [if_neg hin]]
        rfl
end
end My

namespace My
open PySem PySem.Spec PyProof.Rows L2 SuX LTr DN
local macro_rules | `(tactic| walk_at "hp") => `(tactic| first | assumption | exact upd_same | (refine Eq.trans (upd_ne (by first | assumption | (apply Ne.symm; assumption))) ?_; walk_at "hp"))
local macro_rules | `(tactic| walk_at "ixl") => `(tactic| (refine' ⟨_, ?xs, _, ?vv, rfl, rfl, SqL.of ?hh, ?aa, ?qq⟩; (case hh => walk_at "hp"); (case aa => rfl)))
local macro_rules | `(tactic| walk_at "setl") => `(tactic| (refine' ⟨_, ?xs, _, ?jj, rfl, rfl, ?hh, ?aa, ?qq⟩; (case hh => walk_at "hp"); (case aa => rfl)))
local macro_rules | `(tactic| walk_at "cond") => `(tactic| first | exact ⟨_, rfl⟩ | exact Nat.le_of_lt (small1000 (Nat.le_of_ble_eq_true rfl)) | decide | omega | (dsimp only; omega) | exact ⟨by decide, by decide⟩ | exact Or.inr ⟨by decide, by decide⟩ | exact Or.inl ⟨by decide, by decide⟩ | exact ⟨by decide, by decide, by decide⟩ | exact ⟨by omega, by omega⟩ | exact ⟨by omega, by omega, by omega⟩ | (simp only [List.length_cons, List.length_nil, List.length_append, List.length_take, List.length_drop]; omega) | (refine ⟨?_, ?_, ?_⟩ <;> first | decide | omega | (simp only [List.length_cons, List.length_nil, List.length_append, List.length_take, List.length_drop, Option.getD_some, Option.getD_none]; omega)))
local macro_rules | `(tactic| walk_at "st") => `(tactic| repeat (first | refine ⟨_, rfl, ?_⟩ | refine ⟨_, _, rfl, rfl, ?_⟩ | walk_at "ixl" | walk_at "setl" | refine ⟨rfl, ?_⟩ | refine Or.inl ⟨_, rfl, ?_⟩ | refine And.intro (by walk_at "cond") ?_))
local macro_rules | `(tactic| walk_at "cls") => `(tactic| first | exact OC.cl (by assumption) | exact (‹Txt _ _›).o_Clock.cl | exact (‹Txt _ _›).o_LevelTable.cl | exact (‹Txt _ _›).o_Store.cl | exact (‹Txt _ _›).o_Written.cl | exact (‹Txt _ _›).o_Roster.cl | exact (‹Txt _ _›).o_Handler.cl | exact (‹Txt _ _›).o_Logger.cl | exact (‹Txt _ _›).o_LoggerTree.cl | exact (‹Txt _ _›).o_StreamHandler.cl | exact (‹Txt _ _›).o_Yard.cl)
local macro_rules | `(tactic| walk_at "na") => `(tactic| first | (refine na_of (by assumption) ?_; decide) | (refine na_of (‹Txt _ _›).o_Clock ?_; decide) | (refine na_of (‹Txt _ _›).o_LevelTable ?_; decide) | (refine na_of (‹Txt _ _›).o_Store ?_; decide) | (refine na_of (‹Txt _ _›).o_Written ?_; decide) | (refine na_of (‹Txt _ _›).o_Roster ?_; decide) | (refine na_of (‹Txt _ _›).o_Handler ?_; decide) | (refine na_of (‹Txt _ _›).o_Logger ?_; decide) | (refine na_of (‹Txt _ _›).o_LoggerTree ?_; decide) | (refine na_of (‹Txt _ _›).o_StreamHandler ?_; decide) | (refine na_of (‹Txt _ _›).o_Yard ?_; decide))
local macro_rules | `(tactic| walk_at "fld") => `(tactic| (refine' ⟨_, _, _, _, ?vv, rfl, ?hh, ?cc, ?nn, ?ll, ?qq⟩; (case hh => walk_at "hp"); (case cc => walk_at "cls"); (case nn => walk_at "na"); (case ll => exact rfl)))
local macro_rules | `(tactic| walk_at "sto") => `(tactic| (refine' ⟨_, _, _, _, rfl, ?hh, ?cc, ?nn, ?ll, ?qq⟩; (case hh => walk_at "hp"); (case cc => walk_at "cls"); (case nn => walk_at "na"); (case ll => first | exact Nat.le_of_ble_eq_true rfl | assumption)))
local macro_rules | `(tactic| walk_at "mth") => `(tactic| (refine' ⟨_, _, _, rfl, ?hh, ?ll, ?qq⟩; (case hh => walk_at "hp"); (case ll => exact rfl)))
local macro_rules | `(tactic| walk_at "sx") => `(tactic| repeat (first | refine ⟨_, rfl, ?_⟩ | refine ⟨_, _, rfl, rfl, ?_⟩ | walk_at "ixl" | walk_at "setl" | refine ⟨rfl, ?_⟩ | refine Or.inl ⟨_, rfl, ?_⟩ | walk_at "fld" | walk_at "sto" | walk_at "mth" | refine And.intro (by walk_at "cond") ?_))
section
variable {P : Program} {w : World} {K : PySem.W.Frag} {mg : Str → Option Value} {base : Heap}
def spChain : Sp := fun vs H Q _ => Hd (∃ (kd : Addr) (kvs : List (Key × V)) (ms : List Nm) (n : Nm), vs = [.ref kd, .str (SX.S (dot n))] ∧ Rd H kd (.dK kvs) ∧ KN kvs ms ∧ (∀ x ∈ ms, WP x) ∧ (n = [] ∨ WP n) ∧ n.length ≤ 1000 ∧
  ∀ H' p, H p = none → Same H H' → H' p = some (.lst ((chain ms n).map fun x => V.str (SX.S (dot x)))) → Q (.ref p) H')
theorem ok_chain (T : Txt K mg) : FnOk P w K mg base CX0 2 T.f__law_chain T.fd__law_chain ["_law_names", "_law_name"] spChain := by
  have G__law_parent : FnOk P w K mg base CX0 1 _ _ _ spParent := ok_parent T
  refine T.D__law_chain.F.ok sc__law_chain (fun vs H Q E h => ?_) (fun cdv A outer s H vs Q E hr h => ?_)
  · obtain ⟨kd, kvs, ms, n, rfl, _⟩ := h.out
    rfl
  · obtain ⟨kd, kvs, ms, n, rfl, hk, hKN, hw, wn, zn, k⟩ := h.out
    refine ⟨_, (pss_cons (ps_set (i := 2) sc__law_chain.nd rfl (by first | exact Or.inl rfl | exact Or.inr rfl) (pe_lst (pa_cons (pv 1) pa_nil)))
  (pss_cons (ps_while PassesOwn.never (pt_cmpR SL.op_neL (pe_ix ix_list (pv 2) (pe_un un_neg pe_int) (fun _ _ => rfl)) (SL.pe_strL [] (by decide +kernel)) (nomark _))
    (pss_one (ps_expr (pe_bm PySem.F.plainAttrs_list PySem.F.slot_list_append PySem.F.type_list_append mt_append (pv 2) (pa_cons (pe_call G__law_parent (hr.mono (by first | decide | omega)) rfl T.D__law_parent.g T.D__law_parent.F.kp T.D__law_parent.b .nil pass0 (pa_cons (pv 0) (pa_cons (pe_ix ix_list (pv 2) (pe_un un_neg pe_int) (fun _ _ => rfl)) pa_nil))) pa_nil)))))
  (pss_one (ps_ret (pv 2))))), ?_⟩
    walk_at "st"
    intro p hp
    have s1 : Same H (upd H p (.lst [.str (SX.S (dot n))])) := same_new hp
    have hp1 : upd H p (.lst [.str (SX.S (dot n))]) p = some (.lst [.str (SX.S (dot n))]) := upd_same
    generalize upd H p (.lst [.str (SX.S (dot n))]) = H1 at s1 hp1 ⊢
    refine while_ex (fun m σ H2 => ∃ pre x, σ = [some (.ref kd), some (.str (SX.S (dot n))), some (.ref p)] ∧ Same H H2 ∧ H2 p = some (.lst ((pre ++ [x]).map fun x => V.str (SX.S (dot x)))) ∧ chain ms n = pre ++ chF ms m x ∧ (x = [] ∨ WP x) ∧ x.length ≤ m ∧ pre.length + m ≤ 1000)
      (fun σ H2 => σ = [some (.ref kd), some (.str (SX.S (dot n))), some (.ref p)] ∧ Same H H2 ∧ H2 p = some (.lst ((chain ms n).map fun x => V.str (SX.S (dot x))))) ⟨n.length, [], n, rfl, s1, hp1, rfl, wn, Nat.le_refl _, by simp; exact zn⟩ ?_ ?_
    · rintro σ H2 ⟨rfl, s2, h2⟩
      walk_at "st"
      exact k H2 p hp s2 h2
    · rintro R fin m σ H2 ⟨pre, x, rfl, s2, h2, ec, wx, lx, lp⟩ NW hNW
      walk_at "st"
      refine ⟨p, _, -1, .str (SX.S (dot x)), rfl, rfl, SqL.of h2, by rw [List.map_append]; exact atI_last _ _, ?_⟩
      walk_at "st"
      by_cases h0 : x = []
      · refine if_false_of (by rw [decide_eq_true (show dot x = [] by rw [h0]; rfl)]; rfl) ?_
        refine fin _ _ ⟨rfl, s2, ?_⟩
        rw [ec, h0, chF_nil, ← h0]
        exact h2
      · have wx := wx.resolve_left h0
        refine if_true_of (by rw [decide_eq_false (dot_ne wx.ne wx.gp)]; rfl) ⟨NW, by rw [hNW]; exact fun _ _ => Hd.out, ?_⟩
        obtain ⟨j, rfl, e1, l2⟩ := chF_cons ms h0 lx
        walk_at "st"
        refine ⟨.inl ⟨rfl, _, SqL.of h2⟩, ?_⟩
        walk_at "st"
        refine ⟨p, _, -1, .str (SX.S (dot x)), rfl, rfl, SqL.of h2, by rw [List.map_append]; exact atI_last _ _, ?_⟩
        walk_at "st"
        refine .a ⟨kd, kvs, ms, x, rfl, same_rd s2 hk, hKN, wx, fun H3 s3 => ?_⟩
        have h3 := s3 _ _ h2
        walk_at "st"
        refine ⟨p, _, _, rfl, rfl, h3, ?_, ?_⟩
        · rw [List.length_map, List.length_append, List.length_singleton]
          exact Nat.lt_of_le_of_lt (show _ ≤ 1001 by omega) (by decide)
        rw [hNW]
        refine .a ⟨j, Nat.lt_succ_self _, pre ++ [x], parN ms x, rfl, same_put (s2.trans s3) hp, ?_, ?_, ?_, l2, ?_⟩
        · rw [upd_same, List.map_append (l₁ := pre ++ [x])]
          rfl
        · rw [ec, e1, List.append_assoc]
          rfl
        · exact (parN_or ms x).imp id fun z => hw _ z
        · rw [List.length_append, List.length_singleton]
          omega
end
end My

namespace My
open PySem PySem.Spec PyProof.Rows L2 SuX LTr DN
local macro_rules | `(tactic| walk_at "hp") => `(tactic| first | assumption | exact upd_same | (refine Eq.trans (upd_ne (by first | assumption | (apply Ne.symm; assumption))) ?_; walk_at "hp"))
local macro_rules | `(tactic| walk_at "ixl") => `(tactic| (refine' ⟨_, ?xs, _, ?vv, rfl, rfl, SqL.of ?hh, ?aa, ?qq⟩; (case hh => walk_at "hp"); (case aa => rfl)))
local macro_rules | `(tactic| walk_at "setl") => `(tactic| (refine' ⟨_, ?xs, _, ?jj, rfl, rfl, ?hh, ?aa, ?qq⟩; (case hh => walk_at "hp"); (case aa => rfl)))
local macro_rules | `(tactic| walk_at "cond") => `(tactic| first | exact ⟨_, rfl⟩ | exact Nat.le_of_lt (small1000 (Nat.le_of_ble_eq_true rfl)) | decide | omega | (dsimp only; omega) | exact ⟨by decide, by decide⟩ | exact Or.inr ⟨by decide, by decide⟩ | exact Or.inl ⟨by decide, by decide⟩ | exact ⟨by decide, by decide, by decide⟩ | exact ⟨by omega, by omega⟩ | exact ⟨by omega, by omega, by omega⟩ | (simp only [List.length_cons, List.length_nil, List.length_append, List.length_take, List.length_drop]; omega) | (refine ⟨?_, ?_, ?_⟩ <;> first | decide | omega | (simp only [List.length_cons, List.length_nil, List.length_append, List.length_take, List.length_drop, Option.getD_some, Option.getD_none]; omega)))
local macro_rules | `(tactic| walk_at "st") => `(tactic| repeat (first | refine ⟨_, rfl, ?_⟩ | refine ⟨_, _, rfl, rfl, ?_⟩ | walk_at "ixl" | walk_at "setl" | refine ⟨rfl, ?_⟩ | refine Or.inl ⟨_, rfl, ?_⟩ | refine And.intro (by walk_at "cond") ?_))
local macro_rules | `(tactic| walk_at "cls") => `(tactic| first | exact OC.cl (by assumption) | exact (‹Txt _ _›).o_Clock.cl | exact (‹Txt _ _›).o_LevelTable.cl | exact (‹Txt _ _›).o_Store.cl | exact (‹Txt _ _›).o_Written.cl | exact (‹Txt _ _›).o_Roster.cl | exact (‹Txt _ _›).o_Handler.cl | exact (‹Txt _ _›).o_Logger.cl | exact (‹Txt _ _›).o_LoggerTree.cl | exact (‹Txt _ _›).o_StreamHandler.cl | exact (‹Txt _ _›).o_Yard.cl)
local macro_rules | `(tactic| walk_at "na") => `(tactic| first | (refine na_of (by assumption) ?_; decide) | (refine na_of (‹Txt _ _›).o_Clock ?_; decide) | (refine na_of (‹Txt _ _›).o_LevelTable ?_; decide) | (refine na_of (‹Txt _ _›).o_Store ?_; decide) | (refine na_of (‹Txt _ _›).o_Written ?_; decide) | (refine na_of (‹Txt _ _›).o_Roster ?_; decide) | (refine na_of (‹Txt _ _›).o_Handler ?_; decide) | (refine na_of (‹Txt _ _›).o_Logger ?_; decide) | (refine na_of (‹Txt _ _›).o_LoggerTree ?_; decide) | (refine na_of (‹Txt _ _›).o_StreamHandler ?_; decide) | (refine na_of (‹Txt _ _›).o_Yard ?_; decide))
local macro_rules | `(tactic| walk_at "fld") => `(tactic| (refine' ⟨_, _, _, _, ?vv, rfl, ?hh, ?cc, ?nn, ?ll, ?qq⟩; (case hh => walk_at "hp"); (case cc => walk_at "cls"); (case nn => walk_at "na"); (case ll => exact rfl)))
local macro_rules | `(tactic| walk_at "sto") => `(tactic| (refine' ⟨_, _, _, _, rfl, ?hh, ?cc, ?nn, ?ll, ?qq⟩; (case hh => walk_at "hp"); (case cc => walk_at "cls"); (case nn => walk_at "na"); (case ll => first | exact Nat.le_of_ble_eq_true rfl | assumption)))
local macro_rules | `(tactic| walk_at "mth") => `(tactic| (refine' ⟨_, _, _, rfl, ?hh, ?ll, ?qq⟩; (case hh => walk_at "hp"); (case ll => exact rfl)))
local macro_rules | `(tactic| walk_at "sx") => `(tactic| repeat (first | refine ⟨_, rfl, ?_⟩ | refine ⟨_, _, rfl, rfl, ?_⟩ | walk_at "ixl" | walk_at "setl" | refine ⟨rfl, ?_⟩ | refine Or.inl ⟨_, rfl, ?_⟩ | walk_at "fld" | walk_at "sto" | walk_at "mth" | refine And.intro (by walk_at "cond") ?_))
def kLev : List Nat := [108, 101, 118, 101, 108, 115]
/-- the law's levels: a dict from names to numbers -/
structure LvD (kvs : List (Key × V)) (ms : List Nm) (lv : Nm → Int) : Prop where
  kn : KN kvs ms
  at_ : ∀ x, x = [] ∨ x ∈ ms → valV kvs (Sum.inr (SX.S (dot x)) : Key) = some (.int (lv x))
  wp : ∀ x ∈ ms, WP x
theorem chain_in {ms : List Nm} : ∀ (k : Nat) {n : Nm}, (n = [] ∨ n ∈ ms) → ∀ x ∈ chF ms k n, x = [] ∨ x ∈ ms
  | 0, n, h, x, hx => by
    rw [List.mem_singleton.mp hx]
    exact h
  | k + 1, n, h, x, hx => by
    unfold chF at hx
    split at hx
    · rw [List.mem_singleton.mp hx]
      exact h
    · rcases List.mem_cons.mp hx with rfl | hx
      · exact h
      · exact chain_in k (parN_or ms n) x hx
section
variable {P : Program} {w : World} {K : PySem.W.Frag} {mg : Str → Option Value} {base : Heap}
def spEffL : Sp := fun vs H Q _ => Hd (∃ (m kd : Addr) (mv kvs : List (Key × V)) (ms : List Nm) (lv : Nm → Int) (n : Nm), vs = [.ref m, .str (SX.S (dot n))] ∧ H m = some (.dK mv) ∧ valV mv (Sum.inr (SX.S kLev) : Key) = some (.ref kd) ∧ H kd = some (.dK kvs) ∧ LvD kvs ms lv ∧ (n = [] ∨ n ∈ ms) ∧
  ∀ H', Same H H' → Q (.int (effC lv (chain ms n))) H')
theorem ok_effL (T : Txt K mg) : FnOk P w K mg base CX0 3 T.f__law_effective T.fd__law_effective ["_law_m", "_law_name"] spEffL := by
  have G__law_chain : FnOk P w K mg base CX0 2 _ _ _ spChain := ok_chain T
  refine T.D__law_effective.F.ok sc__law_effective (fun vs H Q E h => ?_) (fun cdv A outer s H vs Q E hr h => ?_)
  · obtain ⟨m, kd, mv, kvs, ms, lv, n, rfl, _⟩ := h.out
    rfl
  · obtain ⟨m, kd, mv, kvs, ms, lv, n, rfl, hm, hl, hk, D, hn, k⟩ := h.out
    have hu := hu_of hr
    have wn : n = [] ∨ WP n := hn.imp id (D.wp n)
    have zn : n.length ≤ 1000 := by
      rcases wn with rfl | wn
      · exact Nat.zero_le _
      · exact Nat.le_trans (len_dot wn.gp) wn.sz
    refine ⟨_, (pss_cons (ps_for PassesOwn.never rfl (pi_list (pe_call G__law_chain (hr.mono (by first | decide | omega)) rfl T.D__law_chain.g T.D__law_chain.F.kp T.D__law_chain.b .nil pass0 (pa_cons (pe_dget hu (pv 0) (SL.pe_strL [108, 101, 118, 101, 108, 115] (by decide +kernel)) (fun _ _ => rfl)) (pa_cons (pv 1) pa_nil)))) (pg_name (i := 2) sc__law_effective.nd rfl (by first | exact Or.inl rfl | exact Or.inr rfl))
    (pss_one (ps_if (pt_cmpR op_ne (pe_dget hu (pe_dget hu (pv 0) (SL.pe_strL [108, 101, 118, 101, 108, 115] (by decide +kernel)) (fun _ _ => rfl)) (pv 2) (fun _ _ => rfl)) pe_int (nomark _))
    (pss_one (ps_ret (pe_dget hu (pe_dget hu (pv 0) (SL.pe_strL [108, 101, 118, 101, 108, 115] (by decide +kernel)) (fun _ _ => rfl)) (pv 2) (fun _ _ => rfl))))
    pss_nil)))
  (pss_one (ps_ret pe_int))), ?_⟩
    walk_at "st"
    refine ⟨m, _, rfl, by have g := DGet.k (k := Sum.inr (SX.S kLev)) hm; rw [hl] at g; exact g, ?_⟩
    walk_at "st"
    refine .a ⟨kd, kvs, ms, n, rfl, .inl hk, D.kn, D.wp, wn, zn, fun H1 p hp s1 h1 => ?_⟩
    refine ⟨p, rfl, ⟨_, SqL.of h1⟩, ?_⟩
    refine for_list (xs := (chain ms n).map fun x => V.str (SX.S (dot x))) (fun i σ H2 => ∃ o, σ = [some (.ref m), some (.str (SX.S (dot n))), o] ∧ Same H1 H2 ∧ effC lv (chain ms n) = effC lv ((chain ms n).drop i)) ?_ ⟨_, rfl, Same.refl _, rfl⟩ ?_ ?_
    · rintro i σ H2 ⟨o, rfl, s2, _⟩
      exact s2 _ _ h1
    · rintro σ H2 ⟨o, rfl, s2, e⟩
      walk_at "st"
      rw [List.length_map, List.drop_length] at e
      have := k H2 (s1.trans s2)
      rw [e] at this
      exact this
    · rintro R i σ H2 v ⟨o, rfl, s2, e⟩ hv N hN
      obtain ⟨x, hx, rfl⟩ := map_at hv
      have xin := chain_in _ hn x (List.mem_of_getElem? hx)
      have hm2 := s2 _ _ (s1 _ _ hm)
      have hk2 := s2 _ _ (s1 _ _ hk)
      have gx := D.at_ x xin
      have ed : (chain ms n).drop i = x :: (chain ms n).drop (i + 1) := by
        have hi := (List.getElem?_eq_some_iff.mp hx).1
        rw [List.drop_eq_getElem_cons hi, (List.getElem?_eq_some_iff.mp hx).2]
      rw [ed] at e
      walk_at "st"
      refine ⟨m, _, rfl, by have g := DGet.k (k := Sum.inr (SX.S kLev)) hm2; rw [hl] at g; exact g, ?_⟩
      walk_at "st"
      refine ⟨kd, _, rfl, by have g := DGet.k (k := Sum.inr (SX.S (dot x))) hk2; rw [gx] at g; exact g, ?_⟩
      walk_at "st"
      by_cases h0 : lv x = 0
      · refine if_false_of (by rw [h0]; rfl) ?_
        rw [hN]
        refine .a ⟨_, rfl, s2, e.trans ?_⟩
        show (if lv x ≠ 0 then lv x else _) = _
        rw [if_neg fun z => z h0]
      · refine if_true_of (by rw [decide_eq_false (fun z => h0 (V.int.inj z))]; rfl) ?_
        walk_at "st"
        refine ⟨m, _, rfl, by have g := DGet.k (k := Sum.inr (SX.S kLev)) hm2; rw [hl] at g; exact g, ?_⟩
        walk_at "st"
        refine ⟨kd, _, rfl, by have g := DGet.k (k := Sum.inr (SX.S (dot x))) hk2; rw [gx] at g; exact g, ?_⟩
        have := k H2 (s1.trans s2)
        rw [e] at this
        have e2 : effC lv (x :: (chain ms n).drop (i + 1)) = lv x := by
          show (if lv x ≠ 0 then lv x else _) = _
          rw [if_pos h0]
        rw [e2] at this
        exact this
end
end My

/-! d.update(e), e a dict (ints, texts as keys) -/
namespace UD
open PySem PySem.Spec PyProof.Rows L2
def rUpdate : V → List V → Hp → VK → Prop := fun x xs H Q => ∃ (a b : Addr) (kvs more : List (Key × V)), x = .ref a ∧ xs = [.ref b] ∧ a ≠ b ∧ H a = some (.dK kvs) ∧ H b = some (.dK more) ∧ kvs.length + more.length ≤ sizeLine ∧ Q .non (upd H a (.dK (mergeK kvs more)))
theorem mt_update {X : Cx} : MtM X "dict.update" rUpdate := by
  intro pins s σ H x xs v us Q I rx rv h
  obtain ⟨a, b, kvs, more, rfl, rfl, ab, ha, hb, hz, q⟩ := h
  cases rx
  rw [Vals.ref1 rv]
  obtain ⟨z1, hd1, vs, r1, dd1⟩ := dk_of I.hok ha
  obtain ⟨z2, hd2, ws, r2, dd2⟩ := dk_of I.hok hb
  refine call_meetsIn PySem.F.slot_dict_update dd1.typeIs PySem.F.entry_dict_update (PySem.F.args_dict_update_2 _ _) (meets_dict_update (mixKind X.prog X.w) a b ab hd2) ⟨vs, ws, dd1, dd2, by rw [← r1.length, ← r2.length]; exact hz, fun h' dd1' dd2' hs => ?_⟩
  have he : ∃ q, h'.get? a = some q := let ⟨q, _, _, hq, _⟩ := dd1'; ⟨q, hq⟩
  exact ⟨.non, _, d_write (t' := s.toks) I (by rw [ha]; exact True.intro) hs he (dk_new (Nat.le_trans (length_mergeK more kvs) hz) hd1 (KV.merge r2 r1) dd1'), rfl, q⟩
/-! ### list(d.values()) -/
def tListVals (td : TE) : TE := fun σ H Q => td σ H fun x H1 => ∃ a kvs, x = V.ref a ∧ H1 a = some (.dK kvs) ∧ ∀ p, H1 p = none → Q (.ref p) (upd H1 p (.lst (kvs.map (·.2))))
theorem kv_vals {κ : Type} {kvs : List (κ × V)} {vs : List (κ × Value)} (r : KV kvs vs) : Vals (kvs.map (·.2)) (vs.map (·.2)) := by
  unfold KV at r
  induction r with
  | nil => exact .nil
  | cons h _ ih => exact .cons h.2 ih
theorem pe_listVals {X : Cx} {g : Expr} {td : TE} {p pos q1 q2 : Pos} (hc : X.calm = true) (hg : Gl X "list") (hm : X.mg "list" = none) (hd : PE X g td) (k1 : attributeBase g "values" X.env (eval g X.env) = eval g X.env := by rfl) (k2 : (q1.endLine == q2.line) = true := by rfl)
    (k3 : starEach [Expr.Call (.Attribute g "values" q1) [] [] q2] X.env = [(false, eval (Expr.Call (.Attribute g "values" q1) [] [] q2) X.env)] := by rfl) : PE X (.Call (.Name "list" p) [.Call (.Attribute g "values" q1) [] [] q2] [] pos) (tListVals td) := by
  refine ⟨fun pins s σ H Q I h => ?_⟩
  refine wpAny_Call_Name_kw (ld_blt I hg hm (u := .type "list") (by first | rfl | decide +kernel) ?_ (by first | decide +kernel | decide) (by first | decide +kernel | decide))
  refine PyProof.Rows.callWith_type1 (rest := []) ?_ k3 rfl
  rw [k3]
  refine Calls.spliced_cons (wpAny_Call_method0_late k1 k2 (thn (hd.run pins s σ H _ I h) fun v s1 ⟨x, H1, I1, r1, a, kvs, ex, ha, q⟩ => ?_))
  subst ex
  obtain rfl : v = Value.ref a := r1
  obtain ⟨z, hsys, vs, rel, dof⟩ := dk_of I1.hok ha
  obtain ⟨ep, dat⟩ := dof.dictAt
  have dat' := dat
  obtain ⟨ob, es, ho, ex, hdat, hko, hpr, hnd⟩ := dat'
  refine ⟨"dict", "dict.values", PySem.F.plainAttrs_dict, PySem.F.slot_dict_values, PySem.F.type_dict_values, ⟨ob, ho, ex.1⟩, fun b e => ?_, Calls.callWith_builtin rfl (PySem.evalArgs_none ?_)⟩
  · cases e
    exact ⟨ob, ho, ex.2.1⟩
  refine call_meetsIn PySem.F.slot_dict_values ⟨ob, ho, ex.1⟩ PySem.F.entry_dict_values (PySem.F.args_dict_values_1 _) (meets_dict_values (mixKind X.prog X.w) a hsys) ⟨⟨vs, dof⟩, ?_⟩
  refine Calls.spliced_nil ?_
  have kp : ∀ b u, s1.heap.get? b = some u → (s1.heap.push { cls := .type "dict_values", data := .fields #[.ref a] }).get? b = some u := fun b u e => Heap.get?_push_of_some _ e
  have dat1 : (s1.heap.push { cls := .type "dict_values", data := .fields #[.ref a] }).DictAt (mixKind X.prog X.w) a vs ep := dat.keep kp
  refine PySem.W.kdl_call (PySem.W.kdl_values (knd := mixKind X.prog X.w) (r := s1.heap.objs.size) (d := a) (kvs := vs) (ep := ep)) (I1.ok.hd hc) ⟨⟨_, Heap.get?_push_size _ rfl, rfl, rfl⟩, dat1⟩ (by rw [← rel.length]; exact z) fun h' tk acc c' hk hD hacc => ?_
  have ea : acc.toList = vs.map (·.2) := PySem.W.kdl_vals_eq acc.toList (by rw [Array.length_toList]; exact hacc.1) fun j v e => hacc.2 j v (by rw [← Array.getElem?_toList]; exact e)
  have hsz : (s1.heap.push { cls := .type "dict_values", data := .fields #[.ref a] }).objs.size = s1.heap.objs.size + 1 := Heap.size_push _ _
  rw [hsz] at hD ⊢
  exact ⟨.ref (s1.heap.objs.size + 1), upd H1 (s1.heap.objs.size + 1) (.lst (kvs.map (·.2))), I1.laid (t' := tk) (fun b u e => hk b u (kp b u e)) (Nat.le_succ _) ⟨by rw [List.length_map]; exact z, acc.toList, c', by rw [ea]; exact kv_vals rel, by rw [Array.toArray_toList]; exact hD⟩, rfl, q _ (I1.hok.fresh (Nat.le_succ _))⟩
end UD

namespace My
open PySem PySem.Spec PyProof.Rows L2 SuX LTr DN
local macro_rules | `(tactic| walk_at "hp") => `(tactic| first | assumption | exact upd_same | (refine Eq.trans (upd_ne (by first | assumption | (apply Ne.symm; assumption))) ?_; walk_at "hp"))
local macro_rules | `(tactic| walk_at "ixl") => `(tactic| (refine' ⟨_, ?xs, _, ?vv, rfl, rfl, SqL.of ?hh, ?aa, ?qq⟩; (case hh => walk_at "hp"); (case aa => rfl)))
local macro_rules | `(tactic| walk_at "setl") => `(tactic| (refine' ⟨_, ?xs, _, ?jj, rfl, rfl, ?hh, ?aa, ?qq⟩; (case hh => walk_at "hp"); (case aa => rfl)))
local macro_rules | `(tactic| walk_at "cond") => `(tactic| first | exact ⟨_, rfl⟩ | exact Nat.le_of_lt (small1000 (Nat.le_of_ble_eq_true rfl)) | decide | omega | (dsimp only; omega) | exact ⟨by decide, by decide⟩ | exact Or.inr ⟨by decide, by decide⟩ | exact Or.inl ⟨by decide, by decide⟩ | exact ⟨by decide, by decide, by decide⟩ | exact ⟨by omega, by omega⟩ | exact ⟨by omega, by omega, by omega⟩ | (simp only [List.length_cons, List.length_nil, List.length_append, List.length_take, List.length_drop]; omega) | (refine ⟨?_, ?_, ?_⟩ <;> first | decide | omega | (simp only [List.length_cons, List.length_nil, List.length_append, List.length_take, List.length_drop, Option.getD_some, Option.getD_none]; omega)))
local macro_rules | `(tactic| walk_at "st") => `(tactic| repeat (first | refine ⟨_, rfl, ?_⟩ | refine ⟨_, _, rfl, rfl, ?_⟩ | walk_at "ixl" | walk_at "setl" | refine ⟨rfl, ?_⟩ | refine Or.inl ⟨_, rfl, ?_⟩ | refine And.intro (by walk_at "cond") ?_))
local macro_rules | `(tactic| walk_at "cls") => `(tactic| first | exact OC.cl (by assumption) | exact (‹Txt _ _›).o_Clock.cl | exact (‹Txt _ _›).o_LevelTable.cl | exact (‹Txt _ _›).o_Store.cl | exact (‹Txt _ _›).o_Written.cl | exact (‹Txt _ _›).o_Roster.cl | exact (‹Txt _ _›).o_Handler.cl | exact (‹Txt _ _›).o_Logger.cl | exact (‹Txt _ _›).o_LoggerTree.cl | exact (‹Txt _ _›).o_StreamHandler.cl | exact (‹Txt _ _›).o_Yard.cl)
local macro_rules | `(tactic| walk_at "na") => `(tactic| first | (refine na_of (by assumption) ?_; decide) | (refine na_of (‹Txt _ _›).o_Clock ?_; decide) | (refine na_of (‹Txt _ _›).o_LevelTable ?_; decide) | (refine na_of (‹Txt _ _›).o_Store ?_; decide) | (refine na_of (‹Txt _ _›).o_Written ?_; decide) | (refine na_of (‹Txt _ _›).o_Roster ?_; decide) | (refine na_of (‹Txt _ _›).o_Handler ?_; decide) | (refine na_of (‹Txt _ _›).o_Logger ?_; decide) | (refine na_of (‹Txt _ _›).o_LoggerTree ?_; decide) | (refine na_of (‹Txt _ _›).o_StreamHandler ?_; decide) | (refine na_of (‹Txt _ _›).o_Yard ?_; decide))
local macro_rules | `(tactic| walk_at "fld") => `(tactic| (refine' ⟨_, _, _, _, ?vv, rfl, ?hh, ?cc, ?nn, ?ll, ?qq⟩; (case hh => walk_at "hp"); (case cc => walk_at "cls"); (case nn => walk_at "na"); (case ll => exact rfl)))
local macro_rules | `(tactic| walk_at "sto") => `(tactic| (refine' ⟨_, _, _, _, rfl, ?hh, ?cc, ?nn, ?ll, ?qq⟩; (case hh => walk_at "hp"); (case cc => walk_at "cls"); (case nn => walk_at "na"); (case ll => first | exact Nat.le_of_ble_eq_true rfl | assumption)))
local macro_rules | `(tactic| walk_at "mth") => `(tactic| (refine' ⟨_, _, _, rfl, ?hh, ?ll, ?qq⟩; (case hh => walk_at "hp"); (case ll => exact rfl)))
local macro_rules | `(tactic| walk_at "sx") => `(tactic| repeat (first | refine ⟨_, rfl, ?_⟩ | refine ⟨_, _, rfl, rfl, ?_⟩ | walk_at "ixl" | walk_at "setl" | refine ⟨rfl, ?_⟩ | refine Or.inl ⟨_, rfl, ?_⟩ | walk_at "fld" | walk_at "sto" | walk_at "mth" | refine And.intro (by walk_at "cond") ?_))
/-! ### what is laid, step by step -/
structure Lay (H H' : Hp) (N : List (Addr × HO)) : Prop where
  at_ : ∀ e ∈ N, H' e.1 = some e.2
  nd : (N.map (·.1)).Nodup
  new : ∀ e ∈ N, H e.1 = none
  sm : Same H H'
theorem Lay.nil (H : Hp) : Lay H H [] := ⟨fun _ h => absurd h List.not_mem_nil, List.nodup_nil, fun _ h => absurd h List.not_mem_nil, Same.refl _⟩
theorem Lay.lay {H H' : Hp} {N : List (Addr × HO)} {x : Addr} (l : Lay H H' N) (hx : H' x = none) (o : HO) : Lay H (upd H' x o) ((x, o) :: N) := by
  have nx : ∀ e ∈ N, e.1 ≠ x := fun e he z => by have := l.at_ e he; rw [z, hx] at this; cases this
  refine ⟨fun e he => ?_, List.nodup_cons.mpr ⟨fun z => ?_, l.nd⟩, fun e he => ?_, same_put l.sm (Same.free l.sm hx)⟩
  · rcases List.mem_cons.mp he with rfl | he
    · exact upd_same
    · rw [upd_ne (nx e he)]; exact l.at_ e he
  · obtain ⟨e, he, z⟩ := List.mem_map.mp z
    exact nx e he z
  · rcases List.mem_cons.mp he with rfl | he
    · exact Same.free l.sm hx
    · exact l.new e he
theorem Lay.put {H H' : Hp} {N1 N2 : List (Addr × HO)} {x : Addr} {o : HO} (l : Lay H H' (N1 ++ (x, o) :: N2)) (o' : HO) : Lay H (upd H' x o') (N1 ++ (x, o') :: N2) := by
  have mx : (x, o) ∈ N1 ++ (x, o) :: N2 := List.mem_append_right _ List.mem_cons_self
  have nd := l.nd
  rw [List.map_append, List.map_cons, List.nodup_append] at nd
  obtain ⟨n1, n2, n3⟩ := nd
  have n4 := List.nodup_cons.mp n2
  have x1 : ∀ e ∈ N1, e.1 ≠ x := fun e he z => n3 e.1 (List.mem_map.mpr ⟨e, he, rfl⟩) x List.mem_cons_self z
  have x2 : ∀ e ∈ N2, e.1 ≠ x := fun e he z => n4.1 (List.mem_map.mpr ⟨e, he, z⟩)
  refine ⟨fun e he => ?_, by rw [List.map_append, List.map_cons, List.nodup_append]; exact ⟨n1, n2, n3⟩, fun e he => ?_, same_put l.sm (l.new _ mx)⟩
  · rcases List.mem_append.mp he with h | h
    · rw [upd_ne (x1 e h)]; exact l.at_ e (List.mem_append_left _ h)
    · rcases List.mem_cons.mp h with rfl | h
      · exact upd_same
      · rw [upd_ne (x2 e h)]; exact l.at_ e (List.mem_append_right _ (List.mem_cons_of_mem _ h))
  · rcases List.mem_append.mp he with h | h
    · exact l.new e (List.mem_append_left _ h)
    · rcases List.mem_cons.mp h with rfl | h
      · exact (l.new (x, o) mx : H x = none)
      · exact l.new e (List.mem_append_right _ (List.mem_cons_of_mem _ h))
section
variable {P : Program} {w : World} {K : PySem.W.Frag} {mg : Str → Option Value} {base : Heap}
def kE : Key := Sum.inr (SX.S [])
def kMod (d1 d2 d3 d4 d5 lh dt : Addr) : List (Key × V) := [(.inr (SX.S kLev), .ref d1), (.inr (SX.S [112, 114, 111, 112, 115]), .ref d2), (.inr (SX.S [111, 102, 102]), .ref d3), (.inr (SX.S [104, 97, 110, 100, 115]), .ref d4), (.inr (SX.S [115, 105, 101, 118, 101, 115]), .ref d5), (.inr (SX.S [98, 97, 114]), .int 0), (.inr (SX.S [104, 97, 110, 100, 108, 101, 114, 115]), .ref lh), (.inr (SX.S [116, 101, 120, 116, 115]), .ref dt)]
def spLTree : Sp := fun vs H Q _ => Hd (vs = [] ∧ ∀ H' (m d1 d2 d3 d4 d5 l4 l5 lh dt u : Addr) (ou : HO), Lay H H' [(dt, .dK []), (lh, .lst []), (u, ou), (l5, .lst []), (d5, .dK [(kE, .ref l5)]), (l4, .lst []), (d4, .dK [(kE, .ref l4)]), (d3, .dK [(kE, .bl false)]), (d2, .dK [(kE, .bl true)]), (d1, .dK [(kE, .int 30)]), (m, .dK (kMod d1 d2 d3 d4 d5 lh dt))] → Q (.ref m) H')
theorem ok_ltree (T : Txt K mg) : FnOk P w K mg base CX0 1 T.f__law_tree T.fd__law_tree [] spLTree := by
  refine T.D__law_tree.F.ok sc__law_tree (fun vs H Q E h => ?_) (fun cdv A outer s H vs Q E hr h => ?_)
  · obtain ⟨rfl, _⟩ := h.out
    rfl
  · obtain ⟨rfl, k⟩ := h.out
    have hu := hu_of hr
    refine ⟨_, (pss_cons (ps_set (i := 0) sc__law_tree.nd rfl (by first | exact Or.inl rfl | exact Or.inr rfl) (pe_disp (pps_cons (SL.pe_strL [108, 101, 118, 101, 108, 115] (by decide +kernel)) (pe_disp (pps_cons (SL.pe_strL [] (by decide +kernel)) pe_int pps_nil) rfl rfl (List.cons_ne_nil _ _) (by decide)) (pps_cons (SL.pe_strL [112, 114, 111, 112, 115] (by decide +kernel)) (pe_disp (pps_cons (SL.pe_strL [] (by decide +kernel)) pe_bl pps_nil) rfl rfl (List.cons_ne_nil _ _) (by decide)) (pps_cons (SL.pe_strL [111, 102, 102] (by decide +kernel)) (pe_disp (pps_cons (SL.pe_strL [] (by decide +kernel)) pe_bl pps_nil) rfl rfl (List.cons_ne_nil _ _) (by decide)) (pps_cons (SL.pe_strL [104, 97, 110, 100, 115] (by decide +kernel)) (pe_disp (pps_cons (SL.pe_strL [] (by decide +kernel)) (pe_lst pa_nil) pps_nil) rfl rfl (List.cons_ne_nil _ _) (by decide)) (pps_cons (SL.pe_strL [115, 105, 101, 118, 101, 115] (by decide +kernel)) (pe_disp (pps_cons (SL.pe_strL [] (by decide +kernel)) (pe_lst pa_nil) pps_nil) rfl rfl (List.cons_ne_nil _ _) (by decide)) pps_nil))))) rfl rfl (List.cons_ne_nil _ _) (by decide)))
  (pss_cons (ps_expr (pe_bm PySem.F.plainAttrs_dict PySem.F.slot_dict_update PySem.F.type_dict_update UD.mt_update (pv 0) (pa_cons (pe_disp (pps_cons (SL.pe_strL [98, 97, 114] (by decide +kernel)) pe_int (pps_cons (SL.pe_strL [104, 97, 110, 100, 108, 101, 114, 115] (by decide +kernel)) (pe_lst pa_nil) (pps_cons (SL.pe_strL [116, 101, 120, 116, 115] (by decide +kernel)) pe_dnewK pps_nil))) rfl rfl (List.cons_ne_nil _ _) (by decide)) pa_nil)))
  (pss_one (ps_ret (pv 0))))), ?_⟩
    walk_at "st"
    intro m hm
    have L := (Lay.nil H).lay hm (.dK [])
    generalize upd H m (.dK []) = H0 at L ⊢
    walk_at "st"
    intro d1 h1
    have L := L.lay h1 (.dK [])
    have g : upd H0 d1 (.dK []) d1 = some (.dK []) := upd_same
    generalize upd H0 d1 (.dK []) = H1 at L g ⊢
    walk_at "st"
    refine ⟨[(kE, .int 30)], rfl, by decide, ?_⟩
    have L := Lay.put (N1 := []) L (.dK (mergeK [] [(kE, .int 30)]))
    generalize upd H1 d1 (.dK (mergeK [] [(kE, .int 30)])) = H0 at L ⊢
    clear g
    walk_at "st"
    intro d2 h2
    have L := L.lay h2 (.dK [])
    have g : upd H0 d2 (.dK []) d2 = some (.dK []) := upd_same
    generalize upd H0 d2 (.dK []) = H1 at L g ⊢
    walk_at "st"
    refine ⟨[(kE, .bl true)], rfl, by decide, ?_⟩
    have L := Lay.put (N1 := []) L (.dK (mergeK [] [(kE, .bl true)]))
    generalize upd H1 d2 (.dK (mergeK [] [(kE, .bl true)])) = H0 at L ⊢
    clear g
    walk_at "st"
    intro d3 h3
    have L := L.lay h3 (.dK [])
    have g : upd H0 d3 (.dK []) d3 = some (.dK []) := upd_same
    generalize upd H0 d3 (.dK []) = H1 at L g ⊢
    walk_at "st"
    refine ⟨[(kE, .bl false)], rfl, by decide, ?_⟩
    have L := Lay.put (N1 := []) L (.dK (mergeK [] [(kE, .bl false)]))
    generalize upd H1 d3 (.dK (mergeK [] [(kE, .bl false)])) = H0 at L ⊢
    clear g
    walk_at "st"
    intro d4 h4
    have L := L.lay h4 (.dK [])
    generalize upd H0 d4 (.dK []) = H1 at L ⊢
    walk_at "st"
    intro l4 g4
    have L := L.lay g4 (.lst [])
    generalize upd H1 l4 (.lst []) = H2 at L ⊢
    walk_at "st"
    refine ⟨L.at_ (d4, .dK []) (by simp), [(kE, .ref l4)], rfl, Nat.le_of_ble_eq_true rfl, ?_⟩
    have L := Lay.put (N1 := [(l4, .lst [])]) L (.dK (mergeK [] [(kE, .ref l4)]))
    generalize upd H2 d4 (.dK (mergeK [] [(kE, .ref l4)])) = H0 at L ⊢
    walk_at "st"
    intro d5 h5
    have L := L.lay h5 (.dK [])
    generalize upd H0 d5 (.dK []) = H1 at L ⊢
    walk_at "st"
    intro l5 g5
    have L := L.lay g5 (.lst [])
    generalize upd H1 l5 (.lst []) = H2 at L ⊢
    walk_at "st"
    refine ⟨L.at_ (d5, .dK []) (by simp), [(kE, .ref l5)], rfl, Nat.le_of_ble_eq_true rfl, ?_⟩
    have L := Lay.put (N1 := [(l5, .lst [])]) L (.dK (mergeK [] [(kE, .ref l5)]))
    generalize upd H2 d5 (.dK (mergeK [] [(kE, .ref l5)])) = H0 at L ⊢
    walk_at "st"
    have L : Lay H H0 [(l5, .lst []), (d5, .dK [(kE, .ref l5)]), (l4, .lst []), (d4, .dK [(kE, .ref l4)]), (d3, .dK [(kE, .bl false)]), (d2, .dK [(kE, .bl true)]), (d1, .dK [(kE, .int 30)]), (m, .dK [])] := L
    have hmx := L.at_ (m, .dK []) (by simp)
    refine ⟨hmx, [(.inr (SX.S kLev), .ref d1), (.inr (SX.S [112, 114, 111, 112, 115]), .ref d2), (.inr (SX.S [111, 102, 102]), .ref d3), (.inr (SX.S [104, 97, 110, 100, 115]), .ref d4), (.inr (SX.S [115, 105, 101, 118, 101, 115]), .ref d5)], rfl, Nat.le_of_ble_eq_true rfl, ?_⟩
    clear hmx
    have L := Lay.put (N1 := [(l5, .lst []), (d5, .dK [(kE, .ref l5)]), (l4, .lst []), (d4, .dK [(kE, .ref l4)]), (d3, .dK [(kE, .bl false)]), (d2, .dK [(kE, .bl true)]), (d1, .dK [(kE, .int 30)])]) (N2 := []) L (.dK (mergeK [] [(.inr (SX.S kLev), .ref d1), (.inr (SX.S [112, 114, 111, 112, 115]), .ref d2), (.inr (SX.S [111, 102, 102]), .ref d3), (.inr (SX.S [104, 97, 110, 100, 115]), .ref d4), (.inr (SX.S [115, 105, 101, 118, 101, 115]), .ref d5)]))
    generalize upd H0 m (.dK (mergeK [] [(.inr (SX.S kLev), .ref d1), (.inr (SX.S [112, 114, 111, 112, 115]), .ref d2), (.inr (SX.S [111, 102, 102]), .ref d3), (.inr (SX.S [104, 97, 110, 100, 115]), .ref d4), (.inr (SX.S [115, 105, 101, 118, 101, 115]), .ref d5)])) = H1 at L ⊢
    have hm1 := L.at_ (m, .dK (mergeK [] [(.inr (SX.S kLev), .ref d1), (.inr (SX.S [112, 114, 111, 112, 115]), .ref d2), (.inr (SX.S [111, 102, 102]), .ref d3), (.inr (SX.S [104, 97, 110, 100, 115]), .ref d4), (.inr (SX.S [115, 105, 101, 118, 101, 115]), .ref d5)])) (by simp)
    walk_at "st"
    refine ⟨.inr (.inr (.inl ⟨rfl, .inl ⟨_, hm1⟩⟩)), ?_⟩
    walk_at "st"
    intro u hu'
    have L := L.lay hu' (.dK [])
    generalize upd H1 u (.dK []) = H2 at L ⊢
    walk_at "st"
    intro lh hlh
    have L := L.lay hlh (.lst [])
    generalize upd H2 lh (.lst []) = H3 at L ⊢
    walk_at "st"
    intro dt hdt
    have L := L.lay hdt (.dK [])
    generalize upd H3 dt (.dK []) = H4 at L ⊢
    walk_at "st"
    have hux := L.at_ (u, .dK []) (by simp)
    refine ⟨hux, [(.inr (SX.S [98, 97, 114]), .int 0), (.inr (SX.S [104, 97, 110, 100, 108, 101, 114, 115]), .ref lh), (.inr (SX.S [116, 101, 120, 116, 115]), .ref dt)], rfl, Nat.le_of_ble_eq_true rfl, ?_⟩
    have L := Lay.put (N1 := [(dt, .dK []), (lh, .lst [])]) L (.dK (mergeK [] [(.inr (SX.S [98, 97, 114]), .int 0), (.inr (SX.S [104, 97, 110, 100, 108, 101, 114, 115]), .ref lh), (.inr (SX.S [116, 101, 120, 116, 115]), .ref dt)]))
    generalize upd H4 u (.dK (mergeK [] [(.inr (SX.S [98, 97, 114]), .int 0), (.inr (SX.S [104, 97, 110, 100, 108, 101, 114, 115]), .ref lh), (.inr (SX.S [116, 101, 120, 116, 115]), .ref dt)])) = H5 at L ⊢
    have hm5 := L.at_ (m, .dK (mergeK [] [(.inr (SX.S kLev), .ref d1), (.inr (SX.S [112, 114, 111, 112, 115]), .ref d2), (.inr (SX.S [111, 102, 102]), .ref d3), (.inr (SX.S [104, 97, 110, 100, 115]), .ref d4), (.inr (SX.S [115, 105, 101, 118, 101, 115]), .ref d5)])) (by simp)
    have hu5 := L.at_ (u, .dK (mergeK [] [(.inr (SX.S [98, 97, 114]), .int 0), (.inr (SX.S [104, 97, 110, 100, 108, 101, 114, 115]), .ref lh), (.inr (SX.S [116, 101, 120, 116, 115]), .ref dt)])) (by simp)
    have mu : m ≠ u := fun z => by rw [z, hu'] at hm1; cases hm1
    walk_at "st"
    refine ⟨m, u, _, _, rfl, rfl, mu, hm5, hu5, Nat.le_of_ble_eq_true rfl, ?_⟩
    have L := Lay.put (N1 := [(dt, .dK []), (lh, .lst []), (u, .dK (mergeK [] [(.inr (SX.S [98, 97, 114]), .int 0), (.inr (SX.S [104, 97, 110, 100, 108, 101, 114, 115]), .ref lh), (.inr (SX.S [116, 101, 120, 116, 115]), .ref dt)])), (l5, .lst []), (d5, .dK [(kE, .ref l5)]), (l4, .lst []), (d4, .dK [(kE, .ref l4)]), (d3, .dK [(kE, .bl false)]), (d2, .dK [(kE, .bl true)]), (d1, .dK [(kE, .int 30)])]) (N2 := []) L (.dK (kMod d1 d2 d3 d4 d5 lh dt))
    walk_at "st"
    exact k _ m d1 d2 d3 d4 d5 l4 l5 lh dt u _ L
end
end My

namespace My
open PySem PySem.Spec PyProof.Rows L2 SuX LTr DN
local macro_rules | `(tactic| walk_at "hp") => `(tactic| first | assumption | exact upd_same | (refine Eq.trans (upd_ne (by first | assumption | (apply Ne.symm; assumption))) ?_; walk_at "hp"))
local macro_rules | `(tactic| walk_at "ixl") => `(tactic| (refine' ⟨_, ?xs, _, ?vv, rfl, rfl, SqL.of ?hh, ?aa, ?qq⟩; (case hh => walk_at "hp"); (case aa => rfl)))
local macro_rules | `(tactic| walk_at "setl") => `(tactic| (refine' ⟨_, ?xs, _, ?jj, rfl, rfl, ?hh, ?aa, ?qq⟩; (case hh => walk_at "hp"); (case aa => rfl)))
local macro_rules | `(tactic| walk_at "cond") => `(tactic| first | exact ⟨_, rfl⟩ | exact Nat.le_of_lt (small1000 (Nat.le_of_ble_eq_true rfl)) | decide | omega | (dsimp only; omega) | exact ⟨by decide, by decide⟩ | exact Or.inr ⟨by decide, by decide⟩ | exact Or.inl ⟨by decide, by decide⟩ | exact ⟨by decide, by decide, by decide⟩ | exact ⟨by omega, by omega⟩ | exact ⟨by omega, by omega, by omega⟩ | (simp only [List.length_cons, List.length_nil, List.length_append, List.length_take, List.length_drop]; omega) | (refine ⟨?_, ?_, ?_⟩ <;> first | decide | omega | (simp only [List.length_cons, List.length_nil, List.length_append, List.length_take, List.length_drop, Option.getD_some, Option.getD_none]; omega)))
local macro_rules | `(tactic| walk_at "st") => `(tactic| repeat (first | refine ⟨_, rfl, ?_⟩ | refine ⟨_, _, rfl, rfl, ?_⟩ | walk_at "ixl" | walk_at "setl" | refine ⟨rfl, ?_⟩ | refine Or.inl ⟨_, rfl, ?_⟩ | refine And.intro (by walk_at "cond") ?_))
local macro_rules | `(tactic| walk_at "cls") => `(tactic| first | exact OC.cl (by assumption) | exact (‹Txt _ _›).o_Clock.cl | exact (‹Txt _ _›).o_LevelTable.cl | exact (‹Txt _ _›).o_Store.cl | exact (‹Txt _ _›).o_Written.cl | exact (‹Txt _ _›).o_Roster.cl | exact (‹Txt _ _›).o_Handler.cl | exact (‹Txt _ _›).o_Logger.cl | exact (‹Txt _ _›).o_LoggerTree.cl | exact (‹Txt _ _›).o_StreamHandler.cl | exact (‹Txt _ _›).o_Yard.cl)
local macro_rules | `(tactic| walk_at "na") => `(tactic| first | (refine na_of (by assumption) ?_; decide) | (refine na_of (‹Txt _ _›).o_Clock ?_; decide) | (refine na_of (‹Txt _ _›).o_LevelTable ?_; decide) | (refine na_of (‹Txt _ _›).o_Store ?_; decide) | (refine na_of (‹Txt _ _›).o_Written ?_; decide) | (refine na_of (‹Txt _ _›).o_Roster ?_; decide) | (refine na_of (‹Txt _ _›).o_Handler ?_; decide) | (refine na_of (‹Txt _ _›).o_Logger ?_; decide) | (refine na_of (‹Txt _ _›).o_LoggerTree ?_; decide) | (refine na_of (‹Txt _ _›).o_StreamHandler ?_; decide) | (refine na_of (‹Txt _ _›).o_Yard ?_; decide))
local macro_rules | `(tactic| walk_at "fld") => `(tactic| (refine' ⟨_, _, _, _, ?vv, rfl, ?hh, ?cc, ?nn, ?ll, ?qq⟩; (case hh => walk_at "hp"); (case cc => walk_at "cls"); (case nn => walk_at "na"); (case ll => exact rfl)))
local macro_rules | `(tactic| walk_at "sto") => `(tactic| (refine' ⟨_, _, _, _, rfl, ?hh, ?cc, ?nn, ?ll, ?qq⟩; (case hh => walk_at "hp"); (case cc => walk_at "cls"); (case nn => walk_at "na"); (case ll => first | exact Nat.le_of_ble_eq_true rfl | assumption)))
local macro_rules | `(tactic| walk_at "mth") => `(tactic| (refine' ⟨_, _, _, rfl, ?hh, ?ll, ?qq⟩; (case hh => walk_at "hp"); (case ll => exact rfl)))
local macro_rules | `(tactic| walk_at "sx") => `(tactic| repeat (first | refine ⟨_, rfl, ?_⟩ | refine ⟨_, _, rfl, rfl, ?_⟩ | walk_at "ixl" | walk_at "setl" | refine ⟨rfl, ?_⟩ | refine Or.inl ⟨_, rfl, ?_⟩ | walk_at "fld" | walk_at "sto" | walk_at "mth" | refine And.intro (by walk_at "cond") ?_))
/-! ### the law's own yard, all of it -/
def kk (a : List Nat) : Key := Sum.inr (SX.S a)
def kvF (ms : List Nm) (f : Nm → V) : List (Key × V) := (([] : Nm) :: ms).map fun n => (Sum.inr (SX.S (dot n)), f n)
theorem kvF_at {ms : List Nm} {f : Nm → V} (g : ∀ x ∈ ms, GP x) {n : Nm} (gn : GP n) : valV (kvF ms f) (Sum.inr (SX.S (dot n)) : Key) = if n = [] ∨ n ∈ ms then some (f n) else none := by
  have key : ∀ l : List Nm, (∀ x ∈ l, GP x) → valV (l.map fun n => ((Sum.inr (SX.S (dot n)) : Key), f n)) (Sum.inr (SX.S (dot n)) : Key) = if n ∈ l then some (f n) else none := fun l hl => by
    induction l with
    | nil => rfl
    | cons x r ih =>
      have ih := ih fun y hy => hl y (List.mem_cons_of_mem _ hy)
      rw [List.map_cons]
      by_cases e : x = n
      · subst e
        rw [valV_pos rfl, if_pos List.mem_cons_self]
      · rw [valV_neg fun z => e (dot_inj (hl x List.mem_cons_self) gn (SX.S_inj (Sum.inr.inj z))), ih]
        have : (n ∈ x :: r) = (n ∈ r) := propext ⟨fun h => (List.mem_cons.mp h).resolve_left (Ne.symm e), List.mem_cons_of_mem _⟩
        simp only [this]
  have := key ([] :: ms) fun x hx => (List.mem_cons.mp hx).elim (fun z => by rw [z]; exact fun y hy => absurd hy List.not_mem_nil) (g x)
  unfold kvF
  rw [this]
  simp only [List.mem_cons]
theorem kvF_D {ms : List Nm} {lv : Nm → Int} (w : ∀ x ∈ ms, WP x) : LvD (kvF ms fun n => .int (lv n)) ms lv := by
  refine ⟨fun n gn n0 => ?_, fun x hx => ?_, w⟩
  · rw [kvF_at (fun x hx => (w x hx).gp) gn]
    by_cases h : n ∈ ms
    · rw [if_pos (.inr h), decide_eq_true h]; rfl
    · rw [if_neg fun z => z.elim n0 h, decide_eq_false h]; rfl
  · have gx : GP x := by
      rcases hx with rfl | hx
      · exact fun y hy => absurd hy List.not_mem_nil
      · exact (w x hx).gp
    rw [kvF_at (fun x hx => (w x hx).gp) gx, if_pos hx]
def upF {α : Type} (f : Nm → α) (n : Nm) (v : α) : Nm → α := fun x => if x = n then v else f x
theorem upF_same {α : Type} {f : Nm → α} {n : Nm} {v : α} : upF f n v n = v := if_pos rfl
theorem upF_ne {α : Type} {f : Nm → α} {n x : Nm} {v : α} (h : x ≠ n) : upF f n v x = f x := if_neg h
theorem kvF_congr {ms : List Nm} {f g : Nm → V} (h : ∀ x, x = [] ∨ x ∈ ms → f x = g x) : kvF ms f = kvF ms g := by
  unfold kvF
  exact List.map_congr_left fun x hx => by rw [h x (List.mem_cons.mp hx)]
theorem len_kvF (ms : List Nm) (f : Nm → V) : (kvF ms f).length = ms.length + 1 := by unfold kvF; rw [List.length_map, List.length_cons]
theorem kvF_new {ms : List Nm} {f : Nm → V} {n : Nm} (g : ∀ x ∈ ms, GP x) (gn : GP n) (n0 : n ≠ []) (hn : n ∉ ms) (v : V) : putK (kvF ms f) (kk (dot n)) v = kvF (ms ++ [n]) (upF f n v) := by
  have ea : valV (kvF ms f) (kk (dot n)) = none := (kvF_at g gn).trans (if_neg fun z => z.elim n0 hn)
  rw [putK_new (k := kk (dot n)) _ ea]
  unfold kvF
  rw [← List.cons_append, List.map_append]
  congr 1
  · refine List.map_congr_left fun x hx => ?_
    rw [upF_ne]
    rcases List.mem_cons.mp hx with rfl | hx
    · exact Ne.symm n0
    · exact fun z => hn (by rw [← z]; exact hx)
  · show [(kk (dot n), v)] = [(kk (dot n), upF f n v n)]
    rw [upF_same]
theorem kvF_put {ms : List Nm} {f : Nm → V} {n : Nm} (g : ∀ x ∈ ms, GP x) (gn : GP n) (hn : n = [] ∨ n ∈ ms) (v : V) : putK (kvF ms f) (kk (dot n)) v = kvF ms (upF f n v) := by
  have gp : ∀ y, y = [] ∨ y ∈ ms → GP y := fun y hy => hy.elim (fun z => by rw [z]; exact fun x hx => absurd hx List.not_mem_nil) (g y)
  unfold putK
  rw [if_pos ?_]
  · unfold kvF
    rw [List.map_map]
    refine List.map_congr_left fun y hy => ?_
    show (if (Sum.inr (SX.S (dot y)) : Key) = Sum.inr (SX.S (dot n)) then ((Sum.inr (SX.S (dot y)) : Key), v) else (Sum.inr (SX.S (dot y)), f y)) = ((Sum.inr (SX.S (dot y)) : Key), upF f n v y)
    by_cases e : y = n
    · rw [e, if_pos rfl, upF_same]
    · rw [if_neg fun z => e (dot_inj (gp y (List.mem_cons.mp hy)) gn (SX.S_inj (Sum.inr.inj z))), upF_ne e]
  · rw [List.any_eq_true]
    refine ⟨(kk (dot n), f n), ?_, decide_eq_true rfl⟩
    unfold kvF
    exact List.mem_map.mpr ⟨n, List.mem_cons.mpr hn, rfl⟩
structure MA where
  (m d1 d2 d3 d4 d5 lh dt : Addr)
def kModB (M : MA) (bar : Int) : List (Key × V) := [(.inr (SX.S kLev), .ref M.d1), (.inr (SX.S [112, 114, 111, 112, 115]), .ref M.d2), (.inr (SX.S [111, 102, 102]), .ref M.d3), (.inr (SX.S [104, 97, 110, 100, 115]), .ref M.d4), (.inr (SX.S [115, 105, 101, 118, 101, 115]), .ref M.d5), (.inr (SX.S [98, 97, 114]), .int bar), (.inr (SX.S [104, 97, 110, 100, 108, 101, 114, 115]), .ref M.lh), (.inr (SX.S [116, 101, 120, 116, 115]), .ref M.dt)]
structure MF where
  lv : Nm → Int
  pp : Nm → Bool
  off : Nm → Bool
  ha : Nm → Addr
  sa : Nm → Addr
  bar : Int
structure MK (H : Hp) (M : MA) (ms : List Nm) (F : MF) : Prop where
  m : H M.m = some (.dK (kModB M F.bar))
  l : H M.d1 = some (.dK (kvF ms fun n => .int (F.lv n)))
  p : H M.d2 = some (.dK (kvF ms fun n => .bl (F.pp n)))
  o : H M.d3 = some (.dK (kvF ms fun n => .bl (F.off n)))
  h : H M.d4 = some (.dK (kvF ms fun n => .ref (F.ha n)))
  s : H M.d5 = some (.dK (kvF ms fun n => .ref (F.sa n)))
  nd : [M.m, M.d1, M.d2, M.d3, M.d4, M.d5].Nodup
def MF.new (F : MF) (n : Nm) (h s : Addr) : MF := ⟨upF F.lv n 0, upF F.pp n true, upF F.off n false, upF F.ha n h, upF F.sa n s, F.bar⟩
theorem up_int (f : Nm → Int) (n : Nm) (i : Int) : (fun x => V.int (upF f n i x)) = upF (fun x => V.int (f x)) n (.int i) := by
  funext x; unfold upF; split <;> rfl
theorem up_bl (f : Nm → Bool) (n : Nm) (i : Bool) : (fun x => V.bl (upF f n i x)) = upF (fun x => V.bl (f x)) n (.bl i) := by
  funext x; unfold upF; split <;> rfl
theorem up_ref (f : Nm → Addr) (n : Nm) (i : Addr) : (fun x => V.ref (upF f n i x)) = upF (fun x => V.ref (f x)) n (.ref i) := by
  funext x; unfold upF; split <;> rfl
section
variable {P : Program} {w : World} {K : PySem.W.Frag} {mg : Str → Option Value} {base : Heap}
def spMadeK : Sp := fun vs H Q _ => Hd (∃ (M : MA) (ms : List Nm) (F : MF) (n : Nm), vs = [.ref M.m, .str (SX.S (dot n))] ∧ MK H M ms F ∧ (∀ x ∈ ms, WP x) ∧ (n = [] ∨ WP n) ∧ ms.length ≤ 100 ∧
  (n = [] ∨ n ∈ ms → Q .non H) ∧ (n ≠ [] → n ∉ ms → ∀ H' h s, MK H' M (ms ++ [n]) (F.new n h s) → FrS [M.d1, M.d2, M.d3, M.d4, M.d5] H H' → H h = none → H s = none → H' h = some (.lst []) → H' s = some (.lst []) → h ≠ s → Q .non H'))
theorem ok_madeK (T : Txt K mg) : FnOk P w K mg base CX0 1 T.f__law_made T.fd__law_made ["_law_m", "_law_name"] spMadeK := by
  refine T.D__law_made.F.ok sc__law_made (fun vs H Q E h => ?_) (fun cdv A outer s H vs Q E hr h => ?_)
  · obtain ⟨M, ms, F, n, rfl, _⟩ := h.out
    rfl
  · obtain ⟨M, ms, F, n, rfl, L, wm, wn, zm, k1, k2⟩ := h.out
    have gn : GP n := wn.elim (fun z => by rw [z]; exact fun x hx => absurd hx List.not_mem_nil) (·.gp)
    have hu := hu_of hr
    have hm := L.m
    have hl := L.l
    have g1 : ∀ {H : Hp}, H M.m = some (.dK (kModB M F.bar)) → DGet H M.m (kV (kk kLev)) (some (.ref M.d1)) := fun h => DGet.k (k := kk kLev) h
    refine ⟨_, (pss_one (ps_if (pt_cmp (pc_dnotin hu (pv 1) (pe_dget hu (pv 0) (SL.pe_strL [108, 101, 118, 101, 108, 115] (by decide +kernel)) (fun _ _ => rfl))))
    (pss_cons (ps_asg (pe_tup (pa_cons pe_int (pa_cons pe_bl pa_nil))) (pg_tup rfl (pgs_cons (pg_sub (pe_dget hu (pv 0) (SL.pe_strL [108, 101, 118, 101, 108, 115] (by decide +kernel)) (fun _ _ => rfl)) (pv 1) (set_dict hu) (fun _ => rfl)) (pgs_cons (pg_sub (pe_dget hu (pv 0) (SL.pe_strL [112, 114, 111, 112, 115] (by decide +kernel)) (fun _ _ => rfl)) (pv 1) (set_dict hu) (fun _ => rfl)) pgs_nil))))
  (pss_one (ps_asg (pe_tup (pa_cons pe_bl (pa_cons (pe_lst pa_nil) (pa_cons (pe_lst pa_nil) pa_nil)))) (pg_tup rfl (pgs_cons (pg_sub (pe_dget hu (pv 0) (SL.pe_strL [111, 102, 102] (by decide +kernel)) (fun _ _ => rfl)) (pv 1) (set_dict hu) (fun _ => rfl)) (pgs_cons (pg_sub (pe_dget hu (pv 0) (SL.pe_strL [104, 97, 110, 100, 115] (by decide +kernel)) (fun _ _ => rfl)) (pv 1) (set_dict hu) (fun _ => rfl)) (pgs_cons (pg_sub (pe_dget hu (pv 0) (SL.pe_strL [115, 105, 101, 118, 101, 115] (by decide +kernel)) (fun _ _ => rfl)) (pv 1) (set_dict hu) (fun _ => rfl)) pgs_nil)))))))
    pss_nil)), ?_⟩
    walk_at "st"
    refine ⟨M.m, _, rfl, g1 hm, ?_⟩
    walk_at "st"
    refine ⟨M.d1, _, rfl, DGet.k (k := kk (dot n)) hl, ?_⟩
    have ea := kvF_at (f := fun n => .int (F.lv n)) (fun x hx => (wm x hx).gp) gn
    by_cases hn : n = [] ∨ n ∈ ms
    · rw [if_pos hn] at ea
      refine ⟨false, by rw [show valV (kvF ms fun n => .int (F.lv n)) (kk (dot n)) = _ from ea]; rfl, if_false_of rfl ?_⟩
      exact k1 hn
    · rw [if_neg hn] at ea
      refine ⟨true, by rw [show valV (kvF ms fun n => .int (F.lv n)) (kk (dot n)) = _ from ea]; rfl, if_true_of rfl ?_⟩
      walk_at "st"
      have hp := L.p
      have ho := L.o
      have hh := L.h
      have hs := L.s
      have nd := L.nd
      simp only [List.nodup_cons, List.mem_cons, List.not_mem_nil, or_false, not_or] at nd
      obtain ⟨⟨m1, m2, m3, m4, m5⟩, ⟨a2, a3, a4, a5⟩, ⟨b3, b4, b5⟩, ⟨c4, c5⟩, e5, _⟩ := nd
      intro t ht
      have st : Same H (upd H t (.tup [.int 0, .bl true])) := same_new ht
      have htt : upd H t (.tup [.int 0, .bl true]) t = some (.tup [.int 0, .bl true]) := upd_same
      generalize upd H t (.tup [.int 0, .bl true]) = H1 at st htt ⊢
      have hm1 := st _ _ hm
      have hl1 := st _ _ hl
      have hp1 := st _ _ hp
      have ho1 := st _ _ ho
      have hh1 := st _ _ hh
      have hs1 := st _ _ hs
      refine ⟨t, _, rfl, SqT.of htt, rfl, _, _, rfl, ?_⟩
      walk_at "st"
      refine ⟨M.m, _, rfl, g1 hm1, ?_⟩
      walk_at "st"
      refine ⟨M.d1, _, rfl, DPut.k (k := kk (dot n)) hl1 (by rw [len_kvF]; exact Nat.lt_of_le_of_lt (show _ ≤ 101 by omega) (by decide)), ?_⟩
      have hm2 : upd H1 M.d1 (.dK (putK (kvF ms fun n => .int (F.lv n)) (kk (dot n)) (.int 0))) M.m = _ := (upd_ne m1).trans hm1
      have hl2 : upd H1 M.d1 (.dK (putK (kvF ms fun n => .int (F.lv n)) (kk (dot n)) (.int 0))) M.d1 = _ := upd_same
      have hp2 : upd H1 M.d1 (.dK (putK (kvF ms fun n => .int (F.lv n)) (kk (dot n)) (.int 0))) M.d2 = _ := (upd_ne (Ne.symm a2)).trans hp1
      have ho2 : upd H1 M.d1 (.dK (putK (kvF ms fun n => .int (F.lv n)) (kk (dot n)) (.int 0))) M.d3 = _ := (upd_ne (Ne.symm a3)).trans ho1
      have hh2 : upd H1 M.d1 (.dK (putK (kvF ms fun n => .int (F.lv n)) (kk (dot n)) (.int 0))) M.d4 = _ := (upd_ne (Ne.symm a4)).trans hh1
      have hs2 : upd H1 M.d1 (.dK (putK (kvF ms fun n => .int (F.lv n)) (kk (dot n)) (.int 0))) M.d5 = _ := (upd_ne (Ne.symm a5)).trans hs1
      have f2 : FrS [M.d1, M.d2, M.d3, M.d4, M.d5] H (upd H1 M.d1 (.dK (putK (kvF ms fun n => .int (F.lv n)) (kk (dot n)) (.int 0)))) := FrS.put (fun c u _ e => st c u e) (by simp)
      generalize upd H1 M.d1 (.dK (putK (kvF ms fun n => .int (F.lv n)) (kk (dot n)) (.int 0))) = H2 at hm2 hl2 hp2 ho2 hh2 hs2 f2 ⊢
      refine ⟨_, _, rfl, ?_⟩
      walk_at "st"
      refine ⟨M.m, _, rfl, DGet.k (k := kk [112, 114, 111, 112, 115]) hm2, ?_⟩
      walk_at "st"
      refine ⟨M.d2, _, rfl, DPut.k (k := kk (dot n)) hp2 (by rw [len_kvF]; exact Nat.lt_of_le_of_lt (show _ ≤ 101 by omega) (by decide)), ?_⟩
      have hm3 : upd H2 M.d2 (.dK (putK (kvF ms fun n => .bl (F.pp n)) (kk (dot n)) (.bl true))) M.m = _ := (upd_ne m2).trans hm2
      have hl3 : upd H2 M.d2 (.dK (putK (kvF ms fun n => .bl (F.pp n)) (kk (dot n)) (.bl true))) M.d1 = _ := (upd_ne a2).trans hl2
      have hp3 : upd H2 M.d2 (.dK (putK (kvF ms fun n => .bl (F.pp n)) (kk (dot n)) (.bl true))) M.d2 = _ := upd_same
      have ho3 : upd H2 M.d2 (.dK (putK (kvF ms fun n => .bl (F.pp n)) (kk (dot n)) (.bl true))) M.d3 = _ := (upd_ne (Ne.symm b3)).trans ho2
      have hh3 : upd H2 M.d2 (.dK (putK (kvF ms fun n => .bl (F.pp n)) (kk (dot n)) (.bl true))) M.d4 = _ := (upd_ne (Ne.symm b4)).trans hh2
      have hs3 : upd H2 M.d2 (.dK (putK (kvF ms fun n => .bl (F.pp n)) (kk (dot n)) (.bl true))) M.d5 = _ := (upd_ne (Ne.symm b5)).trans hs2
      have f3 := FrS.put (x := M.d2) (o := .dK (putK (kvF ms fun n => .bl (F.pp n)) (kk (dot n)) (.bl true))) f2 (by simp)
      generalize upd H2 M.d2 (.dK (putK (kvF ms fun n => .bl (F.pp n)) (kk (dot n)) (.bl true))) = H3 at hm3 hl3 hp3 ho3 hh3 hs3 f3 ⊢
      refine ⟨rfl, ?_⟩
      walk_at "st"
      have dm3 : ∀ b, H3 b = none → H b = none ∧ b ∉ [M.d1, M.d2, M.d3, M.d4, M.d5] := fun b e => by
        have nb : b ∉ [M.d1, M.d2, M.d3, M.d4, M.d5] := fun hb => by
          simp only [List.mem_cons, List.not_mem_nil, or_false] at hb
          rcases hb with rfl | rfl | rfl | rfl | rfl
          · rw [hl3] at e; cases e
          · rw [hp3] at e; cases e
          · rw [ho3] at e; cases e
          · rw [hh3] at e; cases e
          · rw [hs3] at e; cases e
        refine ⟨?_, nb⟩
        cases q : H b with
        | none => rfl
        | some o => rw [f3 b o nb q] at e; cases e
      intro x4 hx4
      have q4 : Same H3 (upd H3 x4 (.lst [])) := same_new hx4
      have g14 : upd H3 x4 (.lst []) x4 = some (.lst []) := upd_same
      generalize upd H3 x4 (.lst []) = G1 at q4 g14 ⊢
      walk_at "st"
      intro x5 hx5
      have q5 : Same H3 (upd G1 x5 (.lst [])) := fun b u e => same_new hx5 _ _ (q4 _ _ e)
      have g25 : upd G1 x5 (.lst []) x5 = some (.lst []) := upd_same
      have g24 : upd G1 x5 (.lst []) x4 = some (.lst []) := same_new hx5 _ _ g14
      have n45 : x4 ≠ x5 := fun z => by rw [z, hx5] at g14; cases g14
      have n4 := dm3 x4 hx4
      have n5 := dm3 x5 (Same.free q4 hx5)
      generalize upd G1 x5 (.lst []) = G2 at q5 g25 g24 ⊢
      walk_at "st"
      intro t2 ht2
      have q6 : Same H3 (upd G2 t2 (.tup [.bl false, .ref x4, .ref x5])) := fun b u e => same_new ht2 _ _ (q5 _ _ e)
      have g34 : upd G2 t2 (.tup [.bl false, .ref x4, .ref x5]) x4 = some (.lst []) := same_new ht2 _ _ g24
      have g35 : upd G2 t2 (.tup [.bl false, .ref x4, .ref x5]) x5 = some (.lst []) := same_new ht2 _ _ g25
      have htt2 : upd G2 t2 (.tup [.bl false, .ref x4, .ref x5]) t2 = some (.tup [.bl false, .ref x4, .ref x5]) := upd_same
      generalize upd G2 t2 (.tup [.bl false, .ref x4, .ref x5]) = H4 at q6 htt2 g34 g35 ⊢
      have hm4 := q6 _ _ hm3
      have hl4 := q6 _ _ hl3
      have hp4 := q6 _ _ hp3
      have ho4 := q6 _ _ ho3
      have hh4 := q6 _ _ hh3
      have hs4 := q6 _ _ hs3
      have f4 : FrS [M.d1, M.d2, M.d3, M.d4, M.d5] H H4 := f3.trans fun c u _ e => q6 c u e
      refine ⟨t2, _, rfl, SqT.of htt2, rfl, _, _, rfl, ?_⟩
      walk_at "st"
      refine ⟨M.m, _, rfl, DGet.k (k := kk [111, 102, 102]) hm4, ?_⟩
      walk_at "st"
      refine ⟨M.d3, _, rfl, DPut.k (k := kk (dot n)) ho4 (by rw [len_kvF]; exact Nat.lt_of_le_of_lt (show _ ≤ 101 by omega) (by decide)), ?_⟩
      have hm5 : upd H4 M.d3 (.dK (putK (kvF ms fun n => .bl (F.off n)) (kk (dot n)) (.bl false))) M.m = _ := (upd_ne m3).trans hm4
      have hl5 : upd H4 M.d3 (.dK (putK (kvF ms fun n => .bl (F.off n)) (kk (dot n)) (.bl false))) M.d1 = _ := (upd_ne a3).trans hl4
      have hp5 : upd H4 M.d3 (.dK (putK (kvF ms fun n => .bl (F.off n)) (kk (dot n)) (.bl false))) M.d2 = _ := (upd_ne b3).trans hp4
      have ho5 : upd H4 M.d3 (.dK (putK (kvF ms fun n => .bl (F.off n)) (kk (dot n)) (.bl false))) M.d3 = _ := upd_same
      have hh5 : upd H4 M.d3 (.dK (putK (kvF ms fun n => .bl (F.off n)) (kk (dot n)) (.bl false))) M.d4 = _ := (upd_ne (Ne.symm c4)).trans hh4
      have hs5 : upd H4 M.d3 (.dK (putK (kvF ms fun n => .bl (F.off n)) (kk (dot n)) (.bl false))) M.d5 = _ := (upd_ne (Ne.symm c5)).trans hs4
      have f5 := FrS.put (x := M.d3) (o := .dK (putK (kvF ms fun n => .bl (F.off n)) (kk (dot n)) (.bl false))) f4 (by simp)
      have v5 := FrS.put (x := M.d3) (o := .dK (putK (kvF ms fun n => .bl (F.off n)) (kk (dot n)) (.bl false))) (FrS.refl [M.d1, M.d2, M.d3, M.d4, M.d5] H4) (by simp)
      generalize upd H4 M.d3 (.dK (putK (kvF ms fun n => .bl (F.off n)) (kk (dot n)) (.bl false))) = H5 at hm5 hl5 hp5 ho5 hh5 hs5 f5 v5 ⊢
      refine ⟨_, _, rfl, ?_⟩
      walk_at "st"
      refine ⟨M.m, _, rfl, DGet.k (k := kk [104, 97, 110, 100, 115]) hm5, ?_⟩
      walk_at "st"
      refine ⟨M.d4, _, rfl, DPut.k (k := kk (dot n)) hh5 (by rw [len_kvF]; exact Nat.lt_of_le_of_lt (show _ ≤ 101 by omega) (by decide)), ?_⟩
      have hm6 : upd H5 M.d4 (.dK (putK (kvF ms fun n => .ref (F.ha n)) (kk (dot n)) (.ref x4))) M.m = _ := (upd_ne m4).trans hm5
      have hl6 : upd H5 M.d4 (.dK (putK (kvF ms fun n => .ref (F.ha n)) (kk (dot n)) (.ref x4))) M.d1 = _ := (upd_ne a4).trans hl5
      have hp6 : upd H5 M.d4 (.dK (putK (kvF ms fun n => .ref (F.ha n)) (kk (dot n)) (.ref x4))) M.d2 = _ := (upd_ne b4).trans hp5
      have ho6 : upd H5 M.d4 (.dK (putK (kvF ms fun n => .ref (F.ha n)) (kk (dot n)) (.ref x4))) M.d3 = _ := (upd_ne c4).trans ho5
      have hh6 : upd H5 M.d4 (.dK (putK (kvF ms fun n => .ref (F.ha n)) (kk (dot n)) (.ref x4))) M.d4 = _ := upd_same
      have hs6 : upd H5 M.d4 (.dK (putK (kvF ms fun n => .ref (F.ha n)) (kk (dot n)) (.ref x4))) M.d5 = _ := (upd_ne (Ne.symm e5)).trans hs5
      have f6 := FrS.put (x := M.d4) (o := .dK (putK (kvF ms fun n => .ref (F.ha n)) (kk (dot n)) (.ref x4))) f5 (by simp)
      have v6 := FrS.put (x := M.d4) (o := .dK (putK (kvF ms fun n => .ref (F.ha n)) (kk (dot n)) (.ref x4))) v5 (by simp)
      generalize upd H5 M.d4 (.dK (putK (kvF ms fun n => .ref (F.ha n)) (kk (dot n)) (.ref x4))) = H6 at hm6 hl6 hp6 ho6 hh6 hs6 f6 v6 ⊢
      refine ⟨_, _, rfl, ?_⟩
      walk_at "st"
      refine ⟨M.m, _, rfl, DGet.k (k := kk [115, 105, 101, 118, 101, 115]) hm6, ?_⟩
      walk_at "st"
      refine ⟨M.d5, _, rfl, DPut.k (k := kk (dot n)) hs6 (by rw [len_kvF]; exact Nat.lt_of_le_of_lt (show _ ≤ 101 by omega) (by decide)), ?_⟩
      have hm7 : upd H6 M.d5 (.dK (putK (kvF ms fun n => .ref (F.sa n)) (kk (dot n)) (.ref x5))) M.m = _ := (upd_ne m5).trans hm6
      have hl7 : upd H6 M.d5 (.dK (putK (kvF ms fun n => .ref (F.sa n)) (kk (dot n)) (.ref x5))) M.d1 = _ := (upd_ne a5).trans hl6
      have hp7 : upd H6 M.d5 (.dK (putK (kvF ms fun n => .ref (F.sa n)) (kk (dot n)) (.ref x5))) M.d2 = _ := (upd_ne b5).trans hp6
      have ho7 : upd H6 M.d5 (.dK (putK (kvF ms fun n => .ref (F.sa n)) (kk (dot n)) (.ref x5))) M.d3 = _ := (upd_ne c5).trans ho6
      have hh7 : upd H6 M.d5 (.dK (putK (kvF ms fun n => .ref (F.sa n)) (kk (dot n)) (.ref x5))) M.d4 = _ := (upd_ne e5).trans hh6
      have hs7 : upd H6 M.d5 (.dK (putK (kvF ms fun n => .ref (F.sa n)) (kk (dot n)) (.ref x5))) M.d5 = _ := upd_same
      have f7 := FrS.put (x := M.d5) (o := .dK (putK (kvF ms fun n => .ref (F.sa n)) (kk (dot n)) (.ref x5))) f6 (by simp)
      have v7 := FrS.put (x := M.d5) (o := .dK (putK (kvF ms fun n => .ref (F.sa n)) (kk (dot n)) (.ref x5))) v6 (by simp)
      generalize upd H6 M.d5 (.dK (putK (kvF ms fun n => .ref (F.sa n)) (kk (dot n)) (.ref x5))) = H7 at hm7 hl7 hp7 ho7 hh7 hs7 f7 v7 ⊢
      refine ⟨rfl, ?_⟩
      walk_at "st"
      have gm : ∀ x ∈ ms, GP x := fun x hx => (wm x hx).gp
      have n0 : n ≠ [] := fun z => hn (.inl z)
      have nm : n ∉ ms := fun z => hn (.inr z)
      have new := fun (f : Nm → V) v => kvF_new (f := f) gm gn n0 nm v
      refine k2 n0 nm _ x4 x5 ⟨hm7, ?_, ?_, ?_, ?_, ?_, L.nd⟩ f7 n4.1 n5.1 (v7 _ _ n4.2 g34) (v7 _ _ n5.2 g35) n45
      · rw [hl7]; show _ = some (HO.dK (kvF _ fun x => .int (upF F.lv n 0 x))); rw [up_int, ← new]
      · rw [hp7]; show _ = some (HO.dK (kvF _ fun x => .bl (upF F.pp n true x))); rw [up_bl, ← new]
      · rw [ho7]; show _ = some (HO.dK (kvF _ fun x => .bl (upF F.off n false x))); rw [up_bl, ← new]
      · rw [hh7]; show _ = some (HO.dK (kvF _ fun x => .ref (upF F.ha n x4 x))); rw [up_ref, ← new]
      · rw [hs7]; show _ = some (HO.dK (kvF _ fun x => .ref (upF F.sa n x5 x))); rw [up_ref, ← new]
end
end My

namespace My
open PySem PySem.Spec PyProof.Rows L2 SuX LTr DN
local macro_rules | `(tactic| walk_at "hp") => `(tactic| first | assumption | exact upd_same | (refine Eq.trans (upd_ne (by first | assumption | (apply Ne.symm; assumption))) ?_; walk_at "hp"))
local macro_rules | `(tactic| walk_at "ixl") => `(tactic| (refine' ⟨_, ?xs, _, ?vv, rfl, rfl, SqL.of ?hh, ?aa, ?qq⟩; (case hh => walk_at "hp"); (case aa => rfl)))
local macro_rules | `(tactic| walk_at "setl") => `(tactic| (refine' ⟨_, ?xs, _, ?jj, rfl, rfl, ?hh, ?aa, ?qq⟩; (case hh => walk_at "hp"); (case aa => rfl)))
local macro_rules | `(tactic| walk_at "cond") => `(tactic| first | exact ⟨_, rfl⟩ | exact Nat.le_of_lt (small1000 (Nat.le_of_ble_eq_true rfl)) | decide | omega | (dsimp only; omega) | exact ⟨by decide, by decide⟩ | exact Or.inr ⟨by decide, by decide⟩ | exact Or.inl ⟨by decide, by decide⟩ | exact ⟨by decide, by decide, by decide⟩ | exact ⟨by omega, by omega⟩ | exact ⟨by omega, by omega, by omega⟩ | (simp only [List.length_cons, List.length_nil, List.length_append, List.length_take, List.length_drop]; omega) | (refine ⟨?_, ?_, ?_⟩ <;> first | decide | omega | (simp only [List.length_cons, List.length_nil, List.length_append, List.length_take, List.length_drop, Option.getD_some, Option.getD_none]; omega)))
local macro_rules | `(tactic| walk_at "st") => `(tactic| repeat (first | refine ⟨_, rfl, ?_⟩ | refine ⟨_, _, rfl, rfl, ?_⟩ | walk_at "ixl" | walk_at "setl" | refine ⟨rfl, ?_⟩ | refine Or.inl ⟨_, rfl, ?_⟩ | refine And.intro (by walk_at "cond") ?_))
local macro_rules | `(tactic| walk_at "cls") => `(tactic| first | exact OC.cl (by assumption) | exact (‹Txt _ _›).o_Clock.cl | exact (‹Txt _ _›).o_LevelTable.cl | exact (‹Txt _ _›).o_Store.cl | exact (‹Txt _ _›).o_Written.cl | exact (‹Txt _ _›).o_Roster.cl | exact (‹Txt _ _›).o_Handler.cl | exact (‹Txt _ _›).o_Logger.cl | exact (‹Txt _ _›).o_LoggerTree.cl | exact (‹Txt _ _›).o_StreamHandler.cl | exact (‹Txt _ _›).o_Yard.cl)
local macro_rules | `(tactic| walk_at "na") => `(tactic| first | (refine na_of (by assumption) ?_; decide) | (refine na_of (‹Txt _ _›).o_Clock ?_; decide) | (refine na_of (‹Txt _ _›).o_LevelTable ?_; decide) | (refine na_of (‹Txt _ _›).o_Store ?_; decide) | (refine na_of (‹Txt _ _›).o_Written ?_; decide) | (refine na_of (‹Txt _ _›).o_Roster ?_; decide) | (refine na_of (‹Txt _ _›).o_Handler ?_; decide) | (refine na_of (‹Txt _ _›).o_Logger ?_; decide) | (refine na_of (‹Txt _ _›).o_LoggerTree ?_; decide) | (refine na_of (‹Txt _ _›).o_StreamHandler ?_; decide) | (refine na_of (‹Txt _ _›).o_Yard ?_; decide))
local macro_rules | `(tactic| walk_at "fld") => `(tactic| (refine' ⟨_, _, _, _, ?vv, rfl, ?hh, ?cc, ?nn, ?ll, ?qq⟩; (case hh => walk_at "hp"); (case cc => walk_at "cls"); (case nn => walk_at "na"); (case ll => exact rfl)))
local macro_rules | `(tactic| walk_at "sto") => `(tactic| (refine' ⟨_, _, _, _, rfl, ?hh, ?cc, ?nn, ?ll, ?qq⟩; (case hh => walk_at "hp"); (case cc => walk_at "cls"); (case nn => walk_at "na"); (case ll => first | exact Nat.le_of_ble_eq_true rfl | assumption)))
local macro_rules | `(tactic| walk_at "mth") => `(tactic| (refine' ⟨_, _, _, rfl, ?hh, ?ll, ?qq⟩; (case hh => walk_at "hp"); (case ll => exact rfl)))
local macro_rules | `(tactic| walk_at "sx") => `(tactic| repeat (first | refine ⟨_, rfl, ?_⟩ | refine ⟨_, _, rfl, rfl, ?_⟩ | walk_at "ixl" | walk_at "setl" | refine ⟨rfl, ?_⟩ | refine Or.inl ⟨_, rfl, ?_⟩ | walk_at "fld" | walk_at "sto" | walk_at "mth" | refine And.intro (by walk_at "cond") ?_))
theorem passes_no {X : Cx} : Passes (L2.CX X.prog X.w) X (fun _ _ _ => False) := fun _ _ _ _ _ _ _ h => by
  obtain ⟨_, _, _, _, _, _, _, _, _, _, _, _, z⟩ := h
  exact z.elim
theorem Xt.frT {H H' : Hp} {p q : Addr} {n : Int} (S : Stm H p q n) (x : Xt H H' p q) : FrT [p, q] H H' := by
  obtain ⟨⟨cs, a, c, SA⟩, _, _⟩ := S
  refine ⟨fun b o nb e _ => ?_, fun b ps e => ?_⟩
  · have n1 : b ≠ p := fun z => nb (by rw [z]; exact List.mem_cons_self)
    have n2 : b ≠ q := fun z => nb (by rw [z]; exact List.mem_cons_of_mem _ List.mem_cons_self)
    exact x.at e n1 n2
  · have n1 : b ≠ p := fun z => by rw [z, SA.hp] at e; cases e
    have n2 : b ≠ q := fun z => by rw [z, SA.hq] at e; cases e
    exact ⟨ps, x.at e n1 n2, id⟩
theorem Stm.lst {H : Hp} {p q : Addr} {n : Int} (S : Stm H p q n) : ∀ b ∈ [p, q], ∃ xs, H b = some (.lst xs) := by
  obtain ⟨⟨cs, a, c, SA⟩, _, _⟩ := S
  intro b hb
  rcases List.mem_cons.mp hb with rfl | hb
  · exact ⟨_, SA.hp⟩
  · rw [List.mem_singleton.mp hb]; exact ⟨_, SA.hq⟩
theorem Stm.frT {H H' : Hp} {p q : Addr} {n : Int} {B : List Addr} (s : Stm H p q n) (f : FrT B H H') (hp : p ∉ B) (hq : q ∉ B) : Stm H' p q n := by
  obtain ⟨⟨cs, a, c, SA⟩, n0, n1⟩ := s
  exact ⟨⟨cs, a, c, ⟨f.st _ _ hp SA.hp rfl, f.st _ _ hq SA.hq rfl, SA.a0, SA.c0, SA.c1⟩⟩, n0, n1⟩
theorem kvR_eq {rt : Addr} {S : List Lg} (w : Wf rt S) : kvR rt S = (([] : Nm) :: names S).map fun m => ((Sum.inr (SX.S (dot m)), V.ref (adr rt S m)) : Key × V) := by
  unfold kvR kvN names
  rw [List.map_cons, w.root, List.map_map]
  refine congrArg (List.cons _) (List.map_congr_left fun L hL => ?_)
  show _ = ((Sum.inr (SX.S (dot L.nm)), V.ref (adr rt S L.nm)) : Key × V)
  rw [adr_of (getL_mem w.nn hL)]
theorem len_kvR (rt : Addr) (S : List Lg) : (kvR rt S).length = S.length + 1 := by
  unfold kvR kvN
  rw [List.length_cons, List.length_map]
theorem putK_same {kvs : List (Key × V)} {k : Key} {v : V} (h : valV kvs k = some v) (hv : ∀ kv ∈ kvs, kv.1 = k → kv.2 = v) : putK kvs k v = kvs := by
  unfold putK
  have hany : (kvs.any fun kv => decide (kv.1 = k)) = true := by
    rw [List.any_eq_true]
    unfold valV at h
    obtain ⟨kv, h1, h2⟩ := Option.map_eq_some_iff.mp h
    have h3 := List.find?_some h1
    exact ⟨kv, List.mem_of_find?_eq_some h1, h3⟩
  rw [if_pos hany]
  refine (List.map_congr_left fun kv hkv => ?_).trans (List.map_id kvs)
  by_cases e : kv.1 = k
  · rw [if_pos e, ← hv kv hkv e]
    rfl
  · rw [if_neg e]
    rfl
/-! ### a yard, the law's own yard beside it -/
structure YB where
  (y dy kd dlv n1 n2 : Addr)
  Y : YA
  M : MA
  kvs : List (Key × V)
structure YS where
  A : TA
  S : List Lg
  ms : List Nm
  F : MF
def dicts (B : YB) (A : TA) : List Addr := [B.kd, A.nd, B.n2, B.M.m, B.M.d1, B.M.d2, B.M.d3, B.M.d4, B.M.d5]
def ads (B : YB) (z : YS) : List Addr := z.A.tr :: z.A.rt :: z.A.lv :: B.y :: (dicts B z.A ++ z.S.map (·.a))
structure YJ {K : PySem.W.Frag} {mg : Str → Option Value} (T : Txt K mg) (H : Hp) (B : YB) (z : YS) : Prop where
  tr : TreeAt T H z.A z.S
  ey : z.A.y = B.y
  yy : H B.y = some (.ins T.C_Yard B.dy (fYd B.Y))
  yt : B.Y.tr = z.A.tr
  kw : H B.kd = some (.dK (kvR z.A.rt z.S))
  lv : H z.A.lv = some (.ins T.C_LevelTable B.dlv (fLv B.n1 B.n2))
  tb : H B.n2 = some (.dK B.kvs)
  ml : MK H B.M z.ms z.F
  dn : (dicts B z.A).Nodup
section
variable {K : PySem.W.Frag} {mg : Str → Option Value} {T : Txt K mg} {H H' : Hp} {B : YB} {z : YS}
theorem mem_dicts {b : Addr} (h : b ∈ dicts B z.A) : b ∈ ads B z := by
  unfold ads
  exact List.mem_cons_of_mem _ (List.mem_cons_of_mem _ (List.mem_cons_of_mem _ (List.mem_cons_of_mem _ (List.mem_append_left _ h))))
theorem mem_lg {L : Lg} (h : L ∈ z.S) : L.a ∈ ads B z := by
  unfold ads
  exact List.mem_cons_of_mem _ (List.mem_cons_of_mem _ (List.mem_cons_of_mem _ (List.mem_cons_of_mem _ (List.mem_append_right _ (List.mem_map_of_mem h)))))
theorem mem_tr : z.A.tr ∈ ads B z := List.mem_cons_self
theorem mem_rt : z.A.rt ∈ ads B z := List.mem_cons_of_mem _ List.mem_cons_self
theorem mem_lv : z.A.lv ∈ ads B z := List.mem_cons_of_mem _ (List.mem_cons_of_mem _ List.mem_cons_self)
theorem mem_y : B.y ∈ ads B z := List.mem_cons_of_mem _ (List.mem_cons_of_mem _ (List.mem_cons_of_mem _ List.mem_cons_self))
theorem YJ.dk (l : YJ T H B z) : ∀ b ∈ dicts B z.A, ∃ k, H b = some (.dK k) := fun b hb => by
  unfold dicts at hb
  simp only [List.mem_cons, List.not_mem_nil, or_false] at hb
  rcases hb with rfl | rfl | rfl | rfl | rfl | rfl | rfl | rfl | rfl
  · exact ⟨_, l.kw⟩
  · exact ⟨_, l.tr.nd⟩
  · exact ⟨_, l.tb⟩
  · exact ⟨_, l.ml.m⟩
  · exact ⟨_, l.ml.l⟩
  · exact ⟨_, l.ml.p⟩
  · exact ⟨_, l.ml.o⟩
  · exact ⟨_, l.ml.h⟩
  · exact ⟨_, l.ml.s⟩
/-- what stands there: a dict or an instance -/
theorem YJ.ob (l : YJ T H B z) : ∀ b ∈ ads B z, (∃ k, H b = some (.dK k)) ∨ ∃ C d fs, H b = some (.ins C d fs) := fun b hb => by
  unfold ads at hb
  rcases List.mem_cons.mp hb with rfl | hb
  · exact .inr ⟨_, _, _, l.tr.tr⟩
  rcases List.mem_cons.mp hb with rfl | hb
  · exact .inr ⟨_, _, _, l.tr.rt⟩
  rcases List.mem_cons.mp hb with rfl | hb
  · exact .inr ⟨_, _, _, l.lv⟩
  rcases List.mem_cons.mp hb with rfl | hb
  · exact .inr ⟨_, _, _, l.yy⟩
  rcases List.mem_append.mp hb with hb | hb
  · exact .inl (l.dk b hb)
  · obtain ⟨L, hL, rfl⟩ := List.mem_map.mp hb
    exact .inr ⟨_, _, _, l.tr.lg L hL⟩
theorem YJ.obj (l : YJ T H B z) {b : Addr} (hb : b ∈ ads B z) : ∃ o, H b = some o ∧ noT o = true := (l.ob b hb).elim (fun ⟨_, e⟩ => ⟨_, e, rfl⟩) fun ⟨_, _, _, e⟩ => ⟨_, e, rfl⟩
theorem YJ.nl (l : YJ T H B z) {b : Addr} {xs : List V} (h : H b = some (.lst xs)) : b ∉ ads B z := fun hb => by
  rcases l.ob b hb with ⟨_, e⟩ | ⟨_, _, _, e⟩ <;> (rw [h] at e; cases e)
theorem YJ.new (l : YJ T H B z) {b : Addr} (h : H b = none) : b ∉ ads B z := fun hb => by
  obtain ⟨o, e, _⟩ := l.obj hb
  rw [h] at e; cases e
theorem YJ.keep (l : YJ T H B z) (h : ∀ b o, b ∈ ads B z → H b = some o → noT o = true → H' b = some o) : YJ T H' B z := by
  have d := fun b k (hb : b ∈ dicts B z.A) (e : H b = some (.dK k)) => h b _ (mem_dicts hb) e rfl
  have t := l.tr
  exact ⟨⟨h _ _ mem_tr t.tr rfl, d _ _ (by simp [dicts]) t.nd, h _ _ mem_rt t.rt rfl, fun L hL => h _ _ (mem_lg hL) (t.lg L hL) rfl, t.wp, t.wf, t.sz⟩, l.ey, h _ _ mem_y l.yy rfl, l.yt, d _ _ (by simp [dicts]) l.kw, h _ _ mem_lv l.lv rfl, d _ _ (by simp [dicts]) l.tb,
    ⟨d _ _ (by simp [dicts]) l.ml.m, d _ _ (by simp [dicts]) l.ml.l, d _ _ (by simp [dicts]) l.ml.p, d _ _ (by simp [dicts]) l.ml.o, d _ _ (by simp [dicts]) l.ml.h, d _ _ (by simp [dicts]) l.ml.s, l.ml.nd⟩, l.dn⟩
theorem YJ.frT (l : YJ T H B z) {X : List Addr} (f : FrT X H H') (hX : ∀ b ∈ ads B z, b ∉ X) : YJ T H' B z := l.keep fun b o hb e q => f.st b o (hX b hb) e q
theorem YJ.same (l : YJ T H B z) (s : Same H H') : YJ T H' B z := l.keep fun b o _ e _ => s _ _ e
theorem GP0 : GP ([] : Nm) := fun _ hx => absurd hx List.not_mem_nil
theorem YJ.wpn (l : YJ T H B z) : ∀ x ∈ names z.S, WP x := fun x hx => by
  obtain ⟨L, hL, rfl⟩ := List.mem_map.mp hx
  exact l.tr.wp L hL
theorem YJ.gpn (l : YJ T H B z) {x : Nm} (h : x = [] ∨ x ∈ names z.S) : GP x := h.elim (fun e => by rw [e]; exact GP0) fun e => (l.wpn x e).gp
/-- a known name's logger -/
theorem YJ.known (l : YJ T H B z) {x : Nm} (h : x = [] ∨ x ∈ names z.S) : DGet H B.kd (kV (Sum.inr (SX.S (dot x)))) (some (.ref (adr z.A.rt z.S x))) := by
  have g := dget_rd (k := Sum.inr (SX.S (dot x))) (.inl l.kw)
  rw [kvR_get l.tr.wf l.tr.gp h] at g
  exact g
/-- a change within -/
structure Own (H H' : Hp) (B : YB) (z z' : YS) (X : List Addr) : Prop where
  fr : FrT X H H'
  inn : ∀ b ∈ X, b ∈ ads B z
  out : ∀ b ∈ ads B z', b ∈ ads B z ∨ H b = none
/-- a logger got, and noted -/
theorem YJ.got (l : YJ T H B z) {S' : List Lg} {nm : Nm} (t' : TreeAt T H' z.A S') (c : S' = z.S ∧ SmT H H' ∨ nm ∉ names z.S ∧ FrT (z.A.nd :: z.S.map (·.a)) H H' ∧ ∃ L, S' = z.S ++ [L] ∧ NewL H H' nm L) (gp : GP nm) (n0 : nm ≠ []) (hm : nm ∈ names S') :
    H' B.kd = some (.dK (kvR z.A.rt z.S)) ∧ YJ T (upd H' B.kd (.dK (putK (kvR z.A.rt z.S) (Sum.inr (SX.S (dot nm))) (.ref (adr z.A.rt S' nm))))) B { z with S := S' } ∧
    Own H (upd H' B.kd (.dK (putK (kvR z.A.rt z.S) (Sum.inr (SX.S (dot nm))) (.ref (adr z.A.rt S' nm))))) B z { z with S := S' } (B.kd :: z.A.nd :: z.S.map (·.a)) := by
  have f : FrT (z.A.nd :: z.S.map (·.a)) H H' := c.elim (fun z => z.2.fr) fun z => z.2.1
  have dn := l.dn
  unfold dicts at dn
  simp only [List.nodup_cons, List.mem_cons, List.not_mem_nil, or_false, not_or] at dn
  obtain ⟨⟨k1, k2, k3, k4, k5, k6, k7, k8⟩, ⟨n2, n3, n4, n5, n6, n7, n8⟩, _⟩ := dn
  -- a dict of the yard's, other than the tree's own
  have nS : ∀ b k, H b = some (.dK k) → b ∉ z.S.map (·.a) := fun b k e q => by
    obtain ⟨L, hL, rfl⟩ := List.mem_map.mp q
    rw [l.tr.lg L hL] at e; cases e
  have dk' : ∀ b k, H b = some (.dK k) → b ≠ z.A.nd → H' b = some (.dK k) := fun b k e h1 => f.st _ _ (fun q => (List.mem_cons.mp q).elim h1 (nS b k e)) e rfl
  have hk := dk' _ _ l.kw k1
  have ins' : ∀ b C d fs, H b = some (.ins C d fs) → (∀ t y nm lv pp ds h f p, fs ≠ fLgG t y nm lv pp ds h f p) → H' b = some (.ins C d fs) := fun b C d fs e h1 => f.st _ _ (fun q => by
    rcases List.mem_cons.mp q with q | q
    · rw [q, l.tr.nd] at e; cases e
    · obtain ⟨L, hL, rfl⟩ := List.mem_map.mp q
      rw [l.tr.lg L hL] at e
      injection e with e
      injection e with _ _ e
      exact h1 _ _ _ _ _ _ _ _ _ e.symm) e rfl
  have hy := ins' _ _ _ _ l.yy fun t y nm lv pp ds h f p q => by
    have := congrArg (fun l => l.head?.map (·.1)) q
    exact absurd (show (some ("clock" : Str)) = some "tree" from this) (by decide)
  have hlv := ins' _ _ _ _ l.lv fun t y nm lv pp ds h f p q => by
    have := congrArg (fun l => l.head?.map (·.1)) q
    exact absurd (show (some ("names" : Str)) = some "tree" from this) (by decide)
  have eput : putK (kvR z.A.rt z.S) (Sum.inr (SX.S (dot nm))) (.ref (adr z.A.rt S' nm)) = kvR z.A.rt S' := by
    rcases c with ⟨rfl, _⟩ | ⟨hn, _, L, rfl, N⟩
    · have hg := kvR_get l.tr.wf l.tr.gp (.inr hm)
      exact putK_same hg fun kv hkv e => by
        rw [kvR_eq l.tr.wf] at hkv
        obtain ⟨m, hm2, rfl⟩ := List.mem_map.mp hkv
        have gm : GP m := l.gpn (List.mem_cons.mp hm2)
        rw [dot_inj gm gp (SX.S_inj (Sum.inr.inj e))]
    · rw [putK_new _ (by rw [kvR_at _ l.tr.gp gp n0, getL_not hn]; rfl), ← N.nm, adr_new (by rw [N.nm]; exact hn)]
      unfold kvR
      rw [kvN_app]
      rfl
  rw [eput]
  have ne : ∀ b C d fs, H' b = some (.ins C d fs) → b ≠ B.kd := fun b C d fs e q => by rw [q, hk] at e; cases e
  have up : ∀ b k, H b = some (.dK k) → b ≠ z.A.nd → b ≠ B.kd → upd H' B.kd (.dK (kvR z.A.rt S')) b = some (.dK k) := fun b k e h1 h2 => (upd_ne h2).trans (dk' b k e h1)
  refine ⟨hk, ⟨⟨(upd_ne (ne _ _ _ _ t'.tr)).trans t'.tr, (upd_ne (Ne.symm k1)).trans t'.nd, (upd_ne (ne _ _ _ _ t'.rt)).trans t'.rt, fun L hL => (upd_ne (ne _ _ _ _ (t'.lg L hL))).trans (t'.lg L hL), t'.wp, t'.wf, t'.sz⟩, l.ey, (upd_ne (ne _ _ _ _ hy)).trans hy, l.yt, upd_same, (upd_ne (ne _ _ _ _ hlv)).trans hlv, up _ _ l.tb (Ne.symm n2) (Ne.symm k2),
    ⟨up _ _ l.ml.m (Ne.symm n3) (Ne.symm k3), up _ _ l.ml.l (Ne.symm n4) (Ne.symm k4), up _ _ l.ml.p (Ne.symm n5) (Ne.symm k5), up _ _ l.ml.o (Ne.symm n6) (Ne.symm k6), up _ _ l.ml.h (Ne.symm n7) (Ne.symm k7), up _ _ l.ml.s (Ne.symm n8) (Ne.symm k8), l.ml.nd⟩, l.dn⟩, ⟨⟨fun b o nb e q => ?_, fun b ps e => ?_⟩, fun b hb => ?_, fun b hb => ?_⟩⟩
  · rw [upd_ne fun q => nb (by rw [q]; exact List.mem_cons_self)]
    exact f.st b o (fun q => nb (List.mem_cons_of_mem _ q)) e q
  · obtain ⟨ps', e', q⟩ := f.tb b ps e
    exact ⟨ps', (upd_ne fun z => by rw [z, hk] at e'; cases e').trans e', q⟩
  · rcases List.mem_cons.mp hb with rfl | hb
    · exact mem_dicts (by simp [dicts])
    rcases List.mem_cons.mp hb with rfl | hb
    · exact mem_dicts (by simp [dicts])
    · obtain ⟨L, hL, rfl⟩ := List.mem_map.mp hb
      exact mem_lg hL
  · rcases c with ⟨rfl, _⟩ | ⟨_, _, L, rfl, N⟩
    · exact .inl hb
    · unfold ads at hb ⊢
      rcases List.mem_cons.mp hb with rfl | hb
      · exact .inl List.mem_cons_self
      rcases List.mem_cons.mp hb with rfl | hb
      · exact .inl (List.mem_cons_of_mem _ List.mem_cons_self)
      rcases List.mem_cons.mp hb with rfl | hb
      · exact .inl (List.mem_cons_of_mem _ (List.mem_cons_of_mem _ List.mem_cons_self))
      rcases List.mem_cons.mp hb with rfl | hb
      · exact .inl mem_y
      rcases List.mem_append.mp hb with hb | hb
      · exact .inl (mem_dicts hb)
      · obtain ⟨L2, hL, rfl⟩ := List.mem_map.mp hb
        rcases List.mem_append.mp hL with hL | hL
        · exact .inl (mem_lg hL)
        · rw [List.mem_singleton.mp hL]
          exact .inr N.a0
/-- the law's dicts changed -/
theorem YJ.model (l : YJ T H B z) {ms' : List Nm} {F' : MF} {X : List Addr} (f : FrS X H H') (hX : ∀ b ∈ X, b ∈ [B.M.m, B.M.d1, B.M.d2, B.M.d3, B.M.d4, B.M.d5]) (m' : MK H' B.M ms' F') : YJ T H' B { z with ms := ms', F := F' } ∧ Own H H' B z { z with ms := ms', F := F' } X := by
  have dn := l.dn
  unfold dicts at dn
  obtain ⟨k1, dn⟩ := List.nodup_cons.mp dn
  obtain ⟨k2, dn⟩ := List.nodup_cons.mp dn
  obtain ⟨k3, _⟩ := List.nodup_cons.mp dn
  have hd : ∀ b ∈ X, ∃ k, H b = some (.dK k) := fun b hb => l.dk b (List.mem_cons_of_mem _ (List.mem_cons_of_mem _ (List.mem_cons_of_mem _ (hX b hb))))
  have ip : ∀ b C d fs, H b = some (.ins C d fs) → H' b = some (.ins C d fs) := fun b C d fs e => f _ _ (fun q => by obtain ⟨k, e2⟩ := hd b q; rw [e] at e2; cases e2) e
  have t := l.tr
  refine ⟨⟨⟨ip _ _ _ _ t.tr, f _ _ (fun q => k2 (List.mem_cons_of_mem _ (hX _ q))) t.nd, ip _ _ _ _ t.rt, fun L hL => ip _ _ _ _ (t.lg L hL), t.wp, t.wf, t.sz⟩, l.ey, ip _ _ _ _ l.yy, l.yt, f _ _ (fun q => k1 (List.mem_cons_of_mem _ (List.mem_cons_of_mem _ (hX _ q)))) l.kw, ip _ _ _ _ l.lv, f _ _ (fun q => k3 (hX _ q)) l.tb, m', l.dn⟩, ⟨f.t fun b hb ps e => ?_, fun b hb => ?_, fun b hb => .inl hb⟩⟩
  · obtain ⟨k, e2⟩ := hd b hb
    rw [e] at e2; cases e2
  · exact mem_dicts (List.mem_cons_of_mem _ (List.mem_cons_of_mem _ (List.mem_cons_of_mem _ (hX b hb))))
/-- a word of the law's yard put -/
def MF.setLv (F : MF) (n : Nm) (i : Int) : MF := { F with lv := upF F.lv n i }
def MF.setPp (F : MF) (n : Nm) (b : Bool) : MF := { F with pp := upF F.pp n b }
def MF.setOff (F : MF) (n : Nm) (b : Bool) : MF := { F with off := upF F.off n b }
def MF.setBar (F : MF) (i : Int) : MF := { F with bar := i }
theorem YJ.putLv (l : YJ T H B z) {x : Nm} (gm : ∀ y ∈ z.ms, GP y) (gx : GP x) (hx : x = [] ∨ x ∈ z.ms) (i : Int) : YJ T (upd H B.M.d1 (.dK (putK (kvF z.ms fun n => .int (z.F.lv n)) (kk (dot x)) (.int i)))) B { z with F := z.F.setLv x i } ∧ Own H (upd H B.M.d1 (.dK (putK (kvF z.ms fun n => .int (z.F.lv n)) (kk (dot x)) (.int i)))) B z { z with F := z.F.setLv x i } [B.M.d1] := by
  have nd := l.ml.nd
  simp only [List.nodup_cons, List.mem_cons, List.not_mem_nil, or_false, not_or] at nd
  obtain ⟨⟨m1, m2, m3, m4, m5⟩, ⟨a2, a3, a4, a5⟩, ⟨b3, b4, b5⟩, ⟨c4, c5⟩, e5, _⟩ := nd
  refine l.model (FrS.put (FrS.refl _ H) List.mem_cons_self) (by simp) ⟨(upd_ne m1).trans l.ml.m, ?_, (upd_ne (Ne.symm a2)).trans l.ml.p, (upd_ne (Ne.symm a3)).trans l.ml.o, (upd_ne (Ne.symm a4)).trans l.ml.h, (upd_ne (Ne.symm a5)).trans l.ml.s, l.ml.nd⟩
  show upd H B.M.d1 _ B.M.d1 = some (.dK (kvF z.ms fun n => .int (upF z.F.lv x i n)))
  rw [up_int, ← kvF_put gm gx hx]
  exact upd_same
theorem YJ.putOff (l : YJ T H B z) {x : Nm} (gm : ∀ y ∈ z.ms, GP y) (gx : GP x) (hx : x = [] ∨ x ∈ z.ms) (i : Bool) : YJ T (upd H B.M.d3 (.dK (putK (kvF z.ms fun n => .bl (z.F.off n)) (kk (dot x)) (.bl i)))) B { z with F := z.F.setOff x i } ∧ Own H (upd H B.M.d3 (.dK (putK (kvF z.ms fun n => .bl (z.F.off n)) (kk (dot x)) (.bl i)))) B z { z with F := z.F.setOff x i } [B.M.d3] := by
  have nd := l.ml.nd
  simp only [List.nodup_cons, List.mem_cons, List.not_mem_nil, or_false, not_or] at nd
  obtain ⟨⟨m1, m2, m3, m4, m5⟩, ⟨a2, a3, a4, a5⟩, ⟨b3, b4, b5⟩, ⟨c4, c5⟩, e5, _⟩ := nd
  refine l.model (FrS.put (FrS.refl _ H) List.mem_cons_self) (by simp) ⟨(upd_ne m3).trans l.ml.m, (upd_ne a3).trans l.ml.l, (upd_ne b3).trans l.ml.p, ?_, (upd_ne (Ne.symm c4)).trans l.ml.h, (upd_ne (Ne.symm c5)).trans l.ml.s, l.ml.nd⟩
  show upd H B.M.d3 _ B.M.d3 = some (.dK (kvF z.ms fun n => .bl (upF z.F.off x i n)))
  rw [up_bl, ← kvF_put gm gx hx]
  exact upd_same
theorem YJ.putPp (l : YJ T H B z) {x : Nm} (gm : ∀ y ∈ z.ms, GP y) (gx : GP x) (hx : x = [] ∨ x ∈ z.ms) (i : Bool) : YJ T (upd H B.M.d2 (.dK (putK (kvF z.ms fun n => .bl (z.F.pp n)) (kk (dot x)) (.bl i)))) B { z with F := z.F.setPp x i } ∧ Own H (upd H B.M.d2 (.dK (putK (kvF z.ms fun n => .bl (z.F.pp n)) (kk (dot x)) (.bl i)))) B z { z with F := z.F.setPp x i } [B.M.d2] := by
  have nd := l.ml.nd
  simp only [List.nodup_cons, List.mem_cons, List.not_mem_nil, or_false, not_or] at nd
  obtain ⟨⟨m1, m2, m3, m4, m5⟩, ⟨a2, a3, a4, a5⟩, ⟨b3, b4, b5⟩, ⟨c4, c5⟩, e5, _⟩ := nd
  refine l.model (FrS.put (FrS.refl _ H) List.mem_cons_self) (by simp) ⟨(upd_ne m2).trans l.ml.m, (upd_ne a2).trans l.ml.l, ?_, (upd_ne (Ne.symm b3)).trans l.ml.o, (upd_ne (Ne.symm b4)).trans l.ml.h, (upd_ne (Ne.symm b5)).trans l.ml.s, l.ml.nd⟩
  show upd H B.M.d2 _ B.M.d2 = some (.dK (kvF z.ms fun n => .bl (upF z.F.pp x i n)))
  rw [up_bl, ← kvF_put gm gx hx]
  exact upd_same
def kBar : List Nat := [98, 97, 114]
theorem putK_bar (M : MA) (b i : Int) : putK (kModB M b) (kk kBar) (.int i) = kModB M i := rfl
theorem YJ.putBar (l : YJ T H B z) (i : Int) : YJ T (upd H B.M.m (.dK (putK (kModB B.M z.F.bar) (kk kBar) (.int i)))) B { z with F := z.F.setBar i } ∧ Own H (upd H B.M.m (.dK (putK (kModB B.M z.F.bar) (kk kBar) (.int i)))) B z { z with F := z.F.setBar i } [B.M.m] := by
  have nd := l.ml.nd
  simp only [List.nodup_cons, List.mem_cons, List.not_mem_nil, or_false, not_or] at nd
  obtain ⟨⟨m1, m2, m3, m4, m5⟩, _⟩ := nd
  rw [putK_bar]
  exact l.model (FrS.put (FrS.refl _ H) List.mem_cons_self) (by simp) ⟨upd_same, (upd_ne (Ne.symm m1)).trans l.ml.l, (upd_ne (Ne.symm m2)).trans l.ml.p, (upd_ne (Ne.symm m3)).trans l.ml.o, (upd_ne (Ne.symm m4)).trans l.ml.h, (upd_ne (Ne.symm m5)).trans l.ml.s, l.ml.nd⟩
/-- an instance of the yard's changed, by another of its kind -/
theorem YJ.up (l : YJ T H B z) {a : Addr} {o : HO} {A' : TA} {S' : List Lg} (ha : a ∈ ads B z) (i : ∃ C d fs, H a = some (.ins C d fs)) (ny : a ≠ B.y) (nl : a ≠ z.A.lv) (e : TAeq z.A A') (eS : S'.map (·.a) = z.S.map (·.a)) (en : kvN S' = kvN z.S) (t' : TreeAt T (upd H a o) A' S') : YJ T (upd H a o) B { z with A := A', S := S' } ∧ Own H (upd H a o) B z { z with A := A', S := S' } [a] := by
  obtain ⟨C, d, fs, hi⟩ := i
  have dk : ∀ b k, H b = some (.dK k) → upd H a o b = some (.dK k) := fun b k e2 => (upd_ne fun q => by rw [q, hi] at e2; cases e2).trans e2
  have ed : dicts B A' = dicts B z.A := by unfold dicts; rw [e.nd]
  have ek : kvR A'.rt S' = kvR z.A.rt z.S := by unfold kvR; rw [en, e.rt]
  refine ⟨⟨t', e.y.trans l.ey, (upd_ne (Ne.symm ny)).trans l.yy, l.yt.trans e.tr.symm, (dk _ _ l.kw).trans (by rw [ek]), (upd_ne (by rw [e.lv]; exact Ne.symm nl)).trans (by rw [e.lv]; exact l.lv), dk _ _ l.tb, ⟨dk _ _ l.ml.m, dk _ _ l.ml.l, dk _ _ l.ml.p, dk _ _ l.ml.o, dk _ _ l.ml.h, dk _ _ l.ml.s, l.ml.nd⟩, by show (dicts B A').Nodup; rw [ed]; exact l.dn⟩, ⟨⟨fun b o' nb e2 _ => ?_, fun b ps e2 => ?_⟩, fun b hb => ?_, fun b hb => .inl ?_⟩⟩
  · exact (upd_ne fun q => nb (by rw [q]; exact List.mem_cons_self)).trans e2
  · exact ⟨ps, (upd_ne fun q => by rw [q, hi] at e2; cases e2).trans e2, id⟩
  · rw [List.mem_singleton.mp hb]; exact ha
  · have : ads B { z with A := A', S := S' } = ads B z := by
      unfold ads
      show A'.tr :: A'.rt :: A'.lv :: B.y :: (dicts B A' ++ S'.map (·.a)) = _
      rw [ed, eS, e.tr, e.rt, e.lv]
    rwa [this] at hb
theorem YJ.memA (l : YJ T H B z) {x : Nm} (hx : x = [] ∨ x ∈ names z.S) : adr z.A.rt z.S x ∈ ads B z := by
  rcases hx with rfl | hx
  · rw [l.tr.wf.root]; exact mem_rt
  · obtain ⟨L, hL, rfl⟩ := List.mem_map.mp hx
    rw [adr_of (getL_mem l.tr.wf.nn hL)]
    exact mem_lg hL
/-- a node changed -/
theorem YJ.ch (l : YJ T H B z) {n : Nm} (hn : n = [] ∨ n ∈ names z.S) : ∃ d nm h f, H (adr z.A.rt z.S n) = some (.ins T.C_Logger d (fLgG z.A.tr z.A.y nm (lpOf z.A z.S n).lv (lpOf z.A z.S n).pp (lpOf z.A z.S n).ds h f (if n = [] then .non else .ref (parA z.A.rt z.S n)))) ∧
    ∀ q : LP, YJ T (upd H (adr z.A.rt z.S n) (.ins T.C_Logger d (fLgG z.A.tr z.A.y nm q.lv q.pp q.ds h f (if n = [] then .non else .ref (parA z.A.rt z.S n))))) B { z with A := chA z.A n q, S := z.S.map (chL n q) } ∧
      Own H (upd H (adr z.A.rt z.S n) (.ins T.C_Logger d (fLgG z.A.tr z.A.y nm q.lv q.pp q.ds h f (if n = [] then .non else .ref (parA z.A.rt z.S n))))) B z { z with A := chA z.A n q, S := z.S.map (chL n q) } [adr z.A.rt z.S n] := by
  obtain ⟨d, nm, h, f, e, k⟩ := l.tr.ch hn
  refine ⟨d, nm, h, f, e, fun q => l.up (l.memA hn) ⟨_, _, _, e⟩ (fun w => ?_) (fun w => ?_) (chA_ z.A n q) ?_ (kvN_map (chL_nm n q) (chL_a n q)) (k q)⟩
  · have := l.yy
    rw [← w, e] at this
    injection this with this
    injection this with _ _ this
    have := congrArg (fun l => l.head?.map (·.1)) this
    exact absurd (show (some ("tree" : Str)) = some "clock" from this) (by decide)
  · have := l.lv
    rw [← w, e] at this
    injection this with this
    injection this with _ _ this
    have := congrArg (fun l => l.head?.map (·.1)) this
    exact absurd (show (some ("tree" : Str)) = some "names" from this) (by decide)
  · rw [List.map_map]
    exact List.map_congr_left fun L _ => chL_a n q L
/-- the bar set -/
theorem YJ.bar (l : YJ T H B z) (i : Int) : YJ T (upd H z.A.tr (.ins T.C_LoggerTree z.A.dtr (fTrG { z.A with bar := i }))) B { z with A := { z.A with bar := i } } ∧
    Own H (upd H z.A.tr (.ins T.C_LoggerTree z.A.dtr (fTrG { z.A with bar := i }))) B z { z with A := { z.A with bar := i } } [z.A.tr] := by
  refine l.up (A' := { z.A with bar := i }) (S' := z.S) mem_tr ⟨_, _, _, l.tr.tr⟩ (fun w => ?_) (fun w => ?_) ⟨rfl, rfl, rfl, rfl, rfl⟩ rfl rfl (l.tr.setBar i)
  · have := l.yy
    rw [← w, l.tr.tr] at this
    injection this with this
    injection this with _ _ this
    have := congrArg (fun l => l.head?.map (·.1)) this
    exact absurd (show (some ("yard" : Str)) = some "clock" from this) (by decide)
  · have := l.lv
    rw [← w, l.tr.tr] at this
    injection this with this
    injection this with _ _ this
    have := congrArg (fun l => l.head?.map (·.1)) this
    exact absurd (show (some ("yard" : Str)) = some "names" from this) (by decide)
end
/-! ### several yards -/
def upN {α : Type} (f : Nat → α) (k : Nat) (a : α) : Nat → α := fun j => if j = k then a else f j
theorem upN_same {α : Type} {f : Nat → α} {k : Nat} {a : α} : upN f k a k = a := if_pos rfl
theorem upN_ne {α : Type} {f : Nat → α} {k j : Nat} {a : α} (h : j ≠ k) : upN f k a j = f j := if_neg h
structure WJ {K : PySem.W.Frag} {mg : Str → Option Value} (T : Txt K mg) (H : Hp) (p q : Addr) (n : Int) (N : Nat) (B : Nat → YB) (Z : Nat → YS) : Prop where
  st : Stm H p q n
  tP : GxR.TabG H T.PP
  tD : GxR.TabG H T.PD
  yj : ∀ k, k < N → YJ T H (B k) (Z k)
  dj : ∀ j k, j < N → k < N → j ≠ k → ∀ b ∈ ads (B j) (Z j), b ∉ ads (B k) (Z k)
section
variable {K : PySem.W.Frag} {mg : Str → Option Value} {T : Txt K mg} {H H' : Hp} {p q : Addr} {n n' : Int} {N : Nat} {B : Nat → YB} {Z : Nat → YS}
theorem WJ.xt (l : WJ T H p q n N B Z) (S' : Stm H' p q n') (x : Xt H H' p q) : WJ T H' p q n' N B Z := by
  have f := x.frT l.st
  refine ⟨S', f.tab l.tP, f.tab l.tD, fun k hk => (l.yj k hk).frT f fun b hb h => ?_, l.dj⟩
  obtain ⟨xs, e⟩ := l.st.lst b h
  exact (l.yj k hk).nl e hb
theorem WJ.same (l : WJ T H p q n N B Z) (s : Same H H') : WJ T H' p q n N B Z := l.xt (l.st.same s) (Xt.same s)
theorem WJ.smT (l : WJ T H p q n N B Z) (s : SmT H H') : WJ T H' p q n N B Z :=
  ⟨l.st.frT (s.fr (S := [])) List.not_mem_nil List.not_mem_nil, s.tab l.tP, s.tab l.tD, fun k hk => (l.yj k hk).keep fun b o _ e z => s.st b o e z, l.dj⟩
theorem WJ.own (l : WJ T H p q n N B Z) {k : Nat} (hk : k < N) {z' : YS} {X : List Addr} (y : YJ T H' (B k) z') (o : Own H H' (B k) (Z k) z' X) : WJ T H' p q n N B (upN Z k z') := by
  have nl : ∀ b ∈ [p, q], b ∉ X := fun b hb h => by
    obtain ⟨xs, e⟩ := l.st.lst b hb
    exact (l.yj k hk).nl e (o.inn b h)
  refine ⟨l.st.frT o.fr (nl p List.mem_cons_self) (nl q (List.mem_cons_of_mem _ List.mem_cons_self)), o.fr.tab l.tP, o.fr.tab l.tD, fun j hj => ?_, fun i j hi hj ij b hb => ?_⟩
  · by_cases e : j = k
    · subst e
      rw [upN_same]; exact y
    · rw [upN_ne e]
      exact (l.yj j hj).frT o.fr fun b hb h => l.dj j k hj hk e b hb (o.inn b h)
  · by_cases e : i = k
    · subst e
      rw [upN_same] at hb
      rw [upN_ne (Ne.symm ij)]
      rcases o.out b hb with h | h
      · exact l.dj i j hi hj ij b h
      · exact (l.yj j hj).new h
    · rw [upN_ne e] at hb
      by_cases e2 : j = k
      · subst e2
        rw [upN_same]
        intro h
        rcases o.out b h with h | h
        · exact l.dj i j hi hj ij b hb h
        · exact (l.yj i hi).new h hb
      · rw [upN_ne e2]
        exact l.dj i j hi hj ij b hb
end
end My

namespace My
open PySem PySem.Spec PyProof.Rows L2 SuX LTr DN
local macro_rules | `(tactic| walk_at "hp") => `(tactic| first | assumption | exact upd_same | (refine Eq.trans (upd_ne (by first | assumption | (apply Ne.symm; assumption))) ?_; walk_at "hp"))
local macro_rules | `(tactic| walk_at "ixl") => `(tactic| (refine' ⟨_, ?xs, _, ?vv, rfl, rfl, SqL.of ?hh, ?aa, ?qq⟩; (case hh => walk_at "hp"); (case aa => rfl)))
local macro_rules | `(tactic| walk_at "setl") => `(tactic| (refine' ⟨_, ?xs, _, ?jj, rfl, rfl, ?hh, ?aa, ?qq⟩; (case hh => walk_at "hp"); (case aa => rfl)))
local macro_rules | `(tactic| walk_at "cond") => `(tactic| first | exact ⟨_, rfl⟩ | exact Nat.le_of_lt (small1000 (Nat.le_of_ble_eq_true rfl)) | decide | omega | (dsimp only; omega) | exact ⟨by decide, by decide⟩ | exact Or.inr ⟨by decide, by decide⟩ | exact Or.inl ⟨by decide, by decide⟩ | exact ⟨by decide, by decide, by decide⟩ | exact ⟨by omega, by omega⟩ | exact ⟨by omega, by omega, by omega⟩ | (simp only [List.length_cons, List.length_nil, List.length_append, List.length_take, List.length_drop]; omega) | (refine ⟨?_, ?_, ?_⟩ <;> first | decide | omega | (simp only [List.length_cons, List.length_nil, List.length_append, List.length_take, List.length_drop, Option.getD_some, Option.getD_none]; omega)))
local macro_rules | `(tactic| walk_at "st") => `(tactic| repeat (first | refine ⟨_, rfl, ?_⟩ | refine ⟨_, _, rfl, rfl, ?_⟩ | walk_at "ixl" | walk_at "setl" | refine ⟨rfl, ?_⟩ | refine Or.inl ⟨_, rfl, ?_⟩ | refine And.intro (by walk_at "cond") ?_))
local macro_rules | `(tactic| walk_at "cls") => `(tactic| first | exact OC.cl (by assumption) | exact (‹Txt _ _›).o_Clock.cl | exact (‹Txt _ _›).o_LevelTable.cl | exact (‹Txt _ _›).o_Store.cl | exact (‹Txt _ _›).o_Written.cl | exact (‹Txt _ _›).o_Roster.cl | exact (‹Txt _ _›).o_Handler.cl | exact (‹Txt _ _›).o_Logger.cl | exact (‹Txt _ _›).o_LoggerTree.cl | exact (‹Txt _ _›).o_StreamHandler.cl | exact (‹Txt _ _›).o_Yard.cl)
local macro_rules | `(tactic| walk_at "na") => `(tactic| first | (refine na_of (by assumption) ?_; decide) | (refine na_of (‹Txt _ _›).o_Clock ?_; decide) | (refine na_of (‹Txt _ _›).o_LevelTable ?_; decide) | (refine na_of (‹Txt _ _›).o_Store ?_; decide) | (refine na_of (‹Txt _ _›).o_Written ?_; decide) | (refine na_of (‹Txt _ _›).o_Roster ?_; decide) | (refine na_of (‹Txt _ _›).o_Handler ?_; decide) | (refine na_of (‹Txt _ _›).o_Logger ?_; decide) | (refine na_of (‹Txt _ _›).o_LoggerTree ?_; decide) | (refine na_of (‹Txt _ _›).o_StreamHandler ?_; decide) | (refine na_of (‹Txt _ _›).o_Yard ?_; decide))
local macro_rules | `(tactic| walk_at "fld") => `(tactic| (refine' ⟨_, _, _, _, ?vv, rfl, ?hh, ?cc, ?nn, ?ll, ?qq⟩; (case hh => walk_at "hp"); (case cc => walk_at "cls"); (case nn => walk_at "na"); (case ll => exact rfl)))
local macro_rules | `(tactic| walk_at "sto") => `(tactic| (refine' ⟨_, _, _, _, rfl, ?hh, ?cc, ?nn, ?ll, ?qq⟩; (case hh => walk_at "hp"); (case cc => walk_at "cls"); (case nn => walk_at "na"); (case ll => first | exact Nat.le_of_ble_eq_true rfl | assumption)))
local macro_rules | `(tactic| walk_at "mth") => `(tactic| (refine' ⟨_, _, _, rfl, ?hh, ?ll, ?qq⟩; (case hh => walk_at "hp"); (case ll => exact rfl)))
local macro_rules | `(tactic| walk_at "sx") => `(tactic| repeat (first | refine ⟨_, rfl, ?_⟩ | refine ⟨_, _, rfl, rfl, ?_⟩ | walk_at "ixl" | walk_at "setl" | refine ⟨rfl, ?_⟩ | refine Or.inl ⟨_, rfl, ?_⟩ | walk_at "fld" | walk_at "sto" | walk_at "mth" | refine And.intro (by walk_at "cond") ?_))
/-! ### a yard made, and the law's own beside it -/
def taOf (y : Addr) (Y : YA) : TA := ⟨Y.tr, Y.dtr, y, Y.lv, Y.ck, Y.lr, Y.nm, Y.rt, Y.drt, Y.rh, Y.rf, 0, 30, true, false⟩
def YG (y : Addr) (Y : YA) : List Addr := [Y.tr, Y.rt, Y.lv, y, Y.nm, Y.n2]
def MG (M : MA) : List Addr := [M.m, M.d1, M.d2, M.d3, M.d4, M.d5]
def mf0 (l4 l5 : Addr) : MF := ⟨fun _ => 30, fun _ => true, fun _ => false, fun _ => l4, fun _ => l5, 0⟩
def LayT (m d1 d2 d3 d4 d5 l4 l5 lh dt u : Addr) (ou : HO) : List (Addr × HO) := [(dt, .dK []), (lh, .lst []), (u, ou), (l5, .lst []), (d5, .dK [(kE, .ref l5)]), (l4, .lst []), (d4, .dK [(kE, .ref l4)]), (d3, .dK [(kE, .bl false)]), (d2, .dK [(kE, .bl true)]), (d1, .dK [(kE, .int 30)]), (m, .dK (kMod d1 d2 d3 d4 d5 lh dt))]
section
variable {K : PySem.W.Frag} {mg : Str → Option Value} {T : Txt K mg} {H1 H H' : Hp} {y dy : Addr} {v : V} {Y : YA}
theorem tree0 {H0 H : Hp} (tk : TK H0 y (YL T y v Y) H) : TreeAt T H (taOf y Y) [] := by
  have a := fun (i : Nat) (e : Addr × HO) (h : (YL T y v Y)[i]? = some e) => tk.at_ e (List.mem_of_getElem? h)
  exact ⟨a 14 _ rfl, a 15 _ rfl, a 16 _ rfl, fun L hL => absurd hL List.not_mem_nil, fun L hL => absurd hL List.not_mem_nil, ⟨List.nodup_nil, List.nodup_nil, fun L hL => absurd hL List.not_mem_nil, fun L hL => absurd hL List.not_mem_nil⟩, Nat.zero_le _⟩
theorem yg_in {b : Addr} (h : b ∈ YG y Y) : b = y ∨ ∃ e ∈ YL T y v Y, e.1 = b := by
  unfold YG at h
  simp only [List.mem_cons, List.not_mem_nil, or_false] at h
  have a := fun (i : Nat) (e : Addr × HO) (h : (YL T y v Y)[i]? = some e) => (⟨e, List.mem_of_getElem? h, rfl⟩ : ∃ e' ∈ YL T y v Y, e'.1 = e.1)
  rcases h with rfl | rfl | rfl | rfl | rfl | rfl
  · exact .inr (a 14 _ rfl)
  · exact .inr (a 16 _ rfl)
  · exact .inr (a 1 _ rfl)
  · exact .inl rfl
  · exact .inr (a 15 _ rfl)
  · exact .inr (a 3 _ rfl)
theorem yg_new (tk : TK (mkH H1 T.C_Yard y dy) y (YL T y v Y) H) (c1 : H1 y = none) : ∀ b ∈ YG y Y, H1 b = none := fun b hb => by
  rcases yg_in (T := T) (v := v) hb with rfl | ⟨e, he, rfl⟩
  · exact c1
  · exact (mkH_none (tk.new e he)).2.2
theorem yg_at {H0 : Hp} {o : HO} (tk : TK H0 y (YL T y v Y) H) (hy : H y = some o) : ∀ b ∈ YG y Y, H b ≠ none := fun b hb => by
  rcases yg_in (T := T) (v := v) hb with rfl | ⟨e, he, rfl⟩
  · rw [hy]; exact fun z => nomatch z
  · rw [tk.at_ e he]; exact fun z => nomatch z
theorem mg_in {m d1 d2 d3 d4 d5 l4 l5 lh dt u : Addr} {ou : HO} {b : Addr} (h : b ∈ MG ⟨m, d1, d2, d3, d4, d5, lh, dt⟩) : ∃ e ∈ LayT m d1 d2 d3 d4 d5 l4 l5 lh dt u ou, e.1 = b := by
  unfold MG at h
  simp only [List.mem_cons, List.not_mem_nil, or_false] at h
  have a := fun (i : Nat) (e : Addr × HO) (h : (LayT m d1 d2 d3 d4 d5 l4 l5 lh dt u ou)[i]? = some e) => (⟨e, List.mem_of_getElem? h, rfl⟩ : ∃ e' ∈ LayT m d1 d2 d3 d4 d5 l4 l5 lh dt u ou, e'.1 = e.1)
  rcases h with rfl | rfl | rfl | rfl | rfl | rfl
  · exact a 10 _ rfl
  · exact a 9 _ rfl
  · exact a 8 _ rfl
  · exact a 7 _ rfl
  · exact a 6 _ rfl
  · exact a 4 _ rfl
theorem mk0 {m d1 d2 d3 d4 d5 l4 l5 lh dt u : Addr} {ou : HO} (L : Lay H H' (LayT m d1 d2 d3 d4 d5 l4 l5 lh dt u ou)) : MK H' ⟨m, d1, d2, d3, d4, d5, lh, dt⟩ [] (mf0 l4 l5) := by
  have a := fun (i : Nat) (e : Addr × HO) (h : (LayT m d1 d2 d3 d4 d5 l4 l5 lh dt u ou)[i]? = some e) => L.at_ e (List.mem_of_getElem? h)
  refine ⟨a 10 _ rfl, a 9 _ rfl, a 8 _ rfl, a 7 _ rfl, a 6 _ rfl, a 4 _ rfl, ?_⟩
  have L3n := L.nd
  simp only [LayT, List.map_cons, List.map_nil, List.nodup_cons, List.mem_cons, List.not_mem_nil, or_false, not_or] at L3n ⊢
  obtain ⟨_, _, _, _, ⟨_, x1, x2, x3, x4, x5⟩, _, ⟨x6, x7, x8, x9⟩, ⟨x10, x11, x12⟩, ⟨x13, x14⟩, x15, _⟩ := L3n
  exact ⟨⟨Ne.symm x15, Ne.symm x14, Ne.symm x12, Ne.symm x9, Ne.symm x5⟩, ⟨Ne.symm x13, Ne.symm x11, Ne.symm x8, Ne.symm x4⟩, ⟨Ne.symm x10, Ne.symm x7, Ne.symm x3⟩, ⟨Ne.symm x6, Ne.symm x2⟩, Ne.symm x1, not_false, List.nodup_nil⟩
theorem mg_new {m d1 d2 d3 d4 d5 l4 l5 lh dt u : Addr} {ou : HO} (L : Lay H H' (LayT m d1 d2 d3 d4 d5 l4 l5 lh dt u ou)) : ∀ b ∈ MG ⟨m, d1, d2, d3, d4, d5, lh, dt⟩, H b = none := fun b hb => by
  obtain ⟨e, he, rfl⟩ := mg_in (l4 := l4) (l5 := l5) (u := u) (ou := ou) hb
  exact L.new e he
theorem mg_at {m d1 d2 d3 d4 d5 l4 l5 lh dt u : Addr} {ou : HO} (L : Lay H H' (LayT m d1 d2 d3 d4 d5 l4 l5 lh dt u ou)) : ∀ b ∈ MG ⟨m, d1, d2, d3, d4, d5, lh, dt⟩, H' b ≠ none := fun b hb => by
  obtain ⟨e, he, rfl⟩ := mg_in (l4 := l4) (l5 := l5) (u := u) (ou := ou) hb
  rw [L.at_ e he]; exact fun z => nomatch z
def yb0 (y dy kd : Addr) (Y : YA) (M : MA) : YB := ⟨y, dy, kd, Y.dlv, Y.n1, Y.n2, Y, M, firstNumbers⟩
def ys0 (y : Addr) (Y : YA) (F : MF) : YS := ⟨taOf y Y, [], [], F⟩
theorem MK.same {M : MA} {ms : List Nm} {F : MF} (h : MK H M ms F) (s : Same H H') : MK H' M ms F := ⟨s _ _ h.m, s _ _ h.l, s _ _ h.p, s _ _ h.o, s _ _ h.h, s _ _ h.s, h.nd⟩
theorem start {H0 : Hp} {kd : Addr} {M : MA} {F : MF} (tk : TK H0 y (YL T y v Y) H) (hy : H y = some (.ins T.C_Yard dy (fYd Y))) (s : Same H H') (hk : H' kd = some (.dK (kvR Y.rt []))) (mk : MK H' M [] F) (k1 : kd ∉ YG y Y) (k2 : kd ∉ MG M) (k3 : ∀ b ∈ YG y Y, b ∉ MG M) : YJ T H' (yb0 y dy kd Y M) (ys0 y Y F) := by
  have a := fun (i : Nat) (e : Addr × HO) (h : (YL T y v Y)[i]? = some e) => s _ _ (tk.at_ e (List.mem_of_getElem? h))
  refine ⟨(tree0 tk).same (Same.t s), rfl, s _ _ hy, rfl, hk, a 1 _ rfl, a 3 _ rfl, mk, ?_⟩
  show [kd, Y.nm, Y.n2, M.m, M.d1, M.d2, M.d3, M.d4, M.d5].Nodup
  have n12 : Y.nm ≠ Y.n2 := fun z => by
    have h1 := a 15 _ rfl
    have h2 := a 3 _ rfl
    simp only at h1 h2
    rw [z, h2] at h1
    exact absurd (Option.some.inj h1) (fun q => by injection q with q; exact absurd (congrArg List.length q) (by decide))
  refine List.nodup_cons.mpr ⟨fun h => ?_, List.nodup_cons.mpr ⟨fun h => ?_, List.nodup_cons.mpr ⟨fun h => ?_, mk.nd⟩⟩⟩
  · rcases List.mem_cons.mp h with h | h
    · exact k1 (by rw [h]; simp [YG])
    rcases List.mem_cons.mp h with h | h
    · exact k1 (by rw [h]; simp [YG])
    · exact k2 h
  · rcases List.mem_cons.mp h with h | h
    · exact n12 h
    · exact k3 _ (by simp [YG]) h
  · exact k3 _ (by simp [YG]) h
theorem ads0 {kd : Addr} {M : MA} {F : MF} : ∀ b ∈ ads (yb0 y dy kd Y M) (ys0 y Y F), b ∈ YG y Y ∨ b ∈ MG M ∨ b = kd := fun b hb => by
  have : b ∈ [Y.tr, Y.rt, Y.lv, y, kd, Y.nm, Y.n2, M.m, M.d1, M.d2, M.d3, M.d4, M.d5] := by
    have e : ads (yb0 y dy kd Y M) (ys0 y Y F) = [Y.tr, Y.rt, Y.lv, y, kd, Y.nm, Y.n2, M.m, M.d1, M.d2, M.d3, M.d4, M.d5] := rfl
    rwa [e] at hb
  simp only [List.mem_cons, List.not_mem_nil, or_false] at this
  simp only [YG, MG, List.mem_cons, List.not_mem_nil, or_false]
  rcases this with h | h | h | h | h | h | h | h | h | h | h | h | h <;> simp [h]
theorem nn {a b : Addr} {H : Hp} (h1 : H a ≠ none) (h2 : H b = none) : a ≠ b := fun z => h1 (by rw [z]; exact h2)
end
end My

namespace My
open PySem PySem.Spec PyProof.Rows L2 SuX LTr DN
local macro_rules | `(tactic| walk_at "hp") => `(tactic| first | assumption | exact upd_same | (refine Eq.trans (upd_ne (by first | assumption | (apply Ne.symm; assumption))) ?_; walk_at "hp"))
local macro_rules | `(tactic| walk_at "ixl") => `(tactic| (refine' ⟨_, ?xs, _, ?vv, rfl, rfl, SqL.of ?hh, ?aa, ?qq⟩; (case hh => walk_at "hp"); (case aa => rfl)))
local macro_rules | `(tactic| walk_at "setl") => `(tactic| (refine' ⟨_, ?xs, _, ?jj, rfl, rfl, ?hh, ?aa, ?qq⟩; (case hh => walk_at "hp"); (case aa => rfl)))
local macro_rules | `(tactic| walk_at "cond") => `(tactic| first | exact ⟨_, rfl⟩ | exact Nat.le_of_lt (small1000 (Nat.le_of_ble_eq_true rfl)) | decide | omega | (dsimp only; omega) | exact ⟨by decide, by decide⟩ | exact Or.inr ⟨by decide, by decide⟩ | exact Or.inl ⟨by decide, by decide⟩ | exact ⟨by decide, by decide, by decide⟩ | exact ⟨by omega, by omega⟩ | exact ⟨by omega, by omega, by omega⟩ | (simp only [List.length_cons, List.length_nil, List.length_append, List.length_take, List.length_drop]; omega) | (refine ⟨?_, ?_, ?_⟩ <;> first | decide | omega | (simp only [List.length_cons, List.length_nil, List.length_append, List.length_take, List.length_drop, Option.getD_some, Option.getD_none]; omega)))
local macro_rules | `(tactic| walk_at "st") => `(tactic| repeat (first | refine ⟨_, rfl, ?_⟩ | refine ⟨_, _, rfl, rfl, ?_⟩ | walk_at "ixl" | walk_at "setl" | refine ⟨rfl, ?_⟩ | refine Or.inl ⟨_, rfl, ?_⟩ | refine And.intro (by walk_at "cond") ?_))
local macro_rules | `(tactic| walk_at "cls") => `(tactic| first | exact OC.cl (by assumption) | exact (‹Txt _ _›).o_Clock.cl | exact (‹Txt _ _›).o_LevelTable.cl | exact (‹Txt _ _›).o_Store.cl | exact (‹Txt _ _›).o_Written.cl | exact (‹Txt _ _›).o_Roster.cl | exact (‹Txt _ _›).o_Handler.cl | exact (‹Txt _ _›).o_Logger.cl | exact (‹Txt _ _›).o_LoggerTree.cl | exact (‹Txt _ _›).o_StreamHandler.cl | exact (‹Txt _ _›).o_Yard.cl)
local macro_rules | `(tactic| walk_at "na") => `(tactic| first | (refine na_of (by assumption) ?_; decide) | (refine na_of (‹Txt _ _›).o_Clock ?_; decide) | (refine na_of (‹Txt _ _›).o_LevelTable ?_; decide) | (refine na_of (‹Txt _ _›).o_Store ?_; decide) | (refine na_of (‹Txt _ _›).o_Written ?_; decide) | (refine na_of (‹Txt _ _›).o_Roster ?_; decide) | (refine na_of (‹Txt _ _›).o_Handler ?_; decide) | (refine na_of (‹Txt _ _›).o_Logger ?_; decide) | (refine na_of (‹Txt _ _›).o_LoggerTree ?_; decide) | (refine na_of (‹Txt _ _›).o_StreamHandler ?_; decide) | (refine na_of (‹Txt _ _›).o_Yard ?_; decide))
local macro_rules | `(tactic| walk_at "fld") => `(tactic| (refine' ⟨_, _, _, _, ?vv, rfl, ?hh, ?cc, ?nn, ?ll, ?qq⟩; (case hh => walk_at "hp"); (case cc => walk_at "cls"); (case nn => walk_at "na"); (case ll => exact rfl)))
local macro_rules | `(tactic| walk_at "sto") => `(tactic| (refine' ⟨_, _, _, _, rfl, ?hh, ?cc, ?nn, ?ll, ?qq⟩; (case hh => walk_at "hp"); (case cc => walk_at "cls"); (case nn => walk_at "na"); (case ll => first | exact Nat.le_of_ble_eq_true rfl | assumption)))
local macro_rules | `(tactic| walk_at "mth") => `(tactic| (refine' ⟨_, _, _, rfl, ?hh, ?ll, ?qq⟩; (case hh => walk_at "hp"); (case ll => exact rfl)))
local macro_rules | `(tactic| walk_at "sx") => `(tactic| repeat (first | refine ⟨_, rfl, ?_⟩ | refine ⟨_, _, rfl, rfl, ?_⟩ | walk_at "ixl" | walk_at "setl" | refine ⟨rfl, ?_⟩ | refine Or.inl ⟨_, rfl, ?_⟩ | walk_at "fld" | walk_at "sto" | walk_at "mth" | refine And.intro (by walk_at "cond") ?_))
section
variable {P : Program} {w : World} {K : PySem.W.Frag} {mg : Str → Option Value} {base : Heap}
theorem FnOk.or {CX : CXT} {k : Nat} {f : Addr} {fd : FuncData} {ps : List Str} {sp sp' : Sp} (a : FnOk P w K mg base CX k f fd ps sp) (b : FnOk P w K mg base CX k f fd ps sp') : FnOk P w K mg base CX k f fd ps (fun vs H Q E => sp vs H Q E ∨ sp' vs H Q E) :=
  ⟨fun vs H Q E h => h.elim (a.len vs H Q E) (b.len vs H Q E), fun A outer s H args us vs Q E hr e0 hb r h => h.elim (a.run A outer s H args us vs Q E hr e0 hb r) (b.run A outer s H args us vs Q E hr e0 hb r)⟩
def spLname0 : Sp := fun vs H Q _ => Hd (vs = [.str (SX.S [])] ∧ Q (.bl true) H)
theorem ok_lname0 (T : Txt K mg) : FnOk P w K mg base CX0 6 T.f_is_logger_name T.fd_is_logger_name ["thing"] spLname0 := by
  have G_is_dotted : FnOk P w K mg base CX0 5 T.f_is_dotted T.fd_is_dotted ["thing"] (fun _ _ _ _ => Hd False) := ⟨fun _ _ _ _ h => h.out.elim, fun _ _ _ _ _ _ _ _ _ _ _ _ _ h => h.out.elim⟩
  refine T.D_is_logger_name.F.ok sc_is_logger_name (fun vs H Q E h => ?_) (fun cdv A outer s H vs Q E hr h => ?_)
  · obtain ⟨rfl, _⟩ := h.out
    rfl
  · obtain ⟨rfl, k⟩ := h.out
    refine ⟨_, (pss_one (ps_ret (pe_or (pe_cmpR SL.op_eqL (pv 0) (SL.pe_strL [] (by decide +kernel)) (nomark _)) (pe_one (pe_call G_is_dotted (hr.mono (by first | decide | omega)) rfl T.D_is_dotted.g T.D_is_dotted.F.kp T.D_is_dotted.b .nil pass0 (pa_cons (pv 0) pa_nil)))))), ?_⟩
    walk_at "st"
    refine if_true_of (decide_eq_true rfl) ?_
    exact k
def spGet0 (T : Txt K mg) : Sp := fun vs H Q _ => Hd (∃ (A : TA) (l : List Nat), vs = [.ref A.tr, .str (SX.S l)] ∧ (l = [] ∨ l = sRoot) ∧ H A.tr = some (.ins T.C_LoggerTree A.dtr (fTrG A)) ∧ GxR.TabG H T.PP ∧ GxR.TabG H T.PD ∧ ∀ H', SmT H H' → Q (.ref A.rt) H')
theorem ok_get0 (T : Txt K mg) (TP : GxR.TabB base mg T.cP T.PP) (TD : GxR.TabB base mg T.cD T.PD) : FnOk P w K mg base (L2.CX P w) 7 T.a_LoggerTree_getLogger T.fd_LoggerTree_getLogger ["self", "name"] (spGet0 T) := by
  have G_LoggerTree_grow : FnOk P w K mg base CX0 3 _ _ _ (spGrowT T) := ok_grow T
  have G_is_logger_name : FnOk P w K mg base CX0 6 _ _ _ (fun vs H Q E => spDotted T.PP T.PD vs H Q E ∨ spLname0 vs H Q E) := FnOk.or (ok_lname T TP TD) (ok_lname0 T)
  refine T.F_LoggerTree_getLogger.ok sc_LoggerTree_getLogger (fun vs H Q E h => ?_) (fun cdv A outer s H vs Q E hr h => ?_)
  · obtain ⟨A, l, rfl, _⟩ := h.out
    rfl
  · obtain ⟨A, l, rfl, hl, htr, tP, tD, kQ⟩ := h.out
    have hu := hu_of hr
    have hu64 := hr.units
    refine ⟨_, (pss_cons (ps_if (pt_not (pt_val (pe_call G_is_logger_name (hr.mono (by first | decide | omega)) rfl T.D_is_logger_name.g T.D_is_logger_name.F.kp T.D_is_logger_name.b .nil pass0 (pa_cons (pv 1) pa_nil))))
    (pss_one (ps_raise rfl (takes_of rfl rfl rfl rfl) (pmk_err T.E_BadName hr (pa_cons (pv 1) pa_nil) rfl)))
    pss_nil)
  (pss_cons (ps_if (pt_cmpR op_in_seq (pv 1) (C8.pe_gc rfl T.k_ROOT_NAMES) rfl)
    (pss_one (ps_ret (pe_fld (pv 0) rfl)))
    pss_nil)
  (pss_cons (ps_if (pt_cmp (pc_dnotin hu (pv 1) (pe_fld (pv 0) rfl)))
    (pss_one (ps_expr (pe_meth (pv 0) T.o_LoggerTree.cl T.Me_LoggerTree_grow G_LoggerTree_grow (hr.mono (by first | decide | omega)) T.b_LoggerTree_grow .nil pass0 (pa_cons (pv 1) pa_nil))))
    pss_nil)
  (pss_one (ps_ret (pe_dget hu (pe_fld (pv 0) rfl) (pv 1) (fun _ _ => rfl))))))), ?_⟩
    walk_at "sx"
    rcases hl with rfl | rfl
    · refine .inr (.a ⟨rfl, ?_⟩)
      refine ⟨true, rfl, if_false_of rfl ?_⟩
      walk_at "sx"
      refine ⟨T.aRN, _, rfl, .inr (T.t_ROOT_NAMES _), rfl, rfl, ?_⟩
      refine ⟨_, rfl, if_true_of rfl ?_⟩
      walk_at "sx"
      exact kQ H (SmT.refl H)
    · refine .inl (.a ⟨[sRoot], by rw [dot_one]; rfl, ⟨by decide, by decide, by decide⟩, tP, tD, fun H1 s1 => ?_⟩)
      refine ⟨true, rfl, if_false_of rfl ?_⟩
      have htr1 := s1.st _ _ htr rfl
      walk_at "sx"
      refine ⟨T.aRN, _, rfl, .inr (T.t_ROOT_NAMES _), rfl, rfl, ?_⟩
      refine ⟨_, rfl, if_true_of rfl ?_⟩
      walk_at "sx"
      exact kQ H1 s1
def spGetY0 (T : Txt K mg) : Sp := fun vs H Q _ => Hd (∃ (A : TA) (l : List Nat) (dy : Addr) (fy : List (Str × V)), vs = [.ref A.y, .str (SX.S l)] ∧ (l = [] ∨ l = sRoot) ∧ H A.y = some (.ins T.C_Yard dy fy) ∧ fy.lookup ("tree" : Str) = some (.ref A.tr) ∧ H A.tr = some (.ins T.C_LoggerTree A.dtr (fTrG A)) ∧ GxR.TabG H T.PP ∧ GxR.TabG H T.PD ∧ ∀ H', SmT H H' → Q (.ref A.rt) H')
theorem ok_getY0 (T : Txt K mg) (TP : GxR.TabB base mg T.cP T.PP) (TD : GxR.TabB base mg T.cD T.PD) : FnOk P w K mg base (L2.CX P w) 8 T.a_Yard_getLogger T.fd_Yard_getLogger ["self", "name"] (spGetY0 T) := by
  have G_LoggerTree_getLogger : FnOk P w K mg base (L2.CX P w) 7 _ _ _ (spGet0 T) := ok_get0 T TP TD
  refine T.F_Yard_getLogger.ok sc_Yard_getLogger (fun vs H Q E h => ?_) (fun cdv A outer s H vs Q E hr h => ?_)
  · obtain ⟨A, l, dy, fy, rfl, _⟩ := h.out
    rfl
  · obtain ⟨A, l, dy, fy, rfl, hl, hy, lt, htr, tP, tD, kQ⟩ := h.out
    have hu := hu_of hr
    have hu64 := hr.units
    refine ⟨_, (pss_one (ps_ret (pe_meth (pe_fld (pv 0) rfl) T.o_LoggerTree.cl T.Me_LoggerTree_getLogger G_LoggerTree_getLogger (hr.mono (by first | decide | omega)) T.b_LoggerTree_getLogger .nil (passes_call (takes_of rfl rfl rfl rfl) (fun _ _ _ _ h => h)) (pa_cons (pv 1) pa_nil)))), ?_⟩
    walk_at "sx"
    refine ⟨A.y, T.C_Yard, dy, fy, _, rfl, hy, T.o_Yard.cl, T.o_Yard.na _ (by decide), lt, ?_⟩
    walk_at "sx"
    exact .a ⟨A, l, rfl, hl, htr, tP, tD, kQ⟩
end
end My

namespace My
open PySem PySem.Spec PyProof.Rows L2 SuX LTr DN
local macro_rules | `(tactic| walk_at "hp") => `(tactic| first | assumption | exact upd_same | (refine Eq.trans (upd_ne (by first | assumption | (apply Ne.symm; assumption))) ?_; walk_at "hp"))
local macro_rules | `(tactic| walk_at "ixl") => `(tactic| (refine' ⟨_, ?xs, _, ?vv, rfl, rfl, SqL.of ?hh, ?aa, ?qq⟩; (case hh => walk_at "hp"); (case aa => rfl)))
local macro_rules | `(tactic| walk_at "setl") => `(tactic| (refine' ⟨_, ?xs, _, ?jj, rfl, rfl, ?hh, ?aa, ?qq⟩; (case hh => walk_at "hp"); (case aa => rfl)))
local macro_rules | `(tactic| walk_at "cond") => `(tactic| first | exact ⟨_, rfl⟩ | exact Nat.le_of_lt (small1000 (Nat.le_of_ble_eq_true rfl)) | decide | omega | (dsimp only; omega) | exact ⟨by decide, by decide⟩ | exact Or.inr ⟨by decide, by decide⟩ | exact Or.inl ⟨by decide, by decide⟩ | exact ⟨by decide, by decide, by decide⟩ | exact ⟨by omega, by omega⟩ | exact ⟨by omega, by omega, by omega⟩ | (simp only [List.length_cons, List.length_nil, List.length_append, List.length_take, List.length_drop]; omega) | (refine ⟨?_, ?_, ?_⟩ <;> first | decide | omega | (simp only [List.length_cons, List.length_nil, List.length_append, List.length_take, List.length_drop, Option.getD_some, Option.getD_none]; omega)))
local macro_rules | `(tactic| walk_at "st") => `(tactic| repeat (first | refine ⟨_, rfl, ?_⟩ | refine ⟨_, _, rfl, rfl, ?_⟩ | walk_at "ixl" | walk_at "setl" | refine ⟨rfl, ?_⟩ | refine Or.inl ⟨_, rfl, ?_⟩ | refine And.intro (by walk_at "cond") ?_))
local macro_rules | `(tactic| walk_at "cls") => `(tactic| first | exact OC.cl (by assumption) | exact (‹Txt _ _›).o_Clock.cl | exact (‹Txt _ _›).o_LevelTable.cl | exact (‹Txt _ _›).o_Store.cl | exact (‹Txt _ _›).o_Written.cl | exact (‹Txt _ _›).o_Roster.cl | exact (‹Txt _ _›).o_Handler.cl | exact (‹Txt _ _›).o_Logger.cl | exact (‹Txt _ _›).o_LoggerTree.cl | exact (‹Txt _ _›).o_StreamHandler.cl | exact (‹Txt _ _›).o_Yard.cl)
local macro_rules | `(tactic| walk_at "na") => `(tactic| first | (refine na_of (by assumption) ?_; decide) | (refine na_of (‹Txt _ _›).o_Clock ?_; decide) | (refine na_of (‹Txt _ _›).o_LevelTable ?_; decide) | (refine na_of (‹Txt _ _›).o_Store ?_; decide) | (refine na_of (‹Txt _ _›).o_Written ?_; decide) | (refine na_of (‹Txt _ _›).o_Roster ?_; decide) | (refine na_of (‹Txt _ _›).o_Handler ?_; decide) | (refine na_of (‹Txt _ _›).o_Logger ?_; decide) | (refine na_of (‹Txt _ _›).o_LoggerTree ?_; decide) | (refine na_of (‹Txt _ _›).o_StreamHandler ?_; decide) | (refine na_of (‹Txt _ _›).o_Yard ?_; decide))
local macro_rules | `(tactic| walk_at "fld") => `(tactic| (refine' ⟨_, _, _, _, ?vv, rfl, ?hh, ?cc, ?nn, ?ll, ?qq⟩; (case hh => walk_at "hp"); (case cc => walk_at "cls"); (case nn => walk_at "na"); (case ll => exact rfl)))
local macro_rules | `(tactic| walk_at "sto") => `(tactic| (refine' ⟨_, _, _, _, rfl, ?hh, ?cc, ?nn, ?ll, ?qq⟩; (case hh => walk_at "hp"); (case cc => walk_at "cls"); (case nn => walk_at "na"); (case ll => first | exact Nat.le_of_ble_eq_true rfl | assumption)))
local macro_rules | `(tactic| walk_at "mth") => `(tactic| (refine' ⟨_, _, _, rfl, ?hh, ?ll, ?qq⟩; (case hh => walk_at "hp"); (case ll => exact rfl)))
local macro_rules | `(tactic| walk_at "sx") => `(tactic| repeat (first | refine ⟨_, rfl, ?_⟩ | refine ⟨_, _, rfl, rfl, ?_⟩ | walk_at "ixl" | walk_at "setl" | refine ⟨rfl, ?_⟩ | refine Or.inl ⟨_, rfl, ?_⟩ | walk_at "fld" | walk_at "sto" | walk_at "mth" | refine And.intro (by walk_at "cond") ?_))
/-! ### getLogger and the law's made, any name -/
def GotC {K : PySem.W.Frag} {mg : Str → Option Value} (T : Txt K mg) (H H' : Hp) (A : TA) (S S' : List Lg) (nm : Nm) : Prop :=
  TreeAt T H' A S' ∧ (S' = S ∧ SmT H H' ∨ nm ≠ [] ∧ nm ∉ names S ∧ FrT (A.nd :: S.map (·.a)) H H' ∧ ∃ L, S' = S ++ [L] ∧ NewL H H' nm L) ∧ (nm = [] ∨ nm ∈ names S')
def MadeC (H H' : Hp) (M : MA) (ms ms' : List Nm) (F F' : MF) (n : Nm) : Prop :=
  (n = [] ∨ n ∈ ms) ∧ ms' = ms ∧ F' = F ∧ H' = H ∨ n ≠ [] ∧ n ∉ ms ∧ ms' = ms ++ [n] ∧ MK H' M ms' F' ∧ FrS [M.d1, M.d2, M.d3, M.d4, M.d5] H H' ∧ ∃ h s, F' = F.new n h s ∧ H h = none ∧ H s = none ∧ H' h = some (.lst []) ∧ H' s = some (.lst []) ∧ h ≠ s
section
variable {P : Program} {w : World} {K : PySem.W.Frag} {mg : Str → Option Value} {base : Heap}
def spGetU (T : Txt K mg) : Sp := fun vs H Q _ => Hd (∃ (B : YB) (z : YS) (nm : Nm), vs = [.ref B.y, .str (SX.S (dot nm))] ∧ YJ T H B z ∧ z.S.length < 60 ∧ (nm = [] ∨ WP nm ∧ dot nm ≠ sRoot) ∧ GxR.TabG H T.PP ∧ GxR.TabG H T.PD ∧
  ∀ H' S', GotC T H H' z.A z.S S' nm → Q (.ref (adr z.A.rt S' nm)) H')
theorem ok_getU (T : Txt K mg) (TP : GxR.TabB base mg T.cP T.PP) (TD : GxR.TabB base mg T.cD T.PD) : FnOk P w K mg base (L2.CX P w) 8 T.a_Yard_getLogger T.fd_Yard_getLogger ["self", "name"] (spGetU T) := by
  refine (FnOk.or (ok_getY T TP TD) (ok_getY0 T TP TD)).imp fun vs H Q E h => ?_
  obtain ⟨B, z, nm, rfl, Y, lt, hn, tP, tD, k⟩ := h.out
  have hy := Y.yy
  rw [← Y.ey] at hy
  have el : (fYd B.Y).lookup ("tree" : Str) = some (.ref z.A.tr) := by rw [← Y.yt]; rfl
  rcases hn with rfl | ⟨wp, nr⟩
  · refine .inr (.a ⟨z.A, [], B.dy, fYd B.Y, by rw [Y.ey]; rfl, .inl rfl, hy, el, Y.tr.tr, tP, tD, fun H' s => ?_⟩)
    have := k H' z.S ⟨Y.tr.same s, .inl ⟨rfl, s⟩, .inl rfl⟩
    rw [Y.tr.wf.root] at this
    exact this
  · exact .inl (.a ⟨z.A, z.S, nm, B.dy, fYd B.Y, by rw [Y.ey], hy, el, Y.tr, lt, wp, nr, tP, tD, fun H' S' t' c hm => k H' S' ⟨t', c.imp id (fun ⟨a, b⟩ => ⟨wp.ne, a, b⟩), .inr hm⟩⟩)
def spMadeU : Sp := fun vs H Q _ => Hd (∃ (M : MA) (ms : List Nm) (F : MF) (n : Nm), vs = [.ref M.m, .str (SX.S (dot n))] ∧ MK H M ms F ∧ (∀ x ∈ ms, WP x) ∧ (n = [] ∨ WP n) ∧ ms.length ≤ 100 ∧
  ∀ H' ms' F', MadeC H H' M ms ms' F F' n → Q .non H')
theorem ok_madeU (T : Txt K mg) : FnOk P w K mg base CX0 1 T.f__law_made T.fd__law_made ["_law_m", "_law_name"] spMadeU := by
  refine (ok_madeK T).imp fun vs H Q E h => ?_
  obtain ⟨M, ms, F, n, rfl, L, wm, wn, zm, k⟩ := h.out
  exact .a ⟨M, ms, F, n, rfl, L, wm, wn, zm, fun hn => k H ms F (.inl ⟨hn, rfl, rfl, rfl⟩), fun n0 hn H' h s m f e1 e2 e3 e4 e5 => k H' _ _ (.inr ⟨n0, hn, rfl, m, f, h, s, rfl, e1, e2, e3, e4, e5⟩)⟩
end
section
variable {K : PySem.W.Frag} {mg : Str → Option Value} {T : Txt K mg} {H H' : Hp} {B : YB} {z : YS}
theorem YJ.gotU (l : YJ T H B z) {S' : List Lg} {nm : Nm} (c : GotC T H H' z.A z.S S' nm) (gp : GP nm) :
    H' B.kd = some (.dK (kvR z.A.rt z.S)) ∧ YJ T (upd H' B.kd (.dK (putK (kvR z.A.rt z.S) (Sum.inr (SX.S (dot nm))) (.ref (adr z.A.rt S' nm))))) B { z with S := S' } ∧
    Own H (upd H' B.kd (.dK (putK (kvR z.A.rt z.S) (Sum.inr (SX.S (dot nm))) (.ref (adr z.A.rt S' nm))))) B z { z with S := S' } (B.kd :: z.A.nd :: z.S.map (·.a)) := by
  obtain ⟨t', c, hm⟩ := c
  by_cases n0 : nm = []
  · subst n0
    rcases c with ⟨rfl, s⟩ | ⟨h, _⟩
    · have l' : YJ T H' B z := l.keep fun b o _ e q => s.st b o e q
      have e : putK (kvR z.A.rt z.S) (Sum.inr (SX.S (dot []))) (.ref (adr z.A.rt z.S [])) = kvR z.A.rt z.S := by
        refine putK_same (kvR_get l.tr.wf l.tr.gp (.inl rfl)) fun kv hkv e => ?_
        rw [kvR_eq l.tr.wf] at hkv
        obtain ⟨m, hm2, rfl⟩ := List.mem_map.mp hkv
        rw [dot_inj (l.gpn (List.mem_cons.mp hm2)) GP0 (SX.S_inj (Sum.inr.inj e))]
      rw [e]
      have u : ∀ b o, H' b = some o → upd H' B.kd (.dK (kvR z.A.rt z.S)) b = some o := fun b o h => by
        by_cases q : b = B.kd
        · rw [q, upd_same, ← l'.kw, ← h, q]
        · rw [upd_ne q]; exact h
      refine ⟨l'.kw, l'.keep fun b o _ h _ => u b o h, ⟨⟨fun b o _ h q => u b o (s.st b o h q), fun b ps h => ?_⟩, fun b hb => ?_, fun b hb => .inl hb⟩⟩
      · obtain ⟨ps', h', q⟩ := s.tb b ps h
        exact ⟨ps', u b _ h', q⟩
      · rcases List.mem_cons.mp hb with rfl | hb
        · exact mem_dicts (by simp [dicts])
        rcases List.mem_cons.mp hb with rfl | hb
        · exact mem_dicts (by simp [dicts])
        · obtain ⟨L, hL, rfl⟩ := List.mem_map.mp hb
          exact mem_lg hL
    · exact absurd rfl h
  · exact l.got t' (c.imp id fun ⟨_, a, b⟩ => ⟨a, b⟩) gp n0 (hm.resolve_left n0)
/-- got and made: the law's yard tells the same again -/
structure YM (z : YS) : Prop where
  ms : z.ms = names z.S
  fl : ∀ x, x = [] ∨ x ∈ names z.S → lpOf z.A z.S x = ⟨z.F.lv x, z.F.pp x, z.F.off x⟩
  fb : z.F.bar = z.A.bar
theorem YM.made {H1 H2 : Hp} (m : YM z) {S' : List Lg} {nm : Nm} {ms' : List Nm} {F' : MF} (c : GotC T H H' z.A z.S S' nm) (d : MadeC H1 H2 B.M z.ms ms' z.F F' nm) : YM { z with S := S', ms := ms', F := F' } := by
  obtain ⟨t', c, hm⟩ := c
  rcases c with ⟨rfl, _⟩ | ⟨n0, hn, _, L, rfl, N⟩
  · rcases d with ⟨_, rfl, rfl, _⟩ | ⟨h0, h1, _⟩
    · exact m
    · rw [m.ms] at h1
      exact absurd (hm.resolve_left h0) h1
  · rcases d with ⟨h, _⟩ | ⟨_, _, rfl, _, _, a4, a5, rfl, _⟩
    · rw [m.ms] at h
      exact (h.elim n0 hn).elim
    · refine ⟨?_, fun x hx => ?_, m.fb⟩
      · show z.ms ++ [nm] = names (z.S ++ [L])
        rw [names_app, m.ms, N.nm]
      · show lpOf z.A (z.S ++ [L]) x = ⟨upF z.F.lv nm 0 x, upF z.F.pp nm true x, upF z.F.off nm false x⟩
        rw [lpOf_app (by rw [N.nm]; exact hn), N.nm, N.lv, N.pp, N.ds]
        unfold upF
        by_cases e : x = nm
        · rw [if_pos e, if_pos e, if_pos e, if_pos e]
        · rw [if_neg e, if_neg e, if_neg e, if_neg e]
          refine m.fl x (hx.imp id fun h => ?_)
          rw [show names ({ z with S := z.S ++ [L], ms := z.ms ++ [nm], F := z.F.new nm a4 a5 } : YS).S = names z.S ++ [L.nm] from names_app _ _] at h
          rcases List.mem_append.mp h with h | h
          · exact h
          · rw [List.mem_singleton, N.nm] at h; exact absurd h e
theorem YJ.madeU (l : YJ T H B z) {ms' : List Nm} {F' : MF} {n : Nm} (d : MadeC H H' B.M z.ms ms' z.F F' n) : YJ T H' B { z with ms := ms', F := F' } ∧ Own H H' B z { z with ms := ms', F := F' } [B.M.d1, B.M.d2, B.M.d3, B.M.d4, B.M.d5] := by
  rcases d with ⟨_, rfl, rfl, rfl⟩ | ⟨_, _, _, m, f, _⟩
  · exact ⟨l, ⟨⟨fun b o _ e _ => e, fun b ps e => ⟨ps, e, id⟩⟩, fun b hb => mem_dicts (List.mem_cons_of_mem _ (List.mem_cons_of_mem _ (List.mem_cons_of_mem _ (List.mem_cons_of_mem _ hb)))), fun b hb => .inl hb⟩⟩
  · exact l.model f (fun b hb => List.mem_cons_of_mem _ hb) m
/-- a node's words changed on both sides -/
theorem YM.ch (l : YJ T H B z) (m : YM z) {n : Nm} (hn : n = [] ∨ n ∈ names z.S) (q : LP) {F' : MF} (e1 : F'.lv = upF z.F.lv n q.lv) (e2 : F'.pp = upF z.F.pp n q.pp) (e3 : F'.off = upF z.F.off n q.ds) (e4 : F'.bar = z.F.bar) : YM { z with A := chA z.A n q, S := z.S.map (chL n q), F := F' } := by
  have en : names (z.S.map (chL n q)) = names z.S := names_map (chL_nm n q)
  refine ⟨m.ms.trans en.symm, fun x hx => ?_, e4.trans (m.fb.trans (chA_bar _ _ _).symm)⟩
  have hx' : x = [] ∨ x ∈ names z.S := by rw [← en]; exact hx
  show lpOf (chA z.A n q) (z.S.map (chL n q)) x = ⟨F'.lv x, F'.pp x, F'.off x⟩
  rw [lpOf_ch l.tr.wf q hx', e1, e2, e3]
  unfold upF
  by_cases e : x = n
  · rw [if_pos e, if_pos e, if_pos e, if_pos e]
  · rw [if_neg e, if_neg e, if_neg e, if_neg e]
    exact m.fl x hx'
theorem lst_own {H H' : Hp} {z' : YS} {X : List Addr} {b : Addr} {xs : List V} (l : YJ T H B z) (o : Own H H' B z z' X) (h : H b = some (.lst xs)) : H' b = some (.lst xs) := o.fr.st _ _ (fun hb => l.nl h (o.inn b hb)) h rfl
end
end My

namespace My
open PySem PySem.Spec PyProof.Rows L2 SuX LTr DN
local macro_rules | `(tactic| walk_at "hp") => `(tactic| first | assumption | exact upd_same | (refine Eq.trans (upd_ne (by first | assumption | (apply Ne.symm; assumption))) ?_; walk_at "hp"))
local macro_rules | `(tactic| walk_at "ixl") => `(tactic| (refine' ⟨_, ?xs, _, ?vv, rfl, rfl, SqL.of ?hh, ?aa, ?qq⟩; (case hh => walk_at "hp"); (case aa => rfl)))
local macro_rules | `(tactic| walk_at "setl") => `(tactic| (refine' ⟨_, ?xs, _, ?jj, rfl, rfl, ?hh, ?aa, ?qq⟩; (case hh => walk_at "hp"); (case aa => rfl)))
local macro_rules | `(tactic| walk_at "cond") => `(tactic| first | exact ⟨_, rfl⟩ | exact Nat.le_of_lt (small1000 (Nat.le_of_ble_eq_true rfl)) | decide | omega | (dsimp only; omega) | exact ⟨by decide, by decide⟩ | exact Or.inr ⟨by decide, by decide⟩ | exact Or.inl ⟨by decide, by decide⟩ | exact ⟨by decide, by decide, by decide⟩ | exact ⟨by omega, by omega⟩ | exact ⟨by omega, by omega, by omega⟩ | (simp only [List.length_cons, List.length_nil, List.length_append, List.length_take, List.length_drop]; omega) | (refine ⟨?_, ?_, ?_⟩ <;> first | decide | omega | (simp only [List.length_cons, List.length_nil, List.length_append, List.length_take, List.length_drop, Option.getD_some, Option.getD_none]; omega)))
local macro_rules | `(tactic| walk_at "st") => `(tactic| repeat (first | refine ⟨_, rfl, ?_⟩ | refine ⟨_, _, rfl, rfl, ?_⟩ | walk_at "ixl" | walk_at "setl" | refine ⟨rfl, ?_⟩ | refine Or.inl ⟨_, rfl, ?_⟩ | refine And.intro (by walk_at "cond") ?_))
local macro_rules | `(tactic| walk_at "cls") => `(tactic| first | exact OC.cl (by assumption) | exact (‹Txt _ _›).o_Clock.cl | exact (‹Txt _ _›).o_LevelTable.cl | exact (‹Txt _ _›).o_Store.cl | exact (‹Txt _ _›).o_Written.cl | exact (‹Txt _ _›).o_Roster.cl | exact (‹Txt _ _›).o_Handler.cl | exact (‹Txt _ _›).o_Logger.cl | exact (‹Txt _ _›).o_LoggerTree.cl | exact (‹Txt _ _›).o_StreamHandler.cl | exact (‹Txt _ _›).o_Yard.cl)
local macro_rules | `(tactic| walk_at "na") => `(tactic| first | (refine na_of (by assumption) ?_; decide) | (refine na_of (‹Txt _ _›).o_Clock ?_; decide) | (refine na_of (‹Txt _ _›).o_LevelTable ?_; decide) | (refine na_of (‹Txt _ _›).o_Store ?_; decide) | (refine na_of (‹Txt _ _›).o_Written ?_; decide) | (refine na_of (‹Txt _ _›).o_Roster ?_; decide) | (refine na_of (‹Txt _ _›).o_Handler ?_; decide) | (refine na_of (‹Txt _ _›).o_Logger ?_; decide) | (refine na_of (‹Txt _ _›).o_LoggerTree ?_; decide) | (refine na_of (‹Txt _ _›).o_StreamHandler ?_; decide) | (refine na_of (‹Txt _ _›).o_Yard ?_; decide))
local macro_rules | `(tactic| walk_at "fld") => `(tactic| (refine' ⟨_, _, _, _, ?vv, rfl, ?hh, ?cc, ?nn, ?ll, ?qq⟩; (case hh => walk_at "hp"); (case cc => walk_at "cls"); (case nn => walk_at "na"); (case ll => exact rfl)))
local macro_rules | `(tactic| walk_at "sto") => `(tactic| (refine' ⟨_, _, _, _, rfl, ?hh, ?cc, ?nn, ?ll, ?qq⟩; (case hh => walk_at "hp"); (case cc => walk_at "cls"); (case nn => walk_at "na"); (case ll => first | exact Nat.le_of_ble_eq_true rfl | assumption)))
local macro_rules | `(tactic| walk_at "mth") => `(tactic| (refine' ⟨_, _, _, rfl, ?hh, ?ll, ?qq⟩; (case hh => walk_at "hp"); (case ll => exact rfl)))
local macro_rules | `(tactic| walk_at "sx") => `(tactic| repeat (first | refine ⟨_, rfl, ?_⟩ | refine ⟨_, _, rfl, rfl, ?_⟩ | walk_at "ixl" | walk_at "setl" | refine ⟨rfl, ?_⟩ | refine Or.inl ⟨_, rfl, ?_⟩ | walk_at "fld" | walk_at "sto" | walk_at "mth" | refine And.intro (by walk_at "cond") ?_))
section
variable {P : Program} {w : World} {K : PySem.W.Frag} {mg : Str → Option Value} {base : Heap}
def spBarY (T : Txt K mg) : Sp := fun vs H Q _ => Hd (∃ (A : TA) (y dy : Addr) (fy : List (Str × V)), vs = [.ref y] ∧ H y = some (.ins T.C_Yard dy fy) ∧ fy.lookup ("tree" : Str) = some (.ref A.tr) ∧ H A.tr = some (.ins T.C_LoggerTree A.dtr (fTrG A)) ∧ Q (.int A.bar) H)
theorem ok_barY (T : Txt K mg) : FnOk P w K mg base CX0 2 T.a_Yard_bar T.fd_Yard_bar ["self"] (spBarY T) := by
  have G_LoggerTree_bar : FnOk P w K mg base CX0 1 _ _ _ (spBar T) := ok_bar T
  refine T.F_Yard_bar.ok sc_Yard_bar (fun vs H Q E h => ?_) (fun cdv A outer s H vs Q E hr h => ?_)
  · obtain ⟨A, y, dy, fy, rfl, _⟩ := h.out
    rfl
  · obtain ⟨A, y, dy, fy, rfl, hy, ly, ht, k⟩ := h.out
    refine ⟨_, (pss_one (ps_ret (pe_meth0 (pe_fld (pv 0) rfl) T.o_LoggerTree.cl T.Me_LoggerTree_bar G_LoggerTree_bar (hr.mono (by first | decide | omega)) T.b_LoggerTree_bar .nil pass0))), ?_⟩
    walk_at "sx"
    refine ⟨y, T.C_Yard, dy, fy, _, rfl, hy, T.o_Yard.cl, T.o_Yard.na _ (by decide), ly, ?_⟩
    walk_at "sx"
    exact .a ⟨A, rfl, ht, k⟩
end
end My

namespace My
open PySem PySem.Spec PyProof.Rows L2 SuX
local macro_rules | `(tactic| walk_at "hp") => `(tactic| first | assumption | exact upd_same | (refine Eq.trans (upd_ne (by first | assumption | (apply Ne.symm; assumption))) ?_; walk_at "hp"))
local macro_rules | `(tactic| walk_at "ixl") => `(tactic| (refine' ⟨_, ?xs, _, ?vv, rfl, rfl, SqL.of ?hh, ?aa, ?qq⟩; (case hh => walk_at "hp"); (case aa => rfl)))
local macro_rules | `(tactic| walk_at "setl") => `(tactic| (refine' ⟨_, ?xs, _, ?jj, rfl, rfl, ?hh, ?aa, ?qq⟩; (case hh => walk_at "hp"); (case aa => rfl)))
local macro_rules | `(tactic| walk_at "cond") => `(tactic| first | exact ⟨_, rfl⟩ | exact Nat.le_of_lt (small1000 (Nat.le_of_ble_eq_true rfl)) | decide | omega | (dsimp only; omega) | exact ⟨by decide, by decide⟩ | exact Or.inr ⟨by decide, by decide⟩ | exact Or.inl ⟨by decide, by decide⟩ | exact ⟨by decide, by decide, by decide⟩ | exact ⟨by omega, by omega⟩ | exact ⟨by omega, by omega, by omega⟩ | (simp only [List.length_cons, List.length_nil, List.length_append, List.length_take, List.length_drop]; omega) | (refine ⟨?_, ?_, ?_⟩ <;> first | decide | omega | (simp only [List.length_cons, List.length_nil, List.length_append, List.length_take, List.length_drop, Option.getD_some, Option.getD_none]; omega)))
local macro_rules | `(tactic| walk_at "st") => `(tactic| repeat (first | refine ⟨_, rfl, ?_⟩ | refine ⟨_, _, rfl, rfl, ?_⟩ | walk_at "ixl" | walk_at "setl" | refine ⟨rfl, ?_⟩ | refine Or.inl ⟨_, rfl, ?_⟩ | refine And.intro (by walk_at "cond") ?_))
theorem ty_lst {K : PySem.W.Frag} {H : Hp} {a : Addr} {xs : List V} (r : Rd H a (.lst xs)) : TyX K H (.ref a) (.type "list") := by
  rcases r with r | ⟨u, r⟩
  · exact .base (.lst r)
  · exact .base (.frz r)
/-- the comprehensions of truths: all of them true -/
structure TruP (H : Hp) (D0 : Addr) (i : Nat) (H3 : Hp) : Prop where
  at_ : H3 D0 = some (.lst ((List.replicate i true).map V.bl))
  sm : Same H H3
theorem TruP.zero {H : Hp} {D0 : Addr} (hD : H D0 = none) : TruP H D0 0 (upd H D0 (.lst [])) := ⟨upd_same, same_put (Same.refl _) hD⟩
theorem TruP.next {H H3 H4 : Hp} {D0 : Addr} {i : Nat} (c : TruP H D0 i H3) (hD : H D0 = none) (hi : i < 1000) (sm : Same H3 H4) :
    ∃ acc, H4 D0 = some (.lst acc) ∧ acc.length < sizeLine ∧ TruP H D0 (i + 1) (upd H4 D0 (.lst (acc ++ [V.bl true]))) := by
  refine ⟨_, sm _ _ c.at_, by rw [List.length_map, List.length_replicate]; exact small1000 (by omega), ⟨?_, same_put (c.sm.trans sm) hD⟩⟩
  rw [upd_same, List.replicate_succ', List.map_append]
  rfl
theorem all_true (i : Nat) : (List.replicate i true).all id = true := by simp
section
variable {P : Program} {w : World} {K : PySem.W.Frag} {mg : Str → Option Value} {base : Heap}
def spNone : Sp := fun _ _ _ _ => Hd False
/-- ints, truths -/
def spSame1 : Sp := fun vs H Q _ => Hd (∃ v, vs = [v, v] ∧ ((∃ i, v = .int i) ∨ ∃ b, v = .bl b) ∧ ∀ H', Same H H' → Q (.bl true) H')
/-- lists of them -/
def spSame2 : Sp := fun vs H Q _ => Hd (∃ (a b : Addr) (xs : List V), vs = [.ref a, .ref b] ∧ H a = some (.lst xs) ∧ H b = some (.lst xs) ∧ xs.length ≤ 500 ∧ (∀ v ∈ xs, (∃ i, v = .int i) ∨ ∃ b, v = .bl b) ∧ ∀ H', Same H H' → Q (.bl true) H')
theorem ok_same1 (T : Txt K mg) (G__law_same : FnOk P w K mg base CX0 1 T.f__law_same T.fd__law_same ["_law_found", "_law_due"] spNone) : FnOk P w K mg base CX0 2 T.f__law_same T.fd__law_same ["_law_found", "_law_due"] spSame1 := by
  refine T.D__law_same.F.ok sc__law_same (fun vs H Q E h => ?_) (fun cdv A outer s H vs Q E hr h => ?_)
  · obtain ⟨v, rfl, _⟩ := h.out
    rfl
  · obtain ⟨v, rfl, c, k⟩ := h.out
    have hu := hu_of hr
    have hu64 := hr.units
    refine ⟨_, (pss_cons (ps_if (pt_val (pe_callB call_isiT (by rfl) T.B.n_isinstance (by decide +kernel) (pa_cons (pv 1) (pa_cons (pe_tup (pa_cons (pe_bltn (v := .ty "list") (u := .type "list") (by rfl) T.B.n_list (by decide +kernel) rfl) (pa_cons (pe_bltn (v := .ty "tuple") (u := .type "tuple") (by rfl) T.B.n_tuple (by decide +kernel) rfl) pa_nil))) pa_nil))))
    (pss_cons (ps_if (PW.pt (pw_or (pt_cmpR op_ne (pe_callB call_isi (by rfl) T.B.n_isinstance (by decide +kernel) (pa_cons (pv 0) (pa_cons (pe_bltn (v := .ty "list") (u := .type "list") (by rfl) T.B.n_list (by decide +kernel) rfl) pa_nil))) (pe_callB call_isi (by rfl) T.B.n_isinstance (by decide +kernel) (pa_cons (pv 1) (pa_cons (pe_bltn (v := .ty "list") (u := .type "list") (by rfl) T.B.n_list (by decide +kernel) rfl) pa_nil))) (nomark _)) (pw_or1 (pt_cmpR op_ne (pe_callB call_isi (by rfl) T.B.n_isinstance (by decide +kernel) (pa_cons (pv 0) (pa_cons (pe_bltn (v := .ty "tuple") (u := .type "tuple") (by rfl) T.B.n_tuple (by decide +kernel) rfl) pa_nil))) (pe_callB call_isi (by rfl) T.B.n_isinstance (by decide +kernel) (pa_cons (pv 1) (pa_cons (pe_bltn (v := .ty "tuple") (u := .type "tuple") (by rfl) T.B.n_tuple (by decide +kernel) rfl) pa_nil))) (nomark _)))))
    (pss_one (ps_ret pe_bl))
    pss_nil)
  (pss_one (ps_ret (pe_and (pe_cmpR op_eq (pe_callB call_len_seq (by rfl) T.B.n_len (by decide +kernel) (pa_cons (pv 0) pa_nil)) (pe_callB call_len_seq (by rfl) T.B.n_len (by decide +kernel) (pa_cons (pv 1) pa_nil)) (nomark _)) (pe_one (pe_callB (cr_all rfl) (by rfl) T.B.n_all (by decide +kernel) (pa_cons (pe_lc (own := [("_law_one", 2), ("_law_two", 3)]) (g := gTup K 2 (gCons (gName 2) (gCons (gName 3) gNil))) rfl sc__law_same.nd (RZ.pi_zipA (by rfl) T.B.n_zip (pa_cons (pv 0) (pa_cons (pv 1) pa_nil))) (blkOk_by (N := ["_law_found", "_law_due", "_law_one", "_law_two"]) (sc := defScope s__law_same) (by decide +kernel)) (fun _ _ _ _ _ => (pg_tup rfl (pgs_cons (pg_name (i := 2) sc__law_same.nd rfl (by first | exact Or.inl rfl | exact Or.inr rfl)) (pgs_cons (pg_name (i := 3) sc__law_same.nd rfl (by first | exact Or.inl rfl | exact Or.inr rfl)) pgs_nil)))) (fun _ _ _ _ _ => pts_nil) (fun _ _ _ _ _ => (pe_call G__law_same (hr.mono (by first | decide | omega)) rfl T.D__law_same.g T.D__law_same.F.kp T.D__law_same.b .nil pass0 (pa_cons (pv 2) (pa_cons (pv 3) pa_nil))))) pa_nil)))))))
    pss_nil)
  (pss_cons (ps_if (pt_val (pe_callB call_isiT (by rfl) T.B.n_isinstance (by decide +kernel) (pa_cons (pv 1) (pa_cons (pe_tup (pa_cons (pe_bltn (v := .ty "bool") (u := .type "bool") (by rfl) T.B.n_bool (by decide +kernel) rfl) (pa_cons (pe_bltn (v := .ty "int") (u := .type "int") (by rfl) T.B.n_int (by decide +kernel) rfl) pa_nil))) pa_nil))))
    (pss_one (ps_ret (pe_and (pe_callB call_isi (by rfl) T.B.n_isinstance (by decide +kernel) (pa_cons (pv 0) (pa_cons (pe_bltn (v := .ty "int") (u := .type "int") (by rfl) T.B.n_int (by decide +kernel) rfl) pa_nil))) (pe_and (pe_cmpR op_eq (pe_callB call_isi (by rfl) T.B.n_isinstance (by decide +kernel) (pa_cons (pv 0) (pa_cons (pe_bltn (v := .ty "bool") (u := .type "bool") (by rfl) T.B.n_bool (by decide +kernel) rfl) pa_nil))) (pe_callB call_isi (by rfl) T.B.n_isinstance (by decide +kernel) (pa_cons (pv 1) (pa_cons (pe_bltn (v := .ty "bool") (u := .type "bool") (by rfl) T.B.n_bool (by decide +kernel) rfl) pa_nil))) (nomark _)) (pe_one (pe_cmpR op_eq (pv 0) (pv 1) (nomark _)))))))
    pss_nil)
  (pss_one (ps_ret (pe_and (pe_cmpR op_isN (pe_callB call_isiT (by rfl) T.B.n_isinstance (by decide +kernel) (pa_cons (pv 0) (pa_cons (pe_tup (pa_cons (pe_bltn (v := .ty "bool") (u := .type "bool") (by rfl) T.B.n_bool (by decide +kernel) rfl) (pa_cons (pe_bltn (v := .ty "int") (u := .type "int") (by rfl) T.B.n_int (by decide +kernel) rfl) (pa_cons (pe_bltn (v := .ty "list") (u := .type "list") (by rfl) T.B.n_list (by decide +kernel) rfl) (pa_cons (pe_bltn (v := .ty "tuple") (u := .type "tuple") (by rfl) T.B.n_tuple (by decide +kernel) rfl) pa_nil))))) pa_nil))) pe_bl (nomark _)) (pe_one (pe_cmpR op_eq (pv 0) (pv 1) (nomark _)))))))), ?_⟩
    walk_at "st"
    intro t ht
    have st := same_new (o := .tup [.ty "list", .ty "tuple"]) ht
    rcases c with ⟨i, rfl⟩ | ⟨b, rfl⟩
    · refine ⟨_, t, _, _, _, false, rfl, upd_same, (.cons (.ty "list") (.cons (.ty "tuple") .nil)), (.base (.int i)), (kitAny_cons (b := false) (kit_ty (by decide +kernel)) (fun _ => (kitAny_cons (b := false) (kit_ty (by decide +kernel)) (fun _ => kitAny_nil) (fun h => nomatch h))) (fun h => nomatch h)), ?_⟩
      walk_at "st"
      intro u hu2
      have su := same_new (o := .tup [.ty "bool", .ty "int"]) hu2
      refine ⟨_, u, _, _, _, true, rfl, upd_same, (.cons (.ty "bool") (.cons (.ty "int") .nil)), (.base (.int i)), (kitAny_cons (b := false) (kit_ty (by decide +kernel)) (fun _ => (kitAny_cons (b := true) (kit_ty (by decide +kernel)) (fun h => nomatch h) (fun _ => rfl))) (fun h => nomatch h)), ?_⟩
      walk_at "st"
      refine ⟨_, .ty "int", _, _, true, rfl, .ty "int", (.base (.int i)), kit_ty (by decide +kernel), ?_⟩
      walk_at "st"
      refine ⟨_, .ty "bool", _, _, false, rfl, .ty "bool", (.base (.int i)), kit_ty (by decide +kernel), ?_⟩
      walk_at "st"
      refine ⟨_, .ty "bool", _, _, false, rfl, .ty "bool", (.base (.int i)), kit_ty (by decide +kernel), ?_⟩
      walk_at "st"
      have e : decide (V.int i = V.int i) = true := decide_eq_true rfl
      show Q (V.bl (decide (V.int i = V.int i))) _
      rw [e]
      exact k _ (st.trans su)
    · refine ⟨_, t, _, _, _, false, rfl, upd_same, (.cons (.ty "list") (.cons (.ty "tuple") .nil)), (.base (.bl b)), (kitAny_cons (b := false) (kit_ty (by decide +kernel)) (fun _ => (kitAny_cons (b := false) (kit_ty (by decide +kernel)) (fun _ => kitAny_nil) (fun h => nomatch h))) (fun h => nomatch h)), ?_⟩
      walk_at "st"
      intro u hu2
      have su := same_new (o := .tup [.ty "bool", .ty "int"]) hu2
      refine ⟨_, u, _, _, _, true, rfl, upd_same, (.cons (.ty "bool") (.cons (.ty "int") .nil)), (.base (.bl b)), (kitAny_cons (b := true) (kit_ty (by decide +kernel)) (fun h => nomatch h) (fun _ => rfl)), ?_⟩
      walk_at "st"
      refine ⟨_, .ty "int", _, _, true, rfl, .ty "int", (.base (.bl b)), kit_ty (by decide +kernel), ?_⟩
      walk_at "st"
      refine ⟨_, .ty "bool", _, _, true, rfl, .ty "bool", (.base (.bl b)), kit_ty (by decide +kernel), ?_⟩
      walk_at "st"
      refine ⟨_, .ty "bool", _, _, true, rfl, .ty "bool", (.base (.bl b)), kit_ty (by decide +kernel), ?_⟩
      walk_at "st"
      have e : decide (V.bl b = V.bl b) = true := decide_eq_true rfl
      show Q (V.bl (decide (V.bl b = V.bl b))) _
      rw [e]
      exact k _ (st.trans su)
theorem ok_same2 (T : Txt K mg) (G__law_same : FnOk P w K mg base CX0 2 T.f__law_same T.fd__law_same ["_law_found", "_law_due"] spSame1) : FnOk P w K mg base CX0 3 T.f__law_same T.fd__law_same ["_law_found", "_law_due"] spSame2 := by
  refine T.D__law_same.F.ok sc__law_same (fun vs H Q E h => ?_) (fun cdv A outer s H vs Q E hr h => ?_)
  · obtain ⟨a, b, xs, rfl, _⟩ := h.out
    rfl
  · obtain ⟨a, b, xs, rfl, h1, g1, zl, hs, k⟩ := h.out
    have hu := hu_of hr
    have hu64 := hr.units
    refine ⟨_, (pss_cons (ps_if (pt_val (pe_callB call_isiT (by rfl) T.B.n_isinstance (by decide +kernel) (pa_cons (pv 1) (pa_cons (pe_tup (pa_cons (pe_bltn (v := .ty "list") (u := .type "list") (by rfl) T.B.n_list (by decide +kernel) rfl) (pa_cons (pe_bltn (v := .ty "tuple") (u := .type "tuple") (by rfl) T.B.n_tuple (by decide +kernel) rfl) pa_nil))) pa_nil))))
    (pss_cons (ps_if (PW.pt (pw_or (pt_cmpR op_ne (pe_callB call_isi (by rfl) T.B.n_isinstance (by decide +kernel) (pa_cons (pv 0) (pa_cons (pe_bltn (v := .ty "list") (u := .type "list") (by rfl) T.B.n_list (by decide +kernel) rfl) pa_nil))) (pe_callB call_isi (by rfl) T.B.n_isinstance (by decide +kernel) (pa_cons (pv 1) (pa_cons (pe_bltn (v := .ty "list") (u := .type "list") (by rfl) T.B.n_list (by decide +kernel) rfl) pa_nil))) (nomark _)) (pw_or1 (pt_cmpR op_ne (pe_callB call_isi (by rfl) T.B.n_isinstance (by decide +kernel) (pa_cons (pv 0) (pa_cons (pe_bltn (v := .ty "tuple") (u := .type "tuple") (by rfl) T.B.n_tuple (by decide +kernel) rfl) pa_nil))) (pe_callB call_isi (by rfl) T.B.n_isinstance (by decide +kernel) (pa_cons (pv 1) (pa_cons (pe_bltn (v := .ty "tuple") (u := .type "tuple") (by rfl) T.B.n_tuple (by decide +kernel) rfl) pa_nil))) (nomark _)))))
    (pss_one (ps_ret pe_bl))
    pss_nil)
  (pss_one (ps_ret (pe_and (pe_cmpR op_eq (pe_callB call_len_seq (by rfl) T.B.n_len (by decide +kernel) (pa_cons (pv 0) pa_nil)) (pe_callB call_len_seq (by rfl) T.B.n_len (by decide +kernel) (pa_cons (pv 1) pa_nil)) (nomark _)) (pe_one (pe_callB (cr_all rfl) (by rfl) T.B.n_all (by decide +kernel) (pa_cons (pe_lc (own := [("_law_one", 2), ("_law_two", 3)]) (g := gTup K 2 (gCons (gName 2) (gCons (gName 3) gNil))) rfl sc__law_same.nd (RZ.pi_zipA (by rfl) T.B.n_zip (pa_cons (pv 0) (pa_cons (pv 1) pa_nil))) (blkOk_by (N := ["_law_found", "_law_due", "_law_one", "_law_two"]) (sc := defScope s__law_same) (by decide +kernel)) (fun _ _ _ _ _ => (pg_tup rfl (pgs_cons (pg_name (i := 2) sc__law_same.nd rfl (by first | exact Or.inl rfl | exact Or.inr rfl)) (pgs_cons (pg_name (i := 3) sc__law_same.nd rfl (by first | exact Or.inl rfl | exact Or.inr rfl)) pgs_nil)))) (fun _ _ _ _ _ => pts_nil) (fun _ _ _ _ _ => (pe_call G__law_same (hr.mono (by first | decide | omega)) rfl T.D__law_same.g T.D__law_same.F.kp T.D__law_same.b .nil pass0 (pa_cons (pv 2) (pa_cons (pv 3) pa_nil))))) pa_nil)))))))
    pss_nil)
  (pss_cons (ps_if (pt_val (pe_callB call_isiT (by rfl) T.B.n_isinstance (by decide +kernel) (pa_cons (pv 1) (pa_cons (pe_tup (pa_cons (pe_bltn (v := .ty "bool") (u := .type "bool") (by rfl) T.B.n_bool (by decide +kernel) rfl) (pa_cons (pe_bltn (v := .ty "int") (u := .type "int") (by rfl) T.B.n_int (by decide +kernel) rfl) pa_nil))) pa_nil))))
    (pss_one (ps_ret (pe_and (pe_callB call_isi (by rfl) T.B.n_isinstance (by decide +kernel) (pa_cons (pv 0) (pa_cons (pe_bltn (v := .ty "int") (u := .type "int") (by rfl) T.B.n_int (by decide +kernel) rfl) pa_nil))) (pe_and (pe_cmpR op_eq (pe_callB call_isi (by rfl) T.B.n_isinstance (by decide +kernel) (pa_cons (pv 0) (pa_cons (pe_bltn (v := .ty "bool") (u := .type "bool") (by rfl) T.B.n_bool (by decide +kernel) rfl) pa_nil))) (pe_callB call_isi (by rfl) T.B.n_isinstance (by decide +kernel) (pa_cons (pv 1) (pa_cons (pe_bltn (v := .ty "bool") (u := .type "bool") (by rfl) T.B.n_bool (by decide +kernel) rfl) pa_nil))) (nomark _)) (pe_one (pe_cmpR op_eq (pv 0) (pv 1) (nomark _)))))))
    pss_nil)
  (pss_one (ps_ret (pe_and (pe_cmpR op_isN (pe_callB call_isiT (by rfl) T.B.n_isinstance (by decide +kernel) (pa_cons (pv 0) (pa_cons (pe_tup (pa_cons (pe_bltn (v := .ty "bool") (u := .type "bool") (by rfl) T.B.n_bool (by decide +kernel) rfl) (pa_cons (pe_bltn (v := .ty "int") (u := .type "int") (by rfl) T.B.n_int (by decide +kernel) rfl) (pa_cons (pe_bltn (v := .ty "list") (u := .type "list") (by rfl) T.B.n_list (by decide +kernel) rfl) (pa_cons (pe_bltn (v := .ty "tuple") (u := .type "tuple") (by rfl) T.B.n_tuple (by decide +kernel) rfl) pa_nil))))) pa_nil))) pe_bl (nomark _)) (pe_one (pe_cmpR op_eq (pv 0) (pv 1) (nomark _)))))))), ?_⟩
    walk_at "st"
    intro t ht
    have st := same_new (o := .tup [.ty "list", .ty "tuple"]) ht
    have q1 : Rd (upd H t (.tup [.ty "list", .ty "tuple"])) a (.lst xs) := .inl (st _ _ h1)
    have q2 : Rd (upd H t (.tup [.ty "list", .ty "tuple"])) b (.lst xs) := .inl (st _ _ g1)
    refine ⟨_, t, _, _, _, true, rfl, upd_same, (.cons (.ty "list") (.cons (.ty "tuple") .nil)), (ty_lst q2), (kitAny_cons (b := true) (kit_ty (by decide +kernel)) (fun h => nomatch h) (fun _ => rfl)), ?_⟩
    walk_at "st"
    refine ⟨_, .ty "list", _, _, true, rfl, .ty "list", (ty_lst q1), kit_ty (by decide +kernel), ?_⟩
    walk_at "st"
    refine ⟨_, .ty "list", _, _, true, rfl, .ty "list", (ty_lst q2), kit_ty (by decide +kernel), ?_⟩
    walk_at "st"
    refine ⟨_, .ty "tuple", _, _, false, rfl, .ty "tuple", (ty_lst q1), kit_ty (by decide +kernel), ?_⟩
    walk_at "st"
    refine ⟨_, .ty "tuple", _, _, false, rfl, .ty "tuple", (ty_lst q2), kit_ty (by decide +kernel), ?_⟩
    walk_at "st"
    refine ⟨a, xs, rfl, .inl (.inl q1), ?_⟩
    walk_at "st"
    refine ⟨b, xs, rfl, .inl (.inl q2), ?_⟩
    walk_at "st"
    refine if_true_of (decide_eq_true rfl) ?_
    walk_at "st"
    generalize upd H t (.tup [.ty "list", .ty "tuple"]) = H1 at st q1 q2 ⊢
    refine ⟨a, b, xs, xs, rfl, .inl ⟨.inl q1, .inl q2, fun D0 hD => ?_⟩⟩
    refine lc_it (n := xs.length) (walk_zip (xs := xs) (ys := xs) (by omega)) (TruP H1 D0) (.zero hD) (fun i H _ c => ⟨.inl (same_rd c.sm q1), .inl (same_rd c.sm q2)⟩) ?_ ?_
    · rintro i x H3 H4 hi c ⟨T0, x1, y1, rfl, hT, rfl, e1, e2⟩
      have s3 := c.sm.trans (same_new (o := .tup [x1, y1]) hT)
      obtain rfl : x1 = y1 := Option.some.inj (e1.symm.trans e2)
      refine ⟨T0, [x1, x1], rfl, SqT.of upd_same, rfl, _, _, rfl, _, _, rfl, rfl, rfl, ?_⟩
      walk_at "st"
      exact .a ⟨x1, rfl, hs _ (List.mem_of_getElem? e1), fun H5 s5 => c.next hD (by omega) ((same_new hT).trans s5)⟩
    · intro H3 c
      walk_at "st"
      refine ⟨D0, _, rfl, SqL.of c.at_, ?_⟩
      rw [all_true]
      exact k _ (st.trans c.sm)
theorem ok_same (T : Txt K mg) : FnOk P w K mg base CX0 2 T.f__law_same T.fd__law_same ["_law_found", "_law_due"] spSame1 :=
  ok_same1 T (T.D__law_same.F.ok (k := 0) sc__law_same (fun _ _ _ _ h => h.out.elim) fun _ _ _ _ _ _ _ _ _ h => h.out.elim)
theorem ok_sameL (T : Txt K mg) : FnOk P w K mg base CX0 3 T.f__law_same T.fd__law_same ["_law_found", "_law_due"] spSame2 := ok_same2 T (ok_same T)
end
end My

namespace My
open PySem PySem.Spec PyProof.Rows L2 SuX LTr DN
local macro_rules | `(tactic| walk_at "hp") => `(tactic| first | assumption | exact upd_same | (refine Eq.trans (upd_ne (by first | assumption | (apply Ne.symm; assumption))) ?_; walk_at "hp"))
local macro_rules | `(tactic| walk_at "ixl") => `(tactic| (refine' ⟨_, ?xs, _, ?vv, rfl, rfl, SqL.of ?hh, ?aa, ?qq⟩; (case hh => walk_at "hp"); (case aa => rfl)))
local macro_rules | `(tactic| walk_at "setl") => `(tactic| (refine' ⟨_, ?xs, _, ?jj, rfl, rfl, ?hh, ?aa, ?qq⟩; (case hh => walk_at "hp"); (case aa => rfl)))
local macro_rules | `(tactic| walk_at "cond") => `(tactic| first | exact ⟨_, rfl⟩ | exact Nat.le_of_lt (small1000 (Nat.le_of_ble_eq_true rfl)) | decide | omega | (dsimp only; omega) | exact ⟨by decide, by decide⟩ | exact Or.inr ⟨by decide, by decide⟩ | exact Or.inl ⟨by decide, by decide⟩ | exact ⟨by decide, by decide, by decide⟩ | exact ⟨by omega, by omega⟩ | exact ⟨by omega, by omega, by omega⟩ | (simp only [List.length_cons, List.length_nil, List.length_append, List.length_take, List.length_drop]; omega) | (refine ⟨?_, ?_, ?_⟩ <;> first | decide | omega | (simp only [List.length_cons, List.length_nil, List.length_append, List.length_take, List.length_drop, Option.getD_some, Option.getD_none]; omega)))
local macro_rules | `(tactic| walk_at "st") => `(tactic| repeat (first | refine ⟨_, rfl, ?_⟩ | refine ⟨_, _, rfl, rfl, ?_⟩ | walk_at "ixl" | walk_at "setl" | refine ⟨rfl, ?_⟩ | refine Or.inl ⟨_, rfl, ?_⟩ | refine And.intro (by walk_at "cond") ?_))
local macro_rules | `(tactic| walk_at "cls") => `(tactic| first | exact OC.cl (by assumption) | exact (‹Txt _ _›).o_Clock.cl | exact (‹Txt _ _›).o_LevelTable.cl | exact (‹Txt _ _›).o_Store.cl | exact (‹Txt _ _›).o_Written.cl | exact (‹Txt _ _›).o_Roster.cl | exact (‹Txt _ _›).o_Handler.cl | exact (‹Txt _ _›).o_Logger.cl | exact (‹Txt _ _›).o_LoggerTree.cl | exact (‹Txt _ _›).o_StreamHandler.cl | exact (‹Txt _ _›).o_Yard.cl)
local macro_rules | `(tactic| walk_at "na") => `(tactic| first | (refine na_of (by assumption) ?_; decide) | (refine na_of (‹Txt _ _›).o_Clock ?_; decide) | (refine na_of (‹Txt _ _›).o_LevelTable ?_; decide) | (refine na_of (‹Txt _ _›).o_Store ?_; decide) | (refine na_of (‹Txt _ _›).o_Written ?_; decide) | (refine na_of (‹Txt _ _›).o_Roster ?_; decide) | (refine na_of (‹Txt _ _›).o_Handler ?_; decide) | (refine na_of (‹Txt _ _›).o_Logger ?_; decide) | (refine na_of (‹Txt _ _›).o_LoggerTree ?_; decide) | (refine na_of (‹Txt _ _›).o_StreamHandler ?_; decide) | (refine na_of (‹Txt _ _›).o_Yard ?_; decide))
local macro_rules | `(tactic| walk_at "fld") => `(tactic| (refine' ⟨_, _, _, _, ?vv, rfl, ?hh, ?cc, ?nn, ?ll, ?qq⟩; (case hh => walk_at "hp"); (case cc => walk_at "cls"); (case nn => walk_at "na"); (case ll => exact rfl)))
local macro_rules | `(tactic| walk_at "sto") => `(tactic| (refine' ⟨_, _, _, _, rfl, ?hh, ?cc, ?nn, ?ll, ?qq⟩; (case hh => walk_at "hp"); (case cc => walk_at "cls"); (case nn => walk_at "na"); (case ll => first | exact Nat.le_of_ble_eq_true rfl | assumption)))
local macro_rules | `(tactic| walk_at "mth") => `(tactic| (refine' ⟨_, _, _, rfl, ?hh, ?ll, ?qq⟩; (case hh => walk_at "hp"); (case ll => exact rfl)))
local macro_rules | `(tactic| walk_at "sx") => `(tactic| repeat (first | refine ⟨_, rfl, ?_⟩ | refine ⟨_, _, rfl, rfl, ?_⟩ | walk_at "ixl" | walk_at "setl" | refine ⟨rfl, ?_⟩ | refine Or.inl ⟨_, rfl, ?_⟩ | walk_at "fld" | walk_at "sto" | walk_at "mth" | refine And.intro (by walk_at "cond") ?_))
theorem TreeAt.updk {K : PySem.W.Frag} {mg : Str → Option Value} {T : Txt K mg} {H : Hp} {A : TA} {S : List Lg} {kd : Addr} {kvs : List (Key × V)} (t : TreeAt T H A S) (hk : H kd = some (.dK kvs)) (nk : kd ≠ A.nd) (o : HO) : TreeAt T (upd H kd o) A S := by
  have ne : ∀ b C d fs, H b = some (.ins C d fs) → b ≠ kd := fun b C d fs e z => by rw [z, hk] at e; cases e
  exact ⟨by rw [upd_ne (ne _ _ _ _ t.tr)]; exact t.tr, by rw [upd_ne nk.symm]; exact t.nd, by rw [upd_ne (ne _ _ _ _ t.rt)]; exact t.rt, fun L hL => by rw [upd_ne (ne _ _ _ _ (t.lg L hL))]; exact t.lg L hL, t.wp, t.wf, t.sz⟩
theorem for_tupH {K : PySem.W.Frag} {a : Addr} {xs : List V} {g : TG} {tb : TS} {D : Ends} {σ : L2.St} {H : Hp} (W : Nat → L2.St → Hp → Prop) (hst : ∀ i σ H, W i σ H → H a = some (.tup xs)) (h0 : W 0 σ H) (hend : ∀ σ H, W xs.length σ H → D.nx σ H)
    (hs : ∀ (R : L2.St → Hp → Prop) (i : Nat) σ H x, W i σ H → xs[i]? = some x → ∀ N : L2.St → Hp → Prop, N = (fun σ' H' => Hd (W (i + 1) σ' H')) → g x σ H fun σ2 H2 => tb { D with nx := N, ct := N, bk := D.nx } σ2 H2) :
    ∃ W : Nat → Nat → L2.St → Hp → Prop, (∃ m, W 0 m σ H) ∧ ∀ i m σ H, W i m σ H →
      ((Itt K a).stop i H ∧ D.nx σ H) ∨ ((Itt K a).go i H ∧ ∃ N : L2.St → Hp → Prop, (∀ σ' H', N σ' H' → ∃ m', m' < m ∧ W (i + 1) m' σ' H') ∧ ∀ x H', (Itt K a).yld i H x H' → g x σ H' fun σ2 H2 => tb { D with nx := N, ct := N, bk := D.nx } σ2 H2) := by
  refine ⟨fun i m σ H => W i σ H ∧ m = xs.length - i ∧ i ≤ xs.length, ⟨_, h0, rfl, Nat.zero_le _⟩, ?_⟩
  rintro i m σ H ⟨hw, rfl, hi⟩
  have hl := SqT.of (K := K) (hst i σ H hw)
  by_cases hlt : i < xs.length
  · refine .inr ⟨⟨xs, xs[i], hl, List.getElem?_eq_getElem hlt⟩, fun σ' H' => Hd (W (i + 1) σ' H'), fun σ' H' z => ⟨xs.length - (i + 1), by omega, z.out, rfl, by omega⟩, ?_⟩
    rintro x H' ⟨rfl, hx⟩
    exact hs D.nx i σ H' x hw (hx xs hl) _ rfl
  · have e : i = xs.length := by omega
    subst e
    exact .inl ⟨⟨xs, hl, Nat.le_refl _⟩, hend σ H hw⟩
theorem effC_congr {f g : Nm → Int} : ∀ {l : List Nm}, (∀ x ∈ l, f x = g x) → effC f l = effC g l
  | [], _ => rfl
  | x :: r, h => by
    unfold effC
    rw [h x List.mem_cons_self, effC_congr fun y hy => h y (List.mem_cons_of_mem _ hy)]
section
variable {P : Program} {w : World} {K : PySem.W.Frag} {mg : Str → Option Value} {base : Heap}
def spRightB (T : Txt K mg) : Sp := fun vs H Q _ => Hd (∃ (B : YB) (z : YS), vs = [.ref B.y, .ref B.kd, .ref B.M.m] ∧ YJ T H B z ∧ YM z ∧ ∀ H', Same H H' → Q (.bl true) H')
theorem ok_rightB (T : Txt K mg) : FnOk P w K mg base CX0 4 T.f__law_are_right T.fd__law_are_right ["_law_yard", "_law_known", "_law_m"] (spRightB T) := by
  have G__law_effective : FnOk P w K mg base CX0 3 _ _ _ spEffL := ok_effL T
  have G__law_same : FnOk P w K mg base CX0 2 _ _ _ spSame1 := ok_same T
  have G_Yard_bar : FnOk P w K mg base CX0 2 _ _ _ (spBarY T) := ok_barY T
  have G_Logger_isEnabledFor : FnOk P w K mg base CX0 2 _ _ _ (spEnabled T) := ok_enabled T
  refine T.D__law_are_right.F.ok sc__law_are_right (fun vs H Q E h => ?_) (fun cdv A outer s H vs Q E hr h => ?_)
  · obtain ⟨B, z, rfl, _⟩ := h.out
    rfl
  · obtain ⟨B, z, rfl, Y, m, kQ⟩ := h.out
    have hu := hu_of hr
    have hu64 := hr.units
    have hm := Y.ml.m
    have hy := Y.yy
    have t := Y.tr
    refine ⟨_, (pss_cons (ps_if (pt_not (pt_val (pe_call G__law_same (hr.mono (by first | decide | omega)) rfl T.D__law_same.g T.D__law_same.F.kp T.D__law_same.b .nil pass0 (pa_cons (pe_meth0 (pv 0) T.o_Yard.cl T.Me_Yard_bar G_Yard_bar (hr.mono (by first | decide | omega)) T.b_Yard_bar .nil pass0) (pa_cons (pe_dget hu (pv 2) (SL.pe_strL [98, 97, 114] (by decide +kernel)) (fun _ _ => rfl)) pa_nil)))))
    (pss_one (ps_ret pe_bl))
    pss_nil)
  (pss_cons (ps_lock (ps_for PassesOwn.never rfl (pi_keys (pv 1)) (pg_name (i := 3) sc__law_are_right.nd rfl (by first | exact Or.inl rfl | exact Or.inr rfl))
    (pss_cons (ps_set (i := 4) sc__law_are_right.nd rfl (by first | exact Or.inl rfl | exact Or.inr rfl) (pe_callB (call_max2 rfl) (by rfl) T.B.n_max (by decide +kernel) (pa_cons (pe_op op_add (pe_dget hu (pv 2) (SL.pe_strL [98, 97, 114] (by decide +kernel)) (fun _ _ => rfl)) pe_int) (pa_cons (pe_call G__law_effective (hr.mono (by first | decide | omega)) rfl T.D__law_effective.g T.D__law_effective.F.kp T.D__law_effective.b .nil pass0 (pa_cons (pv 2) (pa_cons (pv 3) pa_nil))) pa_nil))))
  (pss_cons (ps_for PassesOwn.never rfl (pi_tup (pe_tup (pa_cons (pe_dget hu (pv 2) (SL.pe_strL [98, 97, 114] (by decide +kernel)) (fun _ _ => rfl)) (pa_cons (pe_op op_add (pe_dget hu (pv 2) (SL.pe_strL [98, 97, 114] (by decide +kernel)) (fun _ _ => rfl)) pe_int) (pa_cons (pe_op op_sub (pv 4) pe_int) (pa_cons (pv 4) (pa_cons pe_int (pa_cons pe_int (pa_cons pe_int (pa_cons pe_int (pa_cons pe_int pa_nil))))))))))) (pg_name (i := 5) sc__law_are_right.nd rfl (by first | exact Or.inl rfl | exact Or.inr rfl))
    (pss_one (ps_if (pt_not (pt_val (pe_call G__law_same (hr.mono (by first | decide | omega)) rfl T.D__law_same.g T.D__law_same.F.kp T.D__law_same.b .nil pass0 (pa_cons (pe_meth (pe_dget hu (pv 1) (pv 3) (fun _ _ => rfl)) T.o_Logger.cl T.Me_Logger_isEnabledFor G_Logger_isEnabledFor (hr.mono (by first | decide | omega)) T.b_Logger_isEnabledFor .nil pass0 (pa_cons (pv 5) pa_nil)) (pa_cons (pe_and (pe_not (pe_dget hu (pe_dget hu (pv 2) (SL.pe_strL [111, 102, 102] (by decide +kernel)) (fun _ _ => rfl)) (pv 3) (fun _ _ => rfl))) (pe_one (pe_cmpR op_ge (pv 5) (pv 4) (nomark _)))) pa_nil)))))
    (pss_one (ps_ret pe_bl))
    pss_nil)))
  (pss_one (ps_if (pt_not (pt_val (pe_call G__law_same (hr.mono (by first | decide | omega)) rfl T.D__law_same.g T.D__law_same.F.kp T.D__law_same.b .nil pass0 (pa_cons (pe_fld (pe_dget hu (pv 1) (pv 3) (fun _ _ => rfl)) rfl) (pa_cons (pe_dget hu (pe_dget hu (pv 2) (SL.pe_strL [111, 102, 102] (by decide +kernel)) (fun _ _ => rfl)) (pv 3) (fun _ _ => rfl)) pa_nil)))))
    (pss_one (ps_ret pe_bl))
    pss_nil))))))
  (pss_one (ps_ret pe_bl)))), ?_⟩
    walk_at "sx"
    refine .a ⟨z.A, B.y, B.dy, fYd B.Y, rfl, hy, by rw [← Y.yt]; rfl, t.tr, ?_⟩
    walk_at "sx"
    refine ⟨B.M.m, _, rfl, DGet.k (k := kk kBar) hm, ?_⟩
    walk_at "sx"
    refine .a ⟨_, by rw [← m.fb]; rfl, .inl ⟨_, rfl⟩, fun H1 s1 => ?_⟩
    refine ⟨true, rfl, if_false_of rfl ?_⟩
    walk_at "sx"
    have hk1 := s1 _ _ Y.kw
    have dn := Y.dn
    unfold dicts at dn
    simp only [List.nodup_cons, List.mem_cons, List.not_mem_nil, or_false, not_or] at dn
    obtain ⟨⟨k1, k2, k3, k4, k5, k6, k7, k8⟩, _⟩ := dn
    refine ⟨B.kd, _, hk1, trivial, fun od => ?_⟩
    have t4 := (t.same (Same.t s1)).updk hk1 k1 (.frz od (.dK (kvR z.A.rt z.S)))
    have kf : upd H1 B.kd (.frz od (.dK (kvR z.A.rt z.S))) B.kd = some (.frz od (.dK (kvR z.A.rt z.S))) := upd_same
    have m4 : upd H1 B.kd (.frz od (.dK (kvR z.A.rt z.S))) B.M.m = _ := (upd_ne (Ne.symm k3)).trans (s1 _ _ hm)
    have l4 : upd H1 B.kd (.frz od (.dK (kvR z.A.rt z.S))) B.M.d1 = _ := (upd_ne (Ne.symm k4)).trans (s1 _ _ Y.ml.l)
    have o4 : upd H1 B.kd (.frz od (.dK (kvR z.A.rt z.S))) B.M.d3 = _ := (upd_ne (Ne.symm k6)).trans (s1 _ _ Y.ml.o)
    have back : ∀ H', Same (upd H1 B.kd (.frz od (.dK (kvR z.A.rt z.S)))) H' → Same H (upd H' B.kd (.dK (kvR z.A.rt z.S))) := fun H' s b u e => by
      by_cases q : b = B.kd
      · rw [q, upd_same, ← Y.kw, ← e, q]
      · rw [upd_ne q]
        exact s b u (by rw [upd_ne q]; exact s1 _ _ e)
    generalize upd H1 B.kd (.frz od (.dK (kvR z.A.rt z.S))) = G at t4 kf m4 l4 o4 back ⊢
    walk_at "sx"
    refine ⟨B.kd, od, rfl, .inl ⟨_, kf, ?_⟩⟩
    have ek := kvR_eq t.wf
    rw [ek]
    have D := kvF_D (lv := z.F.lv) Y.wpn
    rw [m.ms] at l4 o4
    refine for_keys (fun i σ H2 => ∃ o3 o4 o5, σ = [some (.ref B.y), some (.ref B.kd), some (.ref B.M.m), o3, o4, o5] ∧ Same G H2) ?_ ⟨_, _, _, rfl, Same.refl _⟩ ?_ ?_
    · rintro i σ H2 ⟨o3, o4, o5, rfl, s2⟩
      rw [← ek]
      exact s2 _ _ kf
    · rintro σ H2 ⟨o3, o4, o5, rfl, s2⟩
      refine ⟨by rw [← ek]; exact s2 _ _ kf, ?_⟩
      rw [← ek]
      walk_at "sx"
      exact kQ _ (back H2 s2)
    · rintro R i σ H2 n ⟨q3, q4, q5, rfl, s2⟩ hn N hN
      have hmm : n = [] ∨ n ∈ names z.S := List.mem_cons.mp (List.mem_of_getElem? hn)
      clear hn
      have gn := Y.gpn hmm
      have kd' : ∀ {H' : Hp}, Same G H' → DGet H' B.kd (kV (kk (dot n))) (some (.ref (adr z.A.rt z.S n))) := fun {H'} s => by
        have g := dget_rd (k := kk (dot n)) (.inr ⟨od, s _ _ kf⟩)
        rw [show valV (kvR z.A.rt z.S) (kk (dot n)) = _ from kvR_get t.wf t.gp hmm] at g
        exact g
      have od' : ∀ {H' : Hp}, Same G H' → DGet H' B.M.d3 (kV (kk (dot n))) (some (.bl (z.F.off n))) := fun {H'} s => by
        have g := DGet.k (k := kk (dot n)) (s _ _ o4)
        rw [show valV (kvF (names z.S) fun n => .bl (z.F.off n)) (kk (dot n)) = _ from (kvF_at (fun x hx => (Y.wpn x hx).gp) gn).trans (if_pos hmm)] at g
        exact g
      have g1 : ∀ {H' : Hp}, Same G H' → DGet H' B.M.m (kV (kk kBar)) (some (.int z.F.bar)) := fun s => DGet.k (k := kk kBar) (s _ _ m4)
      have g3 : ∀ {H' : Hp}, Same G H' → DGet H' B.M.m (kV (kk [111, 102, 102])) (some (.ref B.M.d3)) := fun s => DGet.k (k := kk [111, 102, 102]) (s _ _ m4)
      have ee : effC z.F.lv (chain (names z.S) n) = eff z.A z.S n := effC_congr fun x hx => (congrArg LP.lv (m.fl x (chain_in _ hmm x hx))).symm
      walk_at "sx"
      refine ⟨B.M.m, _, rfl, g1 s2, ?_⟩
      walk_at "sx"
      refine .a ⟨B.M.m, B.M.d1, _, _, names z.S, z.F.lv, n, rfl, s2 _ _ m4, rfl, s2 _ _ l4, D, hmm, fun H5 s5 => ?_⟩
      rw [ee]
      have s25 := s2.trans s5
      refine ⟨_, _, rfl, ?_⟩
      walk_at "sx"
      obtain ⟨lst, elst⟩ : ∃ x : Int, x = if eff z.A z.S n > z.F.bar + 1 then eff z.A z.S n else z.F.bar + 1 := ⟨_, rfl⟩
      have hle : ∀ y : Int, lst ≤ y ↔ (z.F.bar < y ∧ eff z.A z.S n ≤ y) := fun y => by
        rw [elst]
        split <;> omega
      rw [← elst]
      refine ⟨B.M.m, _, rfl, g1 s25, ?_⟩
      walk_at "sx"
      refine ⟨B.M.m, _, rfl, g1 s25, ?_⟩
      walk_at "sx"
      intro t3 ht3
      have sC : Same G (upd H5 t3 (.tup [.int z.F.bar, .int (z.F.bar + 1), .int (lst - 1), .int lst, .int 0, .int 1, .int 10, .int 30, .int 50])) := fun b u e => same_new ht3 _ _ (s25 _ _ e)
      have aC : upd H5 t3 (.tup [.int z.F.bar, .int (z.F.bar + 1), .int (lst - 1), .int lst, .int 0, .int 1, .int 10, .int 30, .int 50]) t3 = some (.tup [.int z.F.bar, .int (z.F.bar + 1), .int (lst - 1), .int lst, .int 0, .int 1, .int 10, .int 30, .int 50]) := upd_same
      refine ⟨t3, rfl, ⟨_, SqT.of aC⟩, ?_⟩
      generalize upd H5 t3 _ = HA at sC aC ⊢
      refine for_tupH (xs := [.int z.F.bar, .int (z.F.bar + 1), .int (lst - 1), .int lst, .int 0, .int 1, .int 10, .int 30, .int 50]) (fun i σ H2 => ∃ o5, σ = [some (.ref B.y), some (.ref B.kd), some (.ref B.M.m), some (.str (SX.S (dot n))), some (.int lst), o5] ∧ Same G H2 ∧ Same HA H2) ?_ ⟨_, rfl, sC, Same.refl _⟩ ?_ ?_
      · rintro i σ H2 ⟨o5, rfl, _, s2⟩
        exact s2 _ _ aC
      · rintro σ H2 ⟨o5, rfl, s2, _⟩
        have tB := t4.same (Same.t s2)
        obtain ⟨d, nm, hh, hf, hme, _⟩ := tB.ch hmm
        walk_at "sx"
        refine ⟨B.kd, _, rfl, kd' s2, ?_⟩
        walk_at "sx"
        refine ⟨B.M.m, _, rfl, g3 s2, ?_⟩
        walk_at "sx"
        refine ⟨B.M.d3, _, rfl, od' s2, ?_⟩
        walk_at "sx"
        refine .a ⟨.bl (z.F.off n), by rw [m.fl n hmm]; rfl, .inr ⟨_, rfl⟩, fun HC s3 => ?_⟩
        refine ⟨true, rfl, if_false_of rfl ?_⟩
        rw [hN]
        exact .a ⟨_, _, _, rfl, s2.trans s3⟩
      · rintro R3 j3 σ HB v ⟨o5, rfl, sD, sE⟩ hv3 N3 hN3
        obtain ⟨y, rfl⟩ : ∃ y : Int, v = .int y := by
          have := List.mem_of_getElem? hv3
          simp only [List.mem_cons, List.not_mem_nil, or_false] at this
          rcases this with rfl | rfl | rfl | rfl | rfl | rfl | rfl | rfl | rfl <;> exact ⟨_, rfl⟩
        have tB := t4.same (Same.t sD)
        obtain ⟨d, nm, hh, hf, hme, _⟩ := tB.ch hmm
        walk_at "sx"
        refine ⟨B.kd, _, rfl, kd' sD, ?_⟩
        walk_at "sx"
        refine .a ⟨z.A, z.S, n, y, rfl, hmm, tB, ?_⟩
        walk_at "sx"
        refine ⟨B.M.m, _, rfl, g3 sD, ?_⟩
        walk_at "sx"
        refine ⟨B.M.d3, _, rfl, od' sD, ?_⟩
        have eb : enB z.A z.S n y = (!z.F.off n && decide (lst ≤ y)) := by
          unfold enB
          rw [show dsOf z.A z.S n = z.F.off n from congrArg LP.ds (m.fl n hmm), ← m.fb]
          congr 1
          rw [Bool.eq_iff_iff]
          simp only [Bool.and_eq_true, decide_eq_true_eq]
          exact (hle y).symm
        rw [eb]
        walk_at "sx"
        cases ho : z.F.off n with
        | false =>
          refine if_true_of rfl ?_
          walk_at "sx"
          rw [show (!false && decide (lst ≤ y)) = decide (lst ≤ y) from Bool.true_and _]
          refine .a ⟨_, rfl, .inr ⟨_, rfl⟩, fun HC s2 => ?_⟩
          refine ⟨true, rfl, if_false_of rfl ?_⟩
          rw [hN3]
          exact .a ⟨_, rfl, sD.trans s2, sE.trans s2⟩
        | true =>
          refine if_false_of rfl ?_
          walk_at "sx"
          refine .a ⟨_, rfl, .inr ⟨_, rfl⟩, fun HC s2 => ?_⟩
          refine ⟨true, rfl, if_false_of rfl ?_⟩
          rw [hN3]
          exact .a ⟨_, rfl, sD.trans s2, sE.trans s2⟩
end
end My

namespace My
open PySem PySem.Spec PyProof.Rows L2 SuX LTr DN
local macro_rules | `(tactic| walk_at "hp") => `(tactic| first | assumption | exact upd_same | (refine Eq.trans (upd_ne (by first | assumption | (apply Ne.symm; assumption))) ?_; walk_at "hp"))
local macro_rules | `(tactic| walk_at "ixl") => `(tactic| (refine' ⟨_, ?xs, _, ?vv, rfl, rfl, SqL.of ?hh, ?aa, ?qq⟩; (case hh => walk_at "hp"); (case aa => rfl)))
local macro_rules | `(tactic| walk_at "setl") => `(tactic| (refine' ⟨_, ?xs, _, ?jj, rfl, rfl, ?hh, ?aa, ?qq⟩; (case hh => walk_at "hp"); (case aa => rfl)))
local macro_rules | `(tactic| walk_at "cond") => `(tactic| first | exact ⟨_, rfl⟩ | exact Nat.le_of_lt (small1000 (Nat.le_of_ble_eq_true rfl)) | decide | omega | (dsimp only; omega) | exact ⟨by decide, by decide⟩ | exact Or.inr ⟨by decide, by decide⟩ | exact Or.inl ⟨by decide, by decide⟩ | exact ⟨by decide, by decide, by decide⟩ | exact ⟨by omega, by omega⟩ | exact ⟨by omega, by omega, by omega⟩ | (simp only [List.length_cons, List.length_nil, List.length_append, List.length_take, List.length_drop]; omega) | (refine ⟨?_, ?_, ?_⟩ <;> first | decide | omega | (simp only [List.length_cons, List.length_nil, List.length_append, List.length_take, List.length_drop, Option.getD_some, Option.getD_none]; omega)))
local macro_rules | `(tactic| walk_at "st") => `(tactic| repeat (first | refine ⟨_, rfl, ?_⟩ | refine ⟨_, _, rfl, rfl, ?_⟩ | walk_at "ixl" | walk_at "setl" | refine ⟨rfl, ?_⟩ | refine Or.inl ⟨_, rfl, ?_⟩ | refine And.intro (by walk_at "cond") ?_))
local macro_rules | `(tactic| walk_at "cls") => `(tactic| first | exact OC.cl (by assumption) | exact (‹Txt _ _›).o_Clock.cl | exact (‹Txt _ _›).o_LevelTable.cl | exact (‹Txt _ _›).o_Store.cl | exact (‹Txt _ _›).o_Written.cl | exact (‹Txt _ _›).o_Roster.cl | exact (‹Txt _ _›).o_Handler.cl | exact (‹Txt _ _›).o_Logger.cl | exact (‹Txt _ _›).o_LoggerTree.cl | exact (‹Txt _ _›).o_StreamHandler.cl | exact (‹Txt _ _›).o_Yard.cl)
local macro_rules | `(tactic| walk_at "na") => `(tactic| first | (refine na_of (by assumption) ?_; decide) | (refine na_of (‹Txt _ _›).o_Clock ?_; decide) | (refine na_of (‹Txt _ _›).o_LevelTable ?_; decide) | (refine na_of (‹Txt _ _›).o_Store ?_; decide) | (refine na_of (‹Txt _ _›).o_Written ?_; decide) | (refine na_of (‹Txt _ _›).o_Roster ?_; decide) | (refine na_of (‹Txt _ _›).o_Handler ?_; decide) | (refine na_of (‹Txt _ _›).o_Logger ?_; decide) | (refine na_of (‹Txt _ _›).o_LoggerTree ?_; decide) | (refine na_of (‹Txt _ _›).o_StreamHandler ?_; decide) | (refine na_of (‹Txt _ _›).o_Yard ?_; decide))
local macro_rules | `(tactic| walk_at "fld") => `(tactic| (refine' ⟨_, _, _, _, ?vv, rfl, ?hh, ?cc, ?nn, ?ll, ?qq⟩; (case hh => walk_at "hp"); (case cc => walk_at "cls"); (case nn => walk_at "na"); (case ll => exact rfl)))
local macro_rules | `(tactic| walk_at "sto") => `(tactic| (refine' ⟨_, _, _, _, rfl, ?hh, ?cc, ?nn, ?ll, ?qq⟩; (case hh => walk_at "hp"); (case cc => walk_at "cls"); (case nn => walk_at "na"); (case ll => first | exact Nat.le_of_ble_eq_true rfl | assumption)))
local macro_rules | `(tactic| walk_at "mth") => `(tactic| (refine' ⟨_, _, _, rfl, ?hh, ?ll, ?qq⟩; (case hh => walk_at "hp"); (case ll => exact rfl)))
local macro_rules | `(tactic| walk_at "sx") => `(tactic| repeat (first | refine ⟨_, rfl, ?_⟩ | refine ⟨_, _, rfl, rfl, ?_⟩ | walk_at "ixl" | walk_at "setl" | refine ⟨rfl, ?_⟩ | refine Or.inl ⟨_, rfl, ?_⟩ | walk_at "fld" | walk_at "sto" | walk_at "mth" | refine And.intro (by walk_at "cond") ?_))
section
variable {P : Program} {w : World} {K : PySem.W.Frag} {mg : Str → Option Value} {base : Heap}
/-- a logger disabled, set free -/
def spSetDs (T : Txt K mg) : Sp := fun vs H Q _ => Hd (∃ (g dg : Addr) (fg : List (Str × V)) (v : V), vs = [.ref g, v] ∧ H g = some (.ins T.C_Logger dg fg) ∧ fg.length ≤ 20 ∧ Q .non (upd H g (.ins T.C_Logger dg (putF "disabled" v fg))))
theorem ok_setDs (T : Txt K mg) : FnOk P w K mg base CX0 1 T.a_Logger_setDisabled T.fd_Logger_setDisabled ["self", "flag"] (spSetDs T) := by
  refine T.F_Logger_setDisabled.ok sc_Logger_setDisabled (fun vs H Q E h => ?_) (fun cdv A outer s H vs Q E hr h => ?_)
  · obtain ⟨g, dg, fg, v, rfl, _⟩ := h.out
    rfl
  · obtain ⟨g, dg, fg, v, rfl, hg, zg, k⟩ := h.out
    refine ⟨_, (pss_one (ps_fld (pv 0) (pv 1) rfl)), ?_⟩
    walk_at "sx"
    exact ⟨g, T.C_Logger, dg, fg, rfl, hg, T.o_Logger.cl, T.o_Logger.na _ (by decide), by first | omega | exact Nat.le_trans zg (by decide), k⟩
/-- the bar set -/
def spDisT (T : Txt K mg) : Sp := fun vs H Q _ => Hd (∃ (t dt x dx a b : Addr) (ft : List (Str × V)) (kvs : List (Key × V)) (v : V) (i : Int), vs = [.ref t, v] ∧ H t = some (.ins T.C_LoggerTree dt ft) ∧ ft.lookup ("levels" : Str) = some (.ref x) ∧ ft.length ≤ 20 ∧
  H x = some (.ins T.C_LevelTable dx (fLv a b)) ∧ H b = some (.dK kvs) ∧ LvV kvs v i ∧ Q .non (upd H t (.ins T.C_LoggerTree dt (putF "barred" (.int i) ft))))
theorem ok_disT (T : Txt K mg) : FnOk P w K mg base (L2.CX P w) 4 T.a_LoggerTree_disable T.fd_LoggerTree_disable ["self", "level"] (spDisT T) := by
  have G_LevelTable_number : FnOk P w K mg base (L2.CX P w) 3 _ _ _ (spNumber T.C_LevelTable) := ok_number T
  refine T.F_LoggerTree_disable.ok sc_LoggerTree_disable (fun vs H Q E h => ?_) (fun cdv A outer s H vs Q E hr h => ?_)
  · obtain ⟨t, dt, x, dx, a, b, ft, kvs, v, i, rfl, _⟩ := h.out
    rfl
  · obtain ⟨t, dt, x, dx, a, b, ft, kvs, v, i, rfl, ht, lt, zt, hx, hb, c, k⟩ := h.out
    refine ⟨_, (pss_one (ps_fld (pv 0) (pe_meth (pe_fld (pv 0) rfl) T.o_LevelTable.cl T.Me_LevelTable_number G_LevelTable_number (hr.mono (by first | decide | omega)) T.b_LevelTable_number .nil (passes_call (takes_of rfl rfl rfl rfl) (fun _ _ _ _ h => h)) (pa_cons (pv 1) pa_nil)) rfl)), ?_⟩
    walk_at "sx"
    refine ⟨t, T.C_LoggerTree, dt, ft, _, rfl, ht, T.o_LoggerTree.cl, T.o_LoggerTree.na _ (by decide), lt, ?_⟩
    walk_at "sx"
    refine .a ⟨x, dx, a, b, kvs, v, i, rfl, hx, hb, c, ?_⟩
    walk_at "sx"
    exact ⟨t, T.C_LoggerTree, dt, ft, rfl, ht, T.o_LoggerTree.cl, T.o_LoggerTree.na _ (by decide), by first | omega | exact Nat.le_trans zt (by decide), k⟩
def spDisY (T : Txt K mg) : Sp := fun vs H Q _ => Hd (∃ (A : TA) (y dy dx a b : Addr) (fy : List (Str × V)) (kvs : List (Key × V)) (v : V) (i : Int), vs = [.ref y, v] ∧ H y = some (.ins T.C_Yard dy fy) ∧ fy.lookup ("tree" : Str) = some (.ref A.tr) ∧ H A.tr = some (.ins T.C_LoggerTree A.dtr (fTrG A)) ∧
  H A.lv = some (.ins T.C_LevelTable dx (fLv a b)) ∧ H b = some (.dK kvs) ∧ LvV kvs v i ∧ Q .non (upd H A.tr (.ins T.C_LoggerTree A.dtr (fTrG { A with bar := i }))))
theorem ok_disY (T : Txt K mg) : FnOk P w K mg base (L2.CX P w) 5 T.a_Yard_disable T.fd_Yard_disable ["self", "level"] (spDisY T) := by
  have G_LoggerTree_disable : FnOk P w K mg base (L2.CX P w) 4 _ _ _ (spDisT T) := ok_disT T
  refine T.F_Yard_disable.ok sc_Yard_disable (fun vs H Q E h => ?_) (fun cdv A outer s H vs Q E hr h => ?_)
  · obtain ⟨A, y, dy, dx, a, b, fy, kvs, v, i, rfl, _⟩ := h.out
    rfl
  · obtain ⟨A, y, dy, dx, a, b, fy, kvs, v, i, rfl, hy, ly, ht, hx, hb, c, k⟩ := h.out
    refine ⟨_, (pss_one (ps_expr (pe_meth (pe_fld (pv 0) rfl) T.o_LoggerTree.cl T.Me_LoggerTree_disable G_LoggerTree_disable (hr.mono (by first | decide | omega)) T.b_LoggerTree_disable .nil (passes_call (takes_of rfl rfl rfl rfl) (fun _ _ _ _ h => h)) (pa_cons (pv 1) pa_nil)))), ?_⟩
    walk_at "sx"
    refine ⟨y, T.C_Yard, dy, fy, _, rfl, hy, T.o_Yard.cl, T.o_Yard.na _ (by decide), ly, ?_⟩
    walk_at "sx"
    exact .a ⟨A.tr, A.dtr, A.lv, dx, a, b, _, kvs, v, i, rfl, ht, rfl, Nat.le_of_ble_eq_true rfl, hx, hb, c, k⟩
end
end My

namespace My
open PySem PySem.Spec PyProof.Rows L2 SuX LTr DN
local macro_rules | `(tactic| walk_at "hp") => `(tactic| first | assumption | exact upd_same | (refine Eq.trans (upd_ne (by first | assumption | (apply Ne.symm; assumption))) ?_; walk_at "hp"))
local macro_rules | `(tactic| walk_at "ixl") => `(tactic| (refine' ⟨_, ?xs, _, ?vv, rfl, rfl, SqL.of ?hh, ?aa, ?qq⟩; (case hh => walk_at "hp"); (case aa => rfl)))
local macro_rules | `(tactic| walk_at "setl") => `(tactic| (refine' ⟨_, ?xs, _, ?jj, rfl, rfl, ?hh, ?aa, ?qq⟩; (case hh => walk_at "hp"); (case aa => rfl)))
local macro_rules | `(tactic| walk_at "cond") => `(tactic| first | exact ⟨_, rfl⟩ | exact Nat.le_of_lt (small1000 (Nat.le_of_ble_eq_true rfl)) | decide | omega | (dsimp only; omega) | exact ⟨by decide, by decide⟩ | exact Or.inr ⟨by decide, by decide⟩ | exact Or.inl ⟨by decide, by decide⟩ | exact ⟨by decide, by decide, by decide⟩ | exact ⟨by omega, by omega⟩ | exact ⟨by omega, by omega, by omega⟩ | (simp only [List.length_cons, List.length_nil, List.length_append, List.length_take, List.length_drop]; omega) | (refine ⟨?_, ?_, ?_⟩ <;> first | decide | omega | (simp only [List.length_cons, List.length_nil, List.length_append, List.length_take, List.length_drop, Option.getD_some, Option.getD_none]; omega)))
local macro_rules | `(tactic| walk_at "st") => `(tactic| repeat (first | refine ⟨_, rfl, ?_⟩ | refine ⟨_, _, rfl, rfl, ?_⟩ | walk_at "ixl" | walk_at "setl" | refine ⟨rfl, ?_⟩ | refine Or.inl ⟨_, rfl, ?_⟩ | refine And.intro (by walk_at "cond") ?_))
local macro_rules | `(tactic| walk_at "cls") => `(tactic| first | exact OC.cl (by assumption) | exact (‹Txt _ _›).o_Clock.cl | exact (‹Txt _ _›).o_LevelTable.cl | exact (‹Txt _ _›).o_Store.cl | exact (‹Txt _ _›).o_Written.cl | exact (‹Txt _ _›).o_Roster.cl | exact (‹Txt _ _›).o_Handler.cl | exact (‹Txt _ _›).o_Logger.cl | exact (‹Txt _ _›).o_LoggerTree.cl | exact (‹Txt _ _›).o_StreamHandler.cl | exact (‹Txt _ _›).o_Yard.cl)
local macro_rules | `(tactic| walk_at "na") => `(tactic| first | (refine na_of (by assumption) ?_; decide) | (refine na_of (‹Txt _ _›).o_Clock ?_; decide) | (refine na_of (‹Txt _ _›).o_LevelTable ?_; decide) | (refine na_of (‹Txt _ _›).o_Store ?_; decide) | (refine na_of (‹Txt _ _›).o_Written ?_; decide) | (refine na_of (‹Txt _ _›).o_Roster ?_; decide) | (refine na_of (‹Txt _ _›).o_Handler ?_; decide) | (refine na_of (‹Txt _ _›).o_Logger ?_; decide) | (refine na_of (‹Txt _ _›).o_LoggerTree ?_; decide) | (refine na_of (‹Txt _ _›).o_StreamHandler ?_; decide) | (refine na_of (‹Txt _ _›).o_Yard ?_; decide))
local macro_rules | `(tactic| walk_at "fld") => `(tactic| (refine' ⟨_, _, _, _, ?vv, rfl, ?hh, ?cc, ?nn, ?ll, ?qq⟩; (case hh => walk_at "hp"); (case cc => walk_at "cls"); (case nn => walk_at "na"); (case ll => exact rfl)))
local macro_rules | `(tactic| walk_at "sto") => `(tactic| (refine' ⟨_, _, _, _, rfl, ?hh, ?cc, ?nn, ?ll, ?qq⟩; (case hh => walk_at "hp"); (case cc => walk_at "cls"); (case nn => walk_at "na"); (case ll => first | exact Nat.le_of_ble_eq_true rfl | assumption)))
local macro_rules | `(tactic| walk_at "mth") => `(tactic| (refine' ⟨_, _, _, rfl, ?hh, ?ll, ?qq⟩; (case hh => walk_at "hp"); (case ll => exact rfl)))
local macro_rules | `(tactic| walk_at "sx") => `(tactic| repeat (first | refine ⟨_, rfl, ?_⟩ | refine ⟨_, _, rfl, rfl, ?_⟩ | walk_at "ixl" | walk_at "setl" | refine ⟨rfl, ?_⟩ | refine Or.inl ⟨_, rfl, ?_⟩ | walk_at "fld" | walk_at "sto" | walk_at "mth" | refine And.intro (by walk_at "cond") ?_))
section
variable {P : Program} {w : World} {K : PySem.W.Frag} {mg : Str → Option Value} {base : Heap}
/-- a logger's level set -/
def spSetLv (T : Txt K mg) : Sp := fun vs H Q _ => Hd (∃ (g dg t dt x dx a b : Addr) (fg ft : List (Str × V)) (kvs : List (Key × V)) (v : V) (i : Int), vs = [.ref g, v] ∧ H g = some (.ins T.C_Logger dg fg) ∧ fg.lookup ("tree" : Str) = some (.ref t) ∧ fg.length ≤ 20 ∧ H t = some (.ins T.C_LoggerTree dt ft) ∧ ft.lookup ("levels" : Str) = some (.ref x) ∧
  H x = some (.ins T.C_LevelTable dx (fLv a b)) ∧ H b = some (.dK kvs) ∧ LvV kvs v i ∧ Q .non (upd H g (.ins T.C_Logger dg (putF "level" (.int i) fg))))
theorem ok_setLv (T : Txt K mg) : FnOk P w K mg base (L2.CX P w) 4 T.a_Logger_setLevel T.fd_Logger_setLevel ["self", "level"] (spSetLv T) := by
  have G_LevelTable_number : FnOk P w K mg base (L2.CX P w) 3 _ _ _ (spNumber T.C_LevelTable) := ok_number T
  refine T.F_Logger_setLevel.okX sc_Logger_setLevel (fun vs H Q E h => ?_) (fun cdv A outer s H vs Q E hr h => ?_)
  · obtain ⟨g, dg, t, dt, x, dx, a, b, fg, ft, kvs, v, i, rfl, _⟩ := h.out
    rfl
  · obtain ⟨g, dg, t, dt, x, dx, a, b, fg, ft, kvs, v, i, rfl, hg, lg, zg, ht, lt, hx, hb, c, k⟩ := h.out
    refine ⟨_, (pss_one (ps_fld (pv 0) (pe_meth (pe_fld (pe_fld (pv 0) rfl) rfl) T.o_LevelTable.cl T.Me_LevelTable_number G_LevelTable_number (hr.mono (by first | decide | omega)) T.b_LevelTable_number .nil (passes_call (takes_of rfl rfl rfl rfl) (fun _ _ _ _ h => h)) (pa_cons (pv 1) pa_nil)) rfl)), ?_⟩
    walk_at "sx"
    refine ⟨g, T.C_Logger, dg, fg, _, rfl, hg, T.o_Logger.cl, T.o_Logger.na _ (by decide), lg, ?_⟩
    walk_at "sx"
    refine ⟨t, T.C_LoggerTree, dt, ft, _, rfl, ht, T.o_LoggerTree.cl, T.o_LoggerTree.na _ (by decide), lt, ?_⟩
    walk_at "sx"
    refine .a ⟨x, dx, a, b, kvs, v, i, rfl, hx, hb, c, ?_⟩
    walk_at "sx"
    exact ⟨g, T.C_Logger, dg, fg, rfl, hg, T.o_Logger.cl, T.o_Logger.na _ (by decide), by first | omega | exact Nat.le_trans zg (by decide), k⟩
end
end My

namespace My
open PySem PySem.Spec PyProof.Rows L2 SuX LTr DN
local macro_rules | `(tactic| walk_at "hp") => `(tactic| first | assumption | exact upd_same | (refine Eq.trans (upd_ne (by first | assumption | (apply Ne.symm; assumption))) ?_; walk_at "hp"))
local macro_rules | `(tactic| walk_at "ixl") => `(tactic| (refine' ⟨_, ?xs, _, ?vv, rfl, rfl, SqL.of ?hh, ?aa, ?qq⟩; (case hh => walk_at "hp"); (case aa => rfl)))
local macro_rules | `(tactic| walk_at "setl") => `(tactic| (refine' ⟨_, ?xs, _, ?jj, rfl, rfl, ?hh, ?aa, ?qq⟩; (case hh => walk_at "hp"); (case aa => rfl)))
local macro_rules | `(tactic| walk_at "cond") => `(tactic| first | exact ⟨_, rfl⟩ | exact Nat.le_of_lt (small1000 (Nat.le_of_ble_eq_true rfl)) | decide | omega | (dsimp only; omega) | exact ⟨by decide, by decide⟩ | exact Or.inr ⟨by decide, by decide⟩ | exact Or.inl ⟨by decide, by decide⟩ | exact ⟨by decide, by decide, by decide⟩ | exact ⟨by omega, by omega⟩ | exact ⟨by omega, by omega, by omega⟩ | (simp only [List.length_cons, List.length_nil, List.length_append, List.length_take, List.length_drop]; omega) | (refine ⟨?_, ?_, ?_⟩ <;> first | decide | omega | (simp only [List.length_cons, List.length_nil, List.length_append, List.length_take, List.length_drop, Option.getD_some, Option.getD_none]; omega)))
local macro_rules | `(tactic| walk_at "st") => `(tactic| repeat (first | refine ⟨_, rfl, ?_⟩ | refine ⟨_, _, rfl, rfl, ?_⟩ | walk_at "ixl" | walk_at "setl" | refine ⟨rfl, ?_⟩ | refine Or.inl ⟨_, rfl, ?_⟩ | refine And.intro (by walk_at "cond") ?_))
local macro_rules | `(tactic| walk_at "cls") => `(tactic| first | exact OC.cl (by assumption) | exact (‹Txt _ _›).o_Clock.cl | exact (‹Txt _ _›).o_LevelTable.cl | exact (‹Txt _ _›).o_Store.cl | exact (‹Txt _ _›).o_Written.cl | exact (‹Txt _ _›).o_Roster.cl | exact (‹Txt _ _›).o_Handler.cl | exact (‹Txt _ _›).o_Logger.cl | exact (‹Txt _ _›).o_LoggerTree.cl | exact (‹Txt _ _›).o_StreamHandler.cl | exact (‹Txt _ _›).o_Yard.cl)
local macro_rules | `(tactic| walk_at "na") => `(tactic| first | (refine na_of (by assumption) ?_; decide) | (refine na_of (‹Txt _ _›).o_Clock ?_; decide) | (refine na_of (‹Txt _ _›).o_LevelTable ?_; decide) | (refine na_of (‹Txt _ _›).o_Store ?_; decide) | (refine na_of (‹Txt _ _›).o_Written ?_; decide) | (refine na_of (‹Txt _ _›).o_Roster ?_; decide) | (refine na_of (‹Txt _ _›).o_Handler ?_; decide) | (refine na_of (‹Txt _ _›).o_Logger ?_; decide) | (refine na_of (‹Txt _ _›).o_LoggerTree ?_; decide) | (refine na_of (‹Txt _ _›).o_StreamHandler ?_; decide) | (refine na_of (‹Txt _ _›).o_Yard ?_; decide))
local macro_rules | `(tactic| walk_at "fld") => `(tactic| (refine' ⟨_, _, _, _, ?vv, rfl, ?hh, ?cc, ?nn, ?ll, ?qq⟩; (case hh => walk_at "hp"); (case cc => walk_at "cls"); (case nn => walk_at "na"); (case ll => exact rfl)))
local macro_rules | `(tactic| walk_at "sto") => `(tactic| (refine' ⟨_, _, _, _, rfl, ?hh, ?cc, ?nn, ?ll, ?qq⟩; (case hh => walk_at "hp"); (case cc => walk_at "cls"); (case nn => walk_at "na"); (case ll => first | exact Nat.le_of_ble_eq_true rfl | assumption)))
local macro_rules | `(tactic| walk_at "mth") => `(tactic| (refine' ⟨_, _, _, rfl, ?hh, ?ll, ?qq⟩; (case hh => walk_at "hp"); (case ll => exact rfl)))
local macro_rules | `(tactic| walk_at "sx") => `(tactic| repeat (first | refine ⟨_, rfl, ?_⟩ | refine ⟨_, _, rfl, rfl, ?_⟩ | walk_at "ixl" | walk_at "setl" | refine ⟨rfl, ?_⟩ | refine Or.inl ⟨_, rfl, ?_⟩ | walk_at "fld" | walk_at "sto" | walk_at "mth" | refine And.intro (by walk_at "cond") ?_))
theorem yes_if {σ : L2.St} {H : Hp} {A B : Hp → Prop} (h : A H) : tYes σ H (fun b H3 => if b = true then A H3 else B H3) := by
  show (if true = true then A H else B H)
  rw [if_pos rfl]
  exact h
theorem ix_listK {X : Cx} {K : PySem.W.Frag} (hK : X.K = K) : IxR X (rIxL K) := hK ▸ ix_list
def nmA : Nm := [[97]]
def NAMES6 : List Nm := [[], [[97]], [[97], [98]], [[98]], [[97], [98], [99]], [[97, 98]]]
theorem name6 : ∀ x ∈ NAMES6, x = [] ∨ WP x ∧ dot x ≠ sRoot := by
  intro x hx
  simp only [NAMES6, List.mem_cons, List.not_mem_nil, or_false] at hx
  rcases hx with rfl | rfl | rfl | rfl | rfl | rfl
  · exact .inl rfl
  all_goals exact .inr ⟨⟨by decide, by decide, by decide⟩, by decide⟩
theorem if_mid {c : Bool} {tA tB : TS} {D : Ends} {σ : L2.St} {H : Hp} (Mid : L2.St → Hp → Prop) (h2 : ∀ σ' H', Mid σ' H' → D.nx σ' H') (h1 : ∀ R : L2.St → Hp → Prop, (∀ σ' H', Mid σ' H' → R σ' H') → c = true → tA { nx := R, rt := D.rt, bk := D.bk, ct := D.ct } σ H)
    (h3 : ∀ R : L2.St → Hp → Prop, (∀ σ' H', Mid σ' H' → R σ' H') → c = false → tB { nx := R, rt := D.rt, bk := D.bk, ct := D.ct } σ H) : if c = true then tA D σ H else tB D σ H := by
  cases c with
  | true => exact h1 D.nx h2 rfl
  | false => exact h3 D.nx h2 rfl
theorem upF_self {α : Type} {f : Nm → α} {n : Nm} : upF f n (f n) = f := by
  funext x
  unfold upF
  by_cases h : x = n
  · rw [if_pos h, h]
  · rw [if_neg h]
def SOME : List V := [.int 0, .int 9, .int 10, .int 29, .int 30, .int 50, .int (-3), .int 60, .str (SX.S [87, 65, 82, 78]), .str (SX.S [78, 79, 84, 83, 69, 84]), .str (SX.S [67, 82, 73, 84, 73, 67, 65, 76])]
def D3 : List (Key × V) := [(.inr (SX.S [87, 65, 82, 78]), .int 30), (.inr (SX.S [78, 79, 84, 83, 69, 84]), .int 0), (.inr (SX.S [67, 82, 73, 84, 73, 67, 65, 76]), .int 50)]
theorem some3 : ∀ v ∈ SOME, ∃ (k : Key) (i : Int), v = kV k ∧ (valV D3 k).getD v = .int i ∧ LvV firstNumbers v i := by
  intro v hv
  simp only [SOME, List.mem_cons, List.not_mem_nil, or_false] at hv
  rcases hv with rfl | rfl | rfl | rfl | rfl | rfl | rfl | rfl | rfl | rfl | rfl
  iterate 8 exact ⟨.inl _, _, rfl, rfl, .inl rfl⟩
  · exact ⟨.inr _, 30, rfl, by decide, .inr ⟨_, rfl, by decide⟩⟩
  · exact ⟨.inr _, 0, rfl, by decide, .inr ⟨_, rfl, by decide⟩⟩
  · exact ⟨.inr _, 50, rfl, by decide, .inr ⟨_, rfl, by decide⟩⟩
theorem YM.bar {z : YS} (m : YM z) (i : Int) : YM { z with A := { z.A with bar := i }, F := z.F.setBar i } := ⟨m.ms, fun x hx => m.fl x hx, rfl⟩
theorem atI2 {f : Nat → V} {j : Nat} (h : j < 2) : atI [f 0, f 1] (j : Int) = some (f j) := by
  match j, h with
  | 0, _ => rfl
  | 1, _ => rfl
theorem atI2z {f : Nat → V} {j : Nat} (h : j < 2) : atI [f 0, f 1] (0 + (j : Int)) = some (f j) := by
  rw [Int.zero_add]; exact atI2 h
theorem upN_up {α : Type} {f : Nat → α} {k : Nat} {a b : α} : upN (upN f k a) k b = upN f k b := by
  funext j
  unfold upN
  by_cases h : j = k
  · rw [if_pos h, if_pos h]
  · rw [if_neg h, if_neg h, if_neg h]
theorem upN_self {α : Type} {f : Nat → α} {k : Nat} : upN f k (f k) = f := by
  funext j
  unfold upN
  by_cases h : j = k
  · rw [if_pos h, h]
  · rw [if_neg h]
structure LS {K : PySem.W.Frag} {mg : Str → Option Value} (T : Txt K mg) (H : Hp) (p q : Addr) (n : Int) (ly lt D : Addr) (B : Nat → YB) (Z : Nat → YS) : Prop where
  w : WJ T H p q n 2 B Z
  hy : H ly = some (.lst [.ref (B 0).y, .ref (B 1).y])
  ht : H lt = some (.lst [.ref (B 0).M.m, .ref (B 1).M.m])
  hd : H D = some (.lst [.ref (B 0).kd, .ref (B 1).kd])
  np : ∀ b ∈ [ly, lt, D], b ≠ p ∧ b ≠ q
section
variable {K : PySem.W.Frag} {mg : Str → Option Value} {T : Txt K mg} {H H' : Hp} {p q : Addr} {n n' : Int} {ly lt D : Addr} {B : Nat → YB} {Z : Nat → YS} {k : Nat} {z z' : YS}
theorem LS.xt (l : LS T H p q n ly lt D B Z) (S' : Stm H' p q n') (x : Xt H H' p q) : LS T H' p q n' ly lt D B Z := by
  obtain ⟨a1, a2⟩ := l.np ly (by simp)
  obtain ⟨b1, b2⟩ := l.np lt (by simp)
  obtain ⟨c1, c2⟩ := l.np D (by simp)
  exact ⟨l.w.xt S' x, x.at l.hy a1 a2, x.at l.ht b1 b2, x.at l.hd c1 c2, l.np⟩
theorem LS.same (l : LS T H p q n ly lt D B Z) (s : Same H H') : LS T H' p q n ly lt D B Z := l.xt (l.w.st.same s) (Xt.same s)
theorem LS.y (l : LS T H p q n ly lt D B (upN Z k z)) (hk : k < 2) : YJ T H (B k) z := by
  have := l.w.yj k hk
  rwa [upN_same] at this
theorem LS.own {X : List Addr} (l : LS T H p q n ly lt D B (upN Z k z)) (hk : k < 2) (c : YJ T H' (B k) z' ∧ Own H H' (B k) z z' X) : LS T H' p q n ly lt D B (upN Z k z') := by
  have Y := l.y hk
  obtain ⟨y, o⟩ := c
  have w := l.w.own hk (z' := z') y (by rw [upN_same]; exact o)
  rw [upN_up] at w
  exact ⟨w, lst_own Y o l.hy, lst_own Y o l.ht, lst_own Y o l.hd, l.np⟩
end
section
variable {P : Program} {w : World} {K : PySem.W.Frag} {mg : Str → Option Value} {base : Heap}
def spLaw (K : PySem.W.Frag) (PP PD : Addr) : Sp := fun vs H Q _ => Hd (∃ (a : Addr) (cs : List Int), vs = [.ref a] ∧ SqL K H a (cs.map V.int) ∧ GxR.TabG H PP ∧ GxR.TabG H PD ∧ ∀ H', Q (.bl true) H')
theorem ok_law (T : Txt K mg) (Z : Dct P w K mg T) (TP : GxR.TabB base mg T.cP T.PP) (TD : GxR.TabB base mg T.cD T.PD) : FnOk P w K mg base CX0 9 T.f_law T.fd_law ["_law_script"] (spLaw K T.PP T.PD) := by
  have G__law_draw : FnOk P w K mg base CX0 1 _ _ _ spDraw := ok_draw T
  have G__law_pick : FnOk P w K mg base CX0 2 _ _ _ spPick := ok_pick T
  have G__law_tree : FnOk P w K mg base CX0 1 _ _ _ spLTree := ok_ltree T
  have G__law_made : FnOk P w K mg base CX0 1 _ _ _ spMadeU := ok_madeU T
  have G__law_are_right : FnOk P w K mg base CX0 4 _ _ _ (spRightB T) := ok_rightB T
  have G_Yard : FnOk P w K mg base CX0 5 _ _ _ (spYard T) := ok_yard T Z
  have G_Yard_getLogger : FnOk P w K mg base (L2.CX P w) 8 _ _ _ (spGetU T) := ok_getU T TP TD
  have G_Yard_disable : FnOk P w K mg base (L2.CX P w) 5 _ _ _ (spDisY T) := ok_disY T
  have G_Logger_setLevel : FnOk P w K mg base (L2.CX P w) 4 _ _ _ (spSetLv T) := ok_setLv T
  have G_Logger_setDisabled : FnOk P w K mg base CX0 1 _ _ _ (spSetDs T) := ok_setDs T
  obtain ⟨dsY, hdY, hbY⟩ := T.dd_Yard_init
  obtain ⟨dsD, hdD, hbD⟩ := T.dd_Yard_disable
  refine T.D_law.F.ok sc_law (fun vs H Q E h => ?_) (fun cdv A outer s H vs Q E hr h => ?_)
  · obtain ⟨a, cs, rfl, _⟩ := h.out
    rfl
  · obtain ⟨a, cs, rfl, ha, tP, tD, k⟩ := h.out
    have hu := hu_of hr
    refine ⟨_, (pss_cons (ps_set (i := 1) sc_law.nd rfl (by first | exact Or.inl rfl | exact Or.inr rfl) (pe_lst (pa_cons (pe_callTy call_list_of (by rfl) T.B.n_list (by decide +kernel) (pa_cons (pv 0) pa_nil)) (pa_cons pe_int (pa_cons pe_int (pa_cons pe_int pa_nil))))))
  (pss_cons (ps_asg (pe_tup (pa_cons (pe_lst (pa_cons (pe_make0 T.M_Yard G_Yard (hr.mono (by first | decide | omega)) rfl T.g_Yard hbY hdY pass0) (pa_cons (pe_make0 T.M_Yard G_Yard (hr.mono (by first | decide | omega)) rfl T.g_Yard hbY hdY pass0) pa_nil))) (pa_cons (pe_lst (pa_cons (pe_call0 G__law_tree (hr.mono (by first | decide | omega)) rfl T.D__law_tree.g T.D__law_tree.F.kp T.D__law_tree.b .nil pass0) (pa_cons (pe_call0 G__law_tree (hr.mono (by first | decide | omega)) rfl T.D__law_tree.g T.D__law_tree.F.kp T.D__law_tree.b .nil pass0) pa_nil))) pa_nil))) (pg_tup rfl (pgs_cons (pg_name (i := 2) sc_law.nd rfl (by first | exact Or.inl rfl | exact Or.inr rfl)) (pgs_cons (pg_name (i := 3) sc_law.nd rfl (by first | exact Or.inl rfl | exact Or.inr rfl)) pgs_nil))))
  (pss_cons (ps_set (i := 4) sc_law.nd rfl (by first | exact Or.inl rfl | exact Or.inr rfl) (pe_lc (own := [("_law_yard", 8)]) (g := gName 8) rfl sc_law.nd (pi_list (pv 2)) (blkOk_by (N := ["_law_script", "_law_s", "_law_yards", "_law_trees", "_law_known", "_law_turn", "_law_at", "_law_way", "_law_yard", "_law_m", "_law_name", "_law_some", "_law_given", "_law_k"]) (sc := defScope s_law) (by decide +kernel)) (fun _ _ _ _ _ => (pg_name (i := 8) sc_law.nd rfl (by first | exact Or.inl rfl | exact Or.inr rfl))) (fun _ _ _ _ _ => pts_nil) (fun _ _ _ _ _ => (pe_disp (pps_cons (SL.pe_strL [] (by decide +kernel)) (pe_fldK (K := K) rfl (pv 8) rfl) pps_nil) rfl rfl (List.cons_ne_nil _ _) (by decide)))))
  (pss_cons (ps_for PassesOwn.never rfl (pi_range1 rfl T.B.n_range (pa_cons (pe_op op_add pe_int (pe_call G__law_draw (hr.mono (by first | decide | omega)) rfl T.D__law_draw.g T.D__law_draw.F.kp T.D__law_draw.b .nil pass0 (pa_cons (pv 1) (pa_cons pe_int pa_nil)))) pa_nil)) (pg_name (i := 5) sc_law.nd rfl (by first | exact Or.inl rfl | exact Or.inr rfl))
    (pss_cons (ps_par (i := 6) (j := 7) rfl sc_law.nd rfl rfl (by decide) rfl rfl (pa_cons (pe_call G__law_draw (hr.mono (by first | decide | omega)) rfl T.D__law_draw.g T.D__law_draw.F.kp T.D__law_draw.b .nil pass0 (pa_cons (pv 1) (pa_cons pe_int pa_nil))) (pa_cons (pe_call G__law_draw (hr.mono (by first | decide | omega)) rfl T.D__law_draw.g T.D__law_draw.F.kp T.D__law_draw.b .nil pass0 (pa_cons (pv 1) (pa_cons pe_int pa_nil))) pa_nil)) rfl)
  (pss_cons (ps_par (i := 8) (j := 9) rfl sc_law.nd rfl rfl (by decide) rfl rfl (pa_cons (pe_ix ix_list (pv 2) (pv 6) (fun _ _ => rfl)) (pa_cons (pe_ix ix_list (pv 3) (pv 6) (fun _ _ => rfl)) pa_nil)) rfl)
  (pss_cons (ps_set (i := 10) sc_law.nd rfl (by first | exact Or.inl rfl | exact Or.inr rfl) (pe_call G__law_pick (hr.mono (by first | decide | omega)) rfl T.D__law_pick.g T.D__law_pick.F.kp T.D__law_pick.b .nil pass0 (pa_cons (pv 1) (pa_cons (pe_lst (pa_cons (SL.pe_strL [] (by decide +kernel)) (pa_cons (SL.pe_strL [97] (by decide +kernel)) (pa_cons (SL.pe_strL [97, 46, 98] (by decide +kernel)) (pa_cons (SL.pe_strL [98] (by decide +kernel)) (pa_cons (SL.pe_strL [97, 46, 98, 46, 99] (by decide +kernel)) (pa_cons (SL.pe_strL [97, 98] (by decide +kernel)) pa_nil))))))) pa_nil))))
  (pss_cons (ps_dput hu (pe_ix ix_list (pv 4) (pv 6) (fun _ _ => rfl)) (pv 10) (pe_meth (pv 8) T.o_Yard.cl T.Me_Yard_getLogger G_Yard_getLogger (hr.mono (by first | decide | omega)) T.b_Yard_getLogger .nil passes_no (pa_cons (pv 10) pa_nil)) rfl)
  (pss_cons (ps_expr (pe_call G__law_made (hr.mono (by first | decide | omega)) rfl T.D__law_made.g T.D__law_made.F.kp T.D__law_made.b .nil pass0 (pa_cons (pv 9) (pa_cons (pv 10) pa_nil))))
  (pss_cons (ps_if (pt_cmpR op_lt (pv 7) pe_int (nomark _))
    (pss_cons (ps_set (i := 11) sc_law.nd rfl (by first | exact Or.inl rfl | exact Or.inr rfl) (pe_lst (pa_cons pe_int (pa_cons pe_int (pa_cons pe_int (pa_cons pe_int (pa_cons pe_int (pa_cons pe_int (pa_cons (pe_un un_neg pe_int) (pa_cons pe_int (pa_cons (SL.pe_strL [87, 65, 82, 78] (by decide +kernel)) (pa_cons (SL.pe_strL [78, 79, 84, 83, 69, 84] (by decide +kernel)) (pa_cons (SL.pe_strL [67, 82, 73, 84, 73, 67, 65, 76] (by decide +kernel)) pa_nil)))))))))))))
  (pss_cons (ps_set (i := 12) sc_law.nd rfl (by first | exact Or.inl rfl | exact Or.inr rfl) (pe_call G__law_pick (hr.mono (by first | decide | omega)) rfl T.D__law_pick.g T.D__law_pick.F.kp T.D__law_pick.b .nil pass0 (pa_cons (pv 1) (pa_cons (pv 11) pa_nil))))
  (pss_cons (ps_dput hu (pv 9) (SL.pe_strL [98, 97, 114] (by decide +kernel)) (pe_dget2 hu (pe_disp (pps_cons (SL.pe_strL [87, 65, 82, 78] (by decide +kernel)) pe_int (pps_cons (SL.pe_strL [78, 79, 84, 83, 69, 84] (by decide +kernel)) pe_int (pps_cons (SL.pe_strL [67, 82, 73, 84, 73, 67, 65, 76] (by decide +kernel)) pe_int pps_nil))) rfl rfl (List.cons_ne_nil _ _) (by decide)) (pv 12) (pv 12) ⟨rfl, rfl, rfl, rfl⟩) rfl)
  (pss_one (ps_expr (pe_meth (pv 8) T.o_Yard.cl T.Me_Yard_disable G_Yard_disable (hr.mono (by first | decide | omega)) T.b_Yard_disable .nil passes_no (pa_cons (pv 12) pa_nil)))))))
    (pss_one (ps_if (pt_cmpR op_eq (pv 7) pe_int (nomark _))
    (pss_cons (ps_dput hu (pv 9) (SL.pe_strL [98, 97, 114] (by decide +kernel)) pe_int rfl)
  (pss_one (ps_expr (pe_meth0 (pv 8) T.o_Yard.cl T.Me_Yard_disable G_Yard_disable (hr.mono (by first | decide | omega)) hbD hdD passes_no))))
    (pss_one (ps_if (pt_cmpR op_lt (pv 7) pe_int (nomark _))
    (pss_cons (ps_dput hu (pe_dget hu (pv 9) (SL.pe_strL [111, 102, 102] (by decide +kernel)) (fun _ _ => rfl)) (pv 10) (pe_cmpR op_eq (pe_call G__law_draw (hr.mono (by first | decide | omega)) rfl T.D__law_draw.g T.D__law_draw.F.kp T.D__law_draw.b .nil pass0 (pa_cons (pv 1) (pa_cons pe_int pa_nil))) pe_int (nomark _)) rfl)
  (pss_one (ps_expr (pe_meth (pe_dget hu (pe_ix ix_list (pv 4) (pv 6) (fun _ _ => rfl)) (pv 10) (fun _ _ => rfl)) T.o_Logger.cl T.Me_Logger_setDisabled G_Logger_setDisabled (hr.mono (by first | decide | omega)) T.b_Logger_setDisabled .nil pass0 (pa_cons (pe_dget hu (pe_dget hu (pv 9) (SL.pe_strL [111, 102, 102] (by decide +kernel)) (fun _ _ => rfl)) (pv 10) (fun _ _ => rfl)) pa_nil)))))
    (pss_cons (ps_dput hu (pe_dget hu (pv 9) (SL.pe_strL [108, 101, 118, 101, 108, 115] (by decide +kernel)) (fun _ _ => rfl)) (pv 10) (pe_call G__law_pick (hr.mono (by first | decide | omega)) rfl T.D__law_pick.g T.D__law_pick.F.kp T.D__law_pick.b .nil pass0 (pa_cons (pv 1) (pa_cons (pe_lst (pa_cons pe_int (pa_cons pe_int (pa_cons pe_int (pa_cons pe_int (pa_cons pe_int pa_nil)))))) pa_nil))) rfl)
  (pss_one (ps_expr (pe_meth (pe_dget hu (pe_ix ix_list (pv 4) (pv 6) (fun _ _ => rfl)) (pv 10) (fun _ _ => rfl)) T.o_Logger.cl T.Me_Logger_setLevel G_Logger_setLevel (hr.mono (by first | decide | omega)) T.b_Logger_setLevel .nil passes_no (pa_cons (pe_dget hu (pe_dget hu (pv 9) (SL.pe_strL [108, 101, 118, 101, 108, 115] (by decide +kernel)) (fun _ _ => rfl)) (pv 10) (fun _ _ => rfl)) pa_nil))))))))))
  (pss_one (ps_if (pt_not (pt_val (pe_callB (cr_all rfl) (by rfl) T.B.n_all (by decide +kernel) (pa_cons (pe_lc (own := [("_law_k", 13)]) (g := gName 13) rfl sc_law.nd (pi_range1 rfl T.B.n_range (pa_cons pe_int pa_nil)) (blkOk_by (N := ["_law_script", "_law_s", "_law_yards", "_law_trees", "_law_known", "_law_turn", "_law_at", "_law_way", "_law_yard", "_law_m", "_law_name", "_law_some", "_law_given", "_law_k"]) (sc := defScope s_law) (by decide +kernel)) (fun _ _ _ _ _ => (pg_name (i := 13) sc_law.nd rfl (by first | exact Or.inl rfl | exact Or.inr rfl))) (fun _ _ _ _ _ => pts_nil) (fun _ _ _ _ _ => (pe_call G__law_are_right (hr.mono (by first | decide | omega)) rfl T.D__law_are_right.g T.D__law_are_right.F.kp T.D__law_are_right.b .nil pass0 (pa_cons (pe_ix (ix_listK (K := K) rfl) (pv 2) (pv 13) (fun _ _ => rfl)) (pa_cons (pe_ix (ix_listK (K := K) rfl) (pv 4) (pv 13) (fun _ _ => rfl)) (pa_cons (pe_ix (ix_listK (K := K) rfl) (pv 3) (pv 13) (fun _ _ => rfl)) pa_nil)))))) pa_nil))))
    (pss_one (ps_ret pe_bl))
    pss_nil)))))))))
  (pss_one (ps_ret pe_bl)))))), ?_⟩
    walk_at "sx"
    refine ⟨a, cs.map V.int, rfl, .inl ha, fun q hq => ?_⟩
    walk_at "sx"
    intro p hp
    have qp : q ≠ p := fun z => by rw [z, upd_same] at hp; cases hp
    have e1 : upd (upd H q (.lst (cs.map V.int))) p (.lst [.ref q, .int 0, .int 0, .int 0]) p = some (.lst [.ref q, .int 0, .int 0, .int 0]) := upd_same
    have e2 : upd (upd H q (.lst (cs.map V.int))) p (.lst [.ref q, .int 0, .int 0, .int 0]) q = some (.lst (cs.map V.int)) := by rw [upd_ne qp]; exact upd_same
    have s01 : Same H (upd (upd H q (.lst (cs.map V.int))) p (.lst [.ref q, .int 0, .int 0, .int 0])) := fun b u e => same_new hp _ _ (same_new hq _ _ e)
    generalize upd (upd H q (.lst (cs.map V.int))) p (.lst [.ref q, .int 0, .int 0, .int 0]) = H1 at e1 e2 s01 ⊢
    have S1 : Stm H1 p q 0 := ⟨⟨cs, 0, 0, ⟨e1, e2, by decide, by decide, by decide⟩⟩, by decide, by decide⟩
    have tP1 := (Same.t s01).tab tP
    have tD1 := (Same.t s01).tab tD
    intro y0 dy0 c1 c2 c3
    refine .a ⟨y0, dy0, .int 0, rfl, upd_same, fun H2 Y0 tk0 hy0 => ?_⟩
    have lf0 : ∀ b u, H1 b = some u → H2 b = some u := fun b u e => tk0.same _ _ (neN e c1) (mkH_old c1 c2 e)
    refine ⟨rfl, ?_⟩
    intro y1 dy1 g1 g2 g3
    refine .a ⟨y1, dy1, .int 0, rfl, upd_same, fun H3 Y1 tk1 hy1 => ?_⟩
    have lf1 : ∀ b u, H2 b = some u → H3 b = some u := fun b u e => tk1.same _ _ (neN e g1) (mkH_old g1 g2 e)
    refine ⟨rfl, ?_⟩
    walk_at "sx"
    intro ly hly
    have hy0' := lf1 _ _ hy0
    have s34 : Same H3 (upd H3 ly (.lst [.ref y0, .ref y1])) := same_new hly
    have hly4 : upd H3 ly (.lst [.ref y0, .ref y1]) ly = some (.lst [.ref y0, .ref y1]) := upd_same
    generalize upd H3 ly (.lst [.ref y0, .ref y1]) = H4 at s34 hly4 ⊢
    walk_at "sx"
    refine .a ⟨rfl, fun H5 m0 d01 d02 d03 d04 d05 l04 l05 lh0 dt0 u0 ou0 L5 => ?_⟩
    walk_at "sx"
    refine .a ⟨rfl, fun H6 m1 d11 d12 d13 d14 d15 l14 l15 lh1 dt1 u1 ou1 L6 => ?_⟩
    walk_at "sx"
    intro lt hlt
    have s67 : Same H6 (upd H6 lt (.lst [.ref m0, .ref m1])) := same_new hlt
    have hlt7 : upd H6 lt (.lst [.ref m0, .ref m1]) lt = some (.lst [.ref m0, .ref m1]) := upd_same
    generalize upd H6 lt (.lst [.ref m0, .ref m1]) = H7 at s67 hlt7 ⊢
    walk_at "sx"
    intro tp htp
    have s78 : Same H7 (upd H7 tp (.tup [.ref ly, .ref lt])) := same_new htp
    have htp8 : upd H7 tp (.tup [.ref ly, .ref lt]) tp = some (.tup [.ref ly, .ref lt]) := upd_same
    generalize upd H7 tp (.tup [.ref ly, .ref lt]) = H8 at s78 htp8 ⊢
    refine ⟨tp, _, rfl, SqT.of htp8, rfl, ?_⟩
    refine ⟨_, _, rfl, _, _, rfl, rfl, ?_⟩
    have s48 : Same H4 H8 := fun b u e => s78 _ _ (s67 _ _ (L6.sm _ _ (L5.sm _ _ e)))
    have s38 : Same H3 H8 := s34.trans s48
    have ly8 := s48 _ _ hly4
    have hy08 := s38 _ _ hy0'
    have hy18 := s38 _ _ hy1
    walk_at "sx"
    refine ⟨⟨_, SqL.of ly8⟩, fun D hD => ?_⟩
    refine lc_listN (xs := [.ref y0, .ref y1]) (fun i H' => Same H8 H' ∧ ∃ ks : List Addr, ks.length = i ∧ H' D = some (.lst (ks.map V.ref)) ∧ ks.Nodup ∧ (∀ k ∈ ks, H8 k = none ∧ k ≠ D) ∧ ∀ (j : Nat) (k r : Addr), ks[j]? = some k → [Y0.rt, Y1.rt][j]? = some r → H' k = some (.dK (kvR r [])))
      ⟨same_new hD, [], rfl, upd_same, List.nodup_nil, fun _ h => absurd h List.not_mem_nil, fun _ _ _ h => by cases h⟩ (fun i H' _ h => SqL.of (h.1 _ _ ly8)) ?_ ?_
    · rintro i x H9 hx ⟨s9, ks, zk, hD9, nk, fk, dk⟩ N hN
      obtain ⟨y, dy, Y, rfl, hy8, hr8⟩ : ∃ y dy Y, x = .ref y ∧ H8 y = some (.ins T.C_Yard dy (fYd Y)) ∧ [Y0.rt, Y1.rt][i]? = some Y.rt := by
        match i, hx with
        | 0, hx => cases hx; exact ⟨y0, dy0, Y0, rfl, hy08, rfl⟩
        | 1, hx => cases hx; exact ⟨y1, dy1, Y1, rfl, hy18, rfl⟩
        | n + 2, hx => cases hx
      have hy9 := s9 _ _ hy8
      walk_at "sx"
      refine yes_if ?_
      intro kx hkx
      have hy9' := same_new (o := .dK []) hkx _ _ hy9
      have kx9 : upd H9 kx (.dK []) kx = some (.dK []) := upd_same
      have kD : D ≠ kx := ne_of_none hD9 hkx
      walk_at "sx"
      refine ⟨[(Sum.inr (SX.S []), .ref Y.rt)], rfl, Nat.le_of_ble_eq_true rfl, ks.map V.ref, ?_, ?_, ?_⟩
      · exact (upd_ne kD).trans ((upd_ne kD).trans hD9)
      · rw [List.length_map, zk]
        have hi : i < 2 := (List.getElem?_eq_some_iff.mp hx).1
        exact Nat.lt_of_le_of_lt (show _ ≤ 2 by omega) (by decide)
      · rw [hN]
        have kn : ∀ k ∈ ks, k ≠ kx := fun k hk z => by
          obtain ⟨j, hj⟩ := List.getElem?_of_mem hk
          have hjr : j < 2 := by
            have := (List.getElem?_eq_some_iff.mp hj).1
            have hi : i < 2 := (List.getElem?_eq_some_iff.mp hx).1
            omega
          have hr : [Y0.rt, Y1.rt][j]? = some ([Y0.rt, Y1.rt][j]'hjr) := List.getElem?_eq_getElem _
          have := dk j k _ hj hr
          rw [z, hkx] at this; cases this
        refine ⟨fun b u e => ?_, ks ++ [kx], by rw [List.length_append, zk]; rfl, by rw [upd_same, List.map_append]; rfl, ?_, ?_, ?_⟩
        · have bD : b ≠ D := ne_of_none e hD
          have e9 := s9 _ _ e
          have bk : b ≠ kx := ne_of_none e9 hkx
          rw [upd_ne bD, upd_ne bk, upd_ne bk]; exact e9
        · rw [List.nodup_append]
          refine ⟨nk, by simp, fun k hk b hb => ?_⟩
          rw [List.mem_singleton.mp hb]
          exact kn k hk
        · intro k hk
          rcases List.mem_append.mp hk with hk | hk
          · exact fk k hk
          · rw [List.mem_singleton.mp hk]
            exact ⟨Same.free s9 hkx, Ne.symm kD⟩
        · intro j k r hj hr
          by_cases hji : j < ks.length
          · rw [List.getElem?_append_left hji] at hj
            have hk := List.mem_of_getElem? hj
            rw [upd_ne (fk k hk).2, upd_ne (kn k hk), upd_ne (kn k hk)]
            exact dk j k r hj hr
          · rw [List.getElem?_append_right (by omega)] at hj
            have hz : j - ks.length = 0 := by
              have := (List.getElem?_eq_some_iff.mp hj).1
              rw [List.length_singleton] at this
              omega
            rw [hz] at hj
            obtain rfl : kx = k := Option.some.inj hj
            have ej : j = i := by omega
            rw [ej, hr8] at hr
            obtain rfl := Option.some.inj hr
            rw [upd_ne (Ne.symm kD), upd_same]
            rfl
    · rintro H9 ⟨s9, ks, zk, hD9, nk, fk, dk⟩
      obtain ⟨k0, k1, rfl⟩ : ∃ k0 k1, ks = [k0, k1] := by
        match ks, zk with
        | [k0, k1], _ => exact ⟨k0, k1, rfl⟩
      have dk0 := dk 0 k0 _ rfl rfl
      have dk1 := dk 1 k1 _ rfl rfl
      have k01 : k0 ≠ k1 := by
        have := (List.nodup_cons.mp nk).1
        exact fun z => this (by rw [z]; exact List.mem_cons_self)
      have fk0 := (fk k0 List.mem_cons_self).1
      have fk1 := (fk k1 (List.mem_cons_of_mem _ List.mem_cons_self)).1
      have s58 : Same H5 H8 := fun b u e => s78 _ _ (s67 _ _ (L6.sm _ _ e))
      have s68 : Same H6 H8 := fun b u e => s78 _ _ (s67 _ _ e)
      have nz : ∀ {Ha Hb : Hp}, Same Ha Hb → ∀ {b}, Ha b ≠ none → Hb b ≠ none := fun s b h z => h (Same.free s z)
      have lfr : ∀ {b}, H3 b = none → H2 b = none := fun {b} h => by
        cases e : H2 b with
        | none => rfl
        | some u => rw [lf1 b u e] at h; cases h
      -- who is new when
      have a0 : ∀ b ∈ YG y0 Y0, H2 b ≠ none := yg_at tk0 hy0
      have a1 : ∀ b ∈ YG y1 Y1, H3 b ≠ none := yg_at tk1 hy1
      have b1 : ∀ b ∈ YG y1 Y1, H2 b = none := yg_new tk1 g1
      have a2 : ∀ b ∈ MG ⟨m0, d01, d02, d03, d04, d05, lh0, dt0⟩, H5 b ≠ none := mg_at L5
      have b2 : ∀ b ∈ MG ⟨m0, d01, d02, d03, d04, d05, lh0, dt0⟩, H4 b = none := mg_new L5
      have a3 : ∀ b ∈ MG ⟨m1, d11, d12, d13, d14, d15, lh1, dt1⟩, H6 b ≠ none := mg_at L6
      have b3 : ∀ b ∈ MG ⟨m1, d11, d12, d13, d14, d15, lh1, dt1⟩, H5 b = none := mg_new L6
      have a03 : ∀ b ∈ YG y0 Y0, H3 b ≠ none := fun b hb z => a0 b hb (lfr z)
      have s35 : Same H3 H5 := s34.trans L5.sm
      have K0 : YJ T H9 (yb0 y0 dy0 k0 Y0 ⟨m0, d01, d02, d03, d04, d05, lh0, dt0⟩) (ys0 y0 Y0 (mf0 l04 l05)) := by
        exact start tk0 hy0 (Same.trans lf1 (s38.trans s9)) dk0 ((mk0 L5).same (s58.trans s9)) (fun h => nn (nz s38 (a03 _ h)) fk0 rfl) (fun h => nn (nz s58 (a2 _ h)) fk0 rfl) fun b h1 h2 => nn (nz s34 (a03 b h1)) (b2 b h2) rfl
      have K1 : YJ T H9 (yb0 y1 dy1 k1 Y1 ⟨m1, d11, d12, d13, d14, d15, lh1, dt1⟩) (ys0 y1 Y1 (mf0 l14 l15)) :=
        start tk1 hy1 (s38.trans s9) dk1 ((mk0 L6).same (s68.trans s9)) (fun h => nn (nz s38 (a1 _ h)) fk1 rfl) (fun h => nn (nz s68 (a3 _ h)) fk1 rfl) fun b h1 h2 => nn (nz s35 (a1 b h1)) (b3 b h2) rfl
      have dj : ∀ b ∈ ads (yb0 y0 dy0 k0 Y0 ⟨m0, d01, d02, d03, d04, d05, lh0, dt0⟩) (ys0 y0 Y0 (mf0 l04 l05)), b ∉ ads (yb0 y1 dy1 k1 Y1 ⟨m1, d11, d12, d13, d14, d15, lh1, dt1⟩) (ys0 y1 Y1 (mf0 l14 l15)) := fun b h h' => by
        rcases ads0 b h with h | h | rfl
        · rcases ads0 b h' with h' | h' | rfl
          · exact a0 b h (b1 b h')
          · exact nz s35 (a03 b h) (b3 b h')
          · exact nz s38 (a03 _ h) fk1
        · rcases ads0 b h' with h' | h' | rfl
          · exact nz s34 (a1 b h') (b2 b h)
          · exact a2 b h (b3 b h')
          · exact nz s58 (a2 _ h) fk1
        · rcases ads0 b h' with h' | h' | h'
          · exact nz s38 (a1 _ h') fk0
          · exact nz s68 (a3 _ h') fk0
          · exact k01 h'
      obtain ⟨B, eB⟩ : ∃ B : Nat → YB, B = fun k => if k = 0 then yb0 y0 dy0 k0 Y0 ⟨m0, d01, d02, d03, d04, d05, lh0, dt0⟩ else yb0 y1 dy1 k1 Y1 ⟨m1, d11, d12, d13, d14, d15, lh1, dt1⟩ := ⟨_, rfl⟩
      have eB0 : B 0 = yb0 y0 dy0 k0 Y0 ⟨m0, d01, d02, d03, d04, d05, lh0, dt0⟩ := by rw [eB]; rfl
      have eB1 : B 1 = yb0 y1 dy1 k1 Y1 ⟨m1, d11, d12, d13, d14, d15, lh1, dt1⟩ := by rw [eB]; rfl
      have s19 : Same H1 H9 := fun b u e => s9 _ _ (s38 _ _ (lf1 _ _ (lf0 _ _ e)))
      have pq : ∀ b, H1 b = none → b ≠ p ∧ b ≠ q := fun b h => ⟨fun z => (by rw [z, e1] at h; cases h), fun z => (by rw [z, e2] at h; cases h)⟩
      have fr1 : ∀ b, H2 b = none → H1 b = none := fun b h => by
        cases e : H1 b with
        | none => rfl
        | some u => rw [lf0 b u e] at h; cases h
      have L9 : LS T H9 p q 0 ly lt D B (fun k => if k = 0 then ys0 y0 Y0 (mf0 l04 l05) else ys0 y1 Y1 (mf0 l14 l15)) := by
        refine ⟨⟨S1.same s19, (Same.t s19).tab tP1, (Same.t s19).tab tD1, fun k hk => ?_, fun i j hi hj ij => ?_⟩, by rw [eB0, eB1]; exact s9 _ _ ly8, by rw [eB0, eB1]; exact s9 _ _ (s78 _ _ hlt7), by rw [eB0, eB1]; exact hD9, fun b hb => pq b (fr1 b (lfr ?_))⟩
        · match k, hk with
          | 0, _ => rw [eB0]; exact K0
          | 1, _ => rw [eB1]; exact K1
        · match i, j, hi, hj, ij with
          | 0, 1, _, _, _ => rw [eB0, eB1]; exact dj
          | 1, 0, _, _, _ => rw [eB0, eB1]; exact fun b h h' => dj b h' h
          | 0, 0, _, _, h => exact absurd rfl h
          | 1, 1, _, _, h => exact absurd rfl h
        · simp only [List.mem_cons, List.not_mem_nil, or_false] at hb
          rcases hb with rfl | rfl | rfl
          · exact hly
          · exact Same.free (s34.trans (Same.trans L5.sm L6.sm)) hlt
          · exact Same.free s38 hD
      have m9 : ∀ k, k < 2 → YM ((fun k => if k = 0 then ys0 y0 Y0 (mf0 l04 l05) else ys0 y1 Y1 (mf0 l14 l15)) k) := fun k hk => by
        have one : ∀ y Y l4 l5, YM (ys0 y Y (mf0 l4 l5)) := fun y Y l4 l5 => ⟨rfl, fun x hx => hx.elim (fun e => by rw [e]; rfl) fun h => absurd h List.not_mem_nil, rfl⟩
        match k, hk with
        | 0, _ => exact one _ _ _ _
        | 1, _ => exact one _ _ _ _
      have hkv : ∀ k, k < 2 → (B k).kvs = firstNumbers := fun k hk => by
        match k, hk with
        | 0, _ => rw [eB0]; rfl
        | 1, _ => rw [eB1]; rfl
      clear K0 K1 dj a0 a1 b1 a2 b2 a3 b3 a03 dk0 dk1 dk fk fk0 fk1 nk tk0 tk1 L5 L6
      walk_at "sx"
      refine .a ⟨p, q, 0, 16, rfl, L9.w.st, by decide, by decide, by decide, fun d n10 H10 d0 d1' hn10 S10 fr10 => ?_⟩
      have L10 := L9.xt S10 (.of (n := 0) S10 fr10)
      clear L9
      walk_at "sx"
      refine for_rng (fun i σ Hx => ∃ Z n' o5 o6 o7 o8 o9 o10 o11 o12 o13, σ = [some (.ref a), some (.ref p), some (.ref ly), some (.ref lt), some (.ref D), o5, o6, o7, o8, o9, o10, o11, o12, o13] ∧ LS T Hx p q n' ly lt D B Z ∧ (∀ k, k < 2 → YM (Z k)) ∧ (∀ k, k < 2 → (Z k).S.length ≤ i) ∧ n' ≤ 1 + 4 * (i : Int)) ?_ ?_ ?_
      · refine ⟨_, n10, _, _, _, _, _, _, _, _, _, rfl, L10, m9, fun k hk => ?_, by omega⟩
        match k, hk with
        | 0, _ => exact Nat.le_refl _
        | 1, _ => exact Nat.le_refl _
      · rintro σ Hx ⟨Z, n', o5, o6, o7, o8, o9, o10, o11, o12, o13, rfl, _⟩
        walk_at "sx"
        exact k Hx
      · rintro R i σ Hx hi ⟨Z, n', o5, o6, o7, o8, o9, o10, o11, o12, o13, rfl, Lx, mZ, lS, ln⟩ N hN
        have hi16 : i < 16 := by omega
        walk_at "sx"
        refine .a ⟨p, q, n', 2, rfl, Lx.w.st, by omega, by decide, by decide, fun e3 n11 H11 e30 e31 hn11 S11 fr11 => ?_⟩
        have L11 := Lx.xt S11 (.of (n := n') S11 fr11)
        clear Lx
        walk_at "sx"
        refine .a ⟨p, q, n11, 6, rfl, L11.w.st, by omega, by decide, by decide, fun wy n12 H12 wy0 wy1 hn12 S12 fr12 => ?_⟩
        have L12 := L11.xt S12 (.of (n := n11) S12 fr12)
        clear L11
        obtain ⟨j, hj2, rfl⟩ : ∃ j : Nat, j < 2 ∧ e3 = (j : Int) := ⟨e3.toNat, by omega, by omega⟩
        walk_at "sx"
        refine ⟨_, _, rfl, ?_⟩
        walk_at "sx"
        refine ⟨ly, _, _, _, rfl, rfl, SqL.of L12.hy, atI2 (f := fun j => .ref (B j).y) hj2, ?_⟩
        walk_at "sx"
        refine ⟨lt, _, _, _, rfl, rfl, SqL.of L12.ht, atI2 (f := fun j => .ref (B j).M.m) hj2, ?_⟩
        walk_at "sx"
        refine ⟨_, _, rfl, ?_⟩
        walk_at "sx"
        intro pl hpl
        have L13 := L12.same (same_new (o := .lst (NAMES6.map fun x => V.str (SX.S (dot x)))) hpl)
        have o13 := off_at (o := .lst (NAMES6.map fun x => V.str (SX.S (dot x)))) L12.w.st hpl
        have e6 : ([.str (SX.S []), .str (SX.S [97]), .str (SX.S [97, 46, 98]), .str (SX.S [98]), .str (SX.S [97, 46, 98, 46, 99]), .str (SX.S [97, 98])] : List V) = NAMES6.map fun x => V.str (SX.S (dot x)) := by decide
        rw [e6]
        generalize upd H12 pl _ = H13 at L13 o13 ⊢
        clear L12
        refine .a ⟨p, q, pl, n12, NAMES6.map fun x => V.str (SX.S (dot x)), rfl, L13.w.st, by omega, o13, by decide, by decide, fun v n14 H14 hv hn14 S14 fr14 => ?_⟩
        obtain ⟨x, hx6, rfl⟩ := List.mem_map.mp hv
        have hx := name6 x hx6
        have gx : GP x := hx.elim (fun e => by rw [e]; exact GP0) fun h => h.1.gp
        have L14 := L13.xt S14 (.of (n := n12) S14 fr14)
        clear L13 o13 hv
        rw [← upN_self (f := Z) (k := j)] at L14
        have mz := mZ j hj2
        have lz := lS j hj2
        have eZ : ∀ i, i ≠ j → ∀ z, upN Z j z i = Z i := fun i h z => upN_ne h
        generalize Z j = z at L14 mz lz
        have Y14 := L14.y hj2
        have hy14 := Y14.yy
        walk_at "sx"
        refine .a ⟨B j, z, x, rfl, Y14, by omega, hx, L14.w.tP, L14.w.tD, fun H15 S' c => ?_⟩
        obtain ⟨hk15, c16⟩ := Y14.gotU c gx
        have L16 := L14.own hj2 c16
        have hd15 : H15 D = some (.lst [.ref (B 0).kd, .ref (B 1).kd]) := by
          have := L16.hd
          rwa [upd_ne fun q => by rw [q] at this; rw [upd_same] at this; cases this] at this
        walk_at "sx"
        refine ⟨D, _, _, _, rfl, rfl, SqL.of hd15, atI2 (f := fun j => .ref (B j).kd) hj2, ?_⟩
        walk_at "sx"
        refine ⟨(B j).kd, _, rfl, DPut.k (k := Sum.inr (SX.S (dot x))) hk15 (by rw [len_kvR]; exact Nat.lt_of_le_of_lt (show _ ≤ 61 by omega) (by decide)), ?_⟩
        generalize upd H15 (B j).kd _ = H16 at L16 c16 ⊢
        clear L14 hd15 hk15 hy14
        have Y16 := L16.y hj2
        have ezm : z.ms.length ≤ 100 := by rw [mz.ms]; unfold names; rw [List.length_map]; omega
        walk_at "sx"
        refine .a ⟨(B j).M, z.ms, z.F, x, rfl, Y16.ml, by rw [mz.ms]; exact Y14.wpn, hx.imp id (·.1), ezm, fun H17 ms' F' d => ?_⟩
        have m17 : YM { z with S := S', ms := ms', F := F' } := mz.made c d
        have L17 := L16.own hj2 (Y16.madeU d)
        have hx17 : x = [] ∨ x ∈ names S' := c.2.2
        have lz17 : S'.length ≤ z.S.length + 1 := by
          rcases c.2.1 with ⟨e, _⟩ | ⟨_, _, _, L, e, _⟩
          · rw [e]; omega
          · rw [e, List.length_append, List.length_singleton]; omega
        generalize hz2 : ({ z with S := S', ms := ms', F := F' } : YS) = z2 at m17
        have L17 : LS T H17 p q n14 ly lt D B (upN Z j z2) := by rw [← hz2]; exact L17
        have hx17 : x = [] ∨ x ∈ names z2.S := by rw [← hz2]; exact hx17
        have lz17 : z2.S.length ≤ i + 1 := by rw [← hz2]; exact Nat.le_trans lz17 (by omega)
        clear L16 c16 Y16 Y14 hz2 c d mz lz
        walk_at "sx"
        refine if_mid (fun σ' H' => Hd (∃ z3 n3 o11 o12, σ' = [some (.ref a), some (.ref p), some (.ref ly), some (.ref lt), some (.ref D), some (.int (0 + (i : Int))), some (.int (j : Int)), some (.int wy), some (.ref (B j).y), some (.ref (B j).M.m), some (.str (SX.S (dot x))), o11, o12, o13] ∧
          LS T H' p q n3 ly lt D B (upN Z j z3) ∧ YM z3 ∧ z3.S.length = z2.S.length ∧ n3 ≤ n14 + 1)) ?_ ?_ ?_
        · intro σ' H18 h18
          obtain ⟨z3, n3, p11, p12, rfl, L18, m18, lz18, ln18⟩ := h18.out
          clear L17 m17
          walk_at "sx"
          intro D2 hD2
          refine comp_rng (fun i H' => Same H18 H' ∧ H' D2 = some (.lst (List.replicate i (V.bl true)))) ⟨same_new hD2, upd_same⟩ ?_ ?_
          · rintro H19 ⟨s19, h19⟩
            walk_at "sx"
            refine ⟨D2, [true, true], rfl, SqL.of h19, true, rfl, if_false_of rfl ?_⟩
            rw [hN]
            refine .a ⟨upN Z j z3, n3, _, _, _, _, _, _, _, _, _, rfl, L18.same s19, fun r hr => ?_, fun r hr => ?_, by omega⟩
            · by_cases e : r = j
              · rw [e, upN_same]; exact m18
              · rw [eZ r e]; exact mZ r hr
            · by_cases e : r = j
              · rw [e, upN_same, lz18]; exact lz17
              · rw [eZ r e]; exact Nat.le_succ_of_le (lS r hr)
          · rintro r H19 hr2 ⟨s19, h19⟩ N2 hN2
            have L19 := L18.same s19
            walk_at "sx"
            refine ⟨ly, _, _, _, rfl, rfl, SqL.of L19.hy, atI2z (f := fun j => .ref (B j).y) hr2, ?_⟩
            walk_at "sx"
            refine ⟨D, _, _, _, rfl, rfl, SqL.of L19.hd, atI2z (f := fun j => .ref (B j).kd) hr2, ?_⟩
            walk_at "sx"
            refine ⟨lt, _, _, _, rfl, rfl, SqL.of L19.ht, atI2z (f := fun j => .ref (B j).M.m) hr2, ?_⟩
            walk_at "sx"
            have mr : YM (upN Z j z3 r) := by
              by_cases e : r = j
              · rw [e, upN_same]; exact m18
              · rw [eZ r e]; exact mZ r hr2
            refine .a ⟨B r, upN Z j z3 r, rfl, L19.w.yj r hr2, mr, fun H20 s20 => ?_⟩
            refine ⟨_, s20 _ _ h19, by rw [List.length_replicate]; exact Nat.lt_of_le_of_lt (show _ ≤ 2 by omega) (by decide), ?_⟩
            rw [hN2]
            exact .a ⟨fun b u e => by rw [upd_ne (ne_of_none e hD2)]; exact s20 _ _ (s19 _ _ e), by rw [upd_same, List.replicate_succ']⟩
        · intro R1 hR1 hc1
          walk_at "sx"
          intro ps hps
          have o18 := off_at (o := .lst SOME) L17.w.st hps
          have L18 := L17.same (same_new (o := .lst SOME) hps)
          generalize hG : upd H17 ps _ = H18
          have hG : upd H17 ps (.lst SOME) = H18 := hG
          rw [hG] at o18 L18
          clear hG
          walk_at "sx"
          refine .a ⟨p, q, ps, n14, SOME, rfl, L18.w.st, by omega, o18, by decide, by decide, fun v n19 H19 hv hn19 S19 fr19 => ?_⟩
          obtain ⟨k3, iv, rfl, eg, lvv⟩ := some3 v hv
          have L19 := L18.xt S19 (.of (n := n14) S19 fr19)
          clear L18 o18 hv
          walk_at "sx"
          intro kx hkx
          walk_at "sx"
          refine ⟨upd_same, D3, rfl, Nat.le_of_ble_eq_true rfl, ?_⟩
          have s20 : Same H19 (upd (upd H19 kx (.dK [])) kx (.dK (mergeK [] D3))) := same_put (same_new hkx) hkx
          have k20 : upd (upd H19 kx (.dK [])) kx (.dK (mergeK [] D3)) kx = some (.dK D3) := upd_same
          generalize upd (upd H19 kx (.dK [])) kx (.dK (mergeK [] D3)) = H20 at s20 k20 ⊢
          have L20 := L19.same s20
          refine ⟨kx, rfl, .inl ⟨D3, .inl k20⟩, ?_⟩
          walk_at "sx"
          refine ⟨_, DGet.k (k := k3) k20, ?_⟩
          rw [eg]
          have Y20 := L20.y hj2
          walk_at "sx"
          refine ⟨(B j).M.m, _, rfl, DPut.k (k := kk kBar) Y20.ml.m (Nat.lt_of_le_of_lt (show _ ≤ 8 from Nat.le_refl _) (by decide)), ?_⟩
          have L21 := L20.own hj2 (Y20.putBar iv)
          generalize upd H20 (B j).M.m _ = H21 at L21 ⊢
          have Y21 := L21.y hj2
          have hy21 := Y21.yy
          walk_at "sx"
          refine .a ⟨z2.A, (B j).y, (B j).dy, (B j).dlv, (B j).n1, (B j).n2, fYd (B j).Y, (B j).kvs, kV k3, iv, rfl, hy21, by rw [← Y21.yt]; rfl, Y21.tr.tr, Y21.lv, Y21.tb, by rw [hkv j hj2]; exact lvv, ?_⟩
          have L22 := L21.own hj2 (Y21.bar iv)
          exact hR1 _ _ (.a ⟨_, n19, _, _, rfl, L22, m17.bar iv, rfl, by omega⟩)
        · intro R1 hR1 hc1
          walk_at "sx"
          refine if_mid _ hR1 ?_ ?_
          · intro R2 hR2 hc2
            have Y17 := L17.y hj2
            walk_at "sx"
            refine ⟨(B j).M.m, _, rfl, DPut.k (k := kk kBar) Y17.ml.m (Nat.lt_of_le_of_lt (show _ ≤ 8 from Nat.le_refl _) (by decide)), ?_⟩
            have L18 := L17.own hj2 (Y17.putBar 50)
            generalize upd H17 (B j).M.m _ = H18 at L18 ⊢
            have Y18 := L18.y hj2
            have hy18 := Y18.yy
            walk_at "sx"
            refine .a ⟨z2.A, (B j).y, (B j).dy, (B j).dlv, (B j).n1, (B j).n2, fYd (B j).Y, (B j).kvs, .int 50, 50, rfl, hy18, by rw [← Y18.yt]; rfl, Y18.tr.tr, Y18.lv, Y18.tb, .inl rfl, ?_⟩
            have L19 := L18.own hj2 (Y18.bar 50)
            exact hR2 _ _ (.a ⟨_, n14, _, _, rfl, L19, m17.bar 50, rfl, by omega⟩)
          · intro R2 hR2 hc2
            walk_at "sx"
            refine if_mid _ hR2 ?_ ?_
            · intro R3 hR3 hc3
              walk_at "sx"
              refine .a ⟨p, q, n14, 2, rfl, L17.w.st, by omega, by decide, by decide, fun e18 n18 H18 e180 e181 hn18 S18 fr18 => ?_⟩
              have L18 := L17.xt S18 (.of (n := n14) S18 fr18)
              walk_at "sx"
              generalize decide (V.int e18 = V.int 0) = b
              have Y18 := L18.y hj2
              have gm : ∀ y ∈ z2.ms, GP y := fun y hy => (Y18.wpn y (by rw [← m17.ms]; exact hy)).gp
              have hxm : x = [] ∨ x ∈ z2.ms := by rw [m17.ms]; exact hx17
              refine ⟨(B j).M.m, _, rfl, DGet.k (k := kk [111, 102, 102]) Y18.ml.m, ?_⟩
              walk_at "sx"
              refine ⟨(B j).M.d3, _, rfl, DPut.k (k := kk (dot x)) Y18.ml.o (by rw [len_kvF, m17.ms]; unfold names; rw [List.length_map]; exact Nat.lt_of_le_of_lt (show _ ≤ 61 by omega) (by decide)), ?_⟩
              have L19 := L18.own hj2 (Y18.putOff gm gx hxm b)
              generalize upd H18 (B j).M.d3 _ = H19 at L19 ⊢
              have Y19 := L19.y hj2
              obtain ⟨dx, nx, hhx, fx, ex, kc⟩ := Y19.ch hx17
              walk_at "sx"
              refine ⟨D, _, _, _, rfl, rfl, SqL.of L19.hd, atI2 (f := fun j => .ref (B j).kd) hj2, ?_⟩
              walk_at "sx"
              refine ⟨(B j).kd, _, rfl, Y19.known hx17, ?_⟩
              walk_at "sx"
              have Fm := Y19.ml.m
              have Fo : DGet H19 (B j).M.d3 (kV (kk (dot x))) (some (.bl b)) := by
                have g := DGet.k (k := kk (dot x)) Y19.ml.o
                rw [show valV (kvF z2.ms fun n => .bl ((z2.F.setOff x b).off n)) (kk (dot x)) = _ from (kvF_at gm gx).trans (if_pos hxm)] at g
                rw [show (z2.F.setOff x b).off x = b from upF_same] at g
                exact g
              refine ⟨(B j).M.m, _, rfl, DGet.k (k := kk [111, 102, 102]) Fm, ?_⟩
              walk_at "sx"
              refine ⟨(B j).M.d3, _, rfl, Fo, ?_⟩
              walk_at "sx"
              refine .a ⟨_, dx, _, .bl b, rfl, ex, Nat.le_of_ble_eq_true rfl, ?_⟩
              have L20 := L19.own hj2 (kc ⟨(lpOf z2.A z2.S x).lv, (lpOf z2.A z2.S x).pp, b⟩)
              have fx := m17.fl x hx17
              have m20 := YM.ch Y18 m17 hx17 ⟨(lpOf z2.A z2.S x).lv, (lpOf z2.A z2.S x).pp, b⟩ (F' := z2.F.setOff x b) (by rw [fx]; exact upF_self.symm) (by rw [fx]; exact upF_self.symm) rfl rfl
              exact hR3 _ _ (.a ⟨_, n18, _, _, rfl, L20, m20, List.length_map _, by omega⟩)
            · intro R3 hR3 hc3
              walk_at "sx"
              intro ps hps
              have o18 := off_at (o := .lst ([0, 1, 10, 31, 60].map V.int)) L17.w.st hps
              have L18 := L17.same (same_new (o := .lst ([0, 1, 10, 31, 60].map V.int)) hps)
              generalize hG : upd H17 ps _ = H18
              have hG : upd H17 ps (.lst ([0, 1, 10, 31, 60].map V.int)) = H18 := hG
              rw [hG] at o18 L18
              clear hG
              walk_at "sx"
              refine .a ⟨p, q, ps, n14, [0, 1, 10, 31, 60].map V.int, rfl, L18.w.st, by omega, o18, by decide, by decide, fun v n18 H19 hv hn18 S19 fr19 => ?_⟩
              obtain ⟨iv, _, rfl⟩ := List.mem_map.mp hv
              have L19 := L18.xt S19 (.of (n := n14) S19 fr19)
              clear L18 o18 hv
              have Y18 := L19.y hj2
              have gm : ∀ y ∈ z2.ms, GP y := fun y hy => (Y18.wpn y (by rw [← m17.ms]; exact hy)).gp
              have hxm : x = [] ∨ x ∈ z2.ms := by rw [m17.ms]; exact hx17
              walk_at "sx"
              refine ⟨(B j).M.m, _, rfl, DGet.k (k := kk kLev) Y18.ml.m, ?_⟩
              walk_at "sx"
              refine ⟨(B j).M.d1, _, rfl, DPut.k (k := kk (dot x)) Y18.ml.l (by rw [len_kvF, m17.ms]; unfold names; rw [List.length_map]; exact Nat.lt_of_le_of_lt (show _ ≤ 61 by omega) (by decide)), ?_⟩
              have L20 := L19.own hj2 (Y18.putLv gm gx hxm iv)
              generalize upd H19 (B j).M.d1 _ = H20 at L20 ⊢
              have Y20 := L20.y hj2
              obtain ⟨dx, nx, hhx, fx, ex, kc⟩ := Y20.ch hx17
              walk_at "sx"
              refine ⟨D, _, _, _, rfl, rfl, SqL.of L20.hd, atI2 (f := fun j => .ref (B j).kd) hj2, ?_⟩
              walk_at "sx"
              refine ⟨(B j).kd, _, rfl, Y20.known hx17, ?_⟩
              walk_at "sx"
              have Fm := Y20.ml.m
              have Fo : DGet H20 (B j).M.d1 (kV (kk (dot x))) (some (.int iv)) := by
                have g := DGet.k (k := kk (dot x)) Y20.ml.l
                rw [show valV (kvF z2.ms fun n => .int ((z2.F.setLv x iv).lv n)) (kk (dot x)) = _ from (kvF_at gm gx).trans (if_pos hxm)] at g
                rw [show (z2.F.setLv x iv).lv x = iv from upF_same] at g
                exact g
              refine ⟨(B j).M.m, _, rfl, DGet.k (k := kk kLev) Fm, ?_⟩
              walk_at "sx"
              refine ⟨(B j).M.d1, _, rfl, Fo, ?_⟩
              walk_at "sx"
              have tr20 := Y20.tr.tr
              have lv20 := Y20.lv
              have tb20 := Y20.tb
              refine .a ⟨_, dx, z2.A.tr, _, z2.A.lv, _, _, _, _, _, _, .int iv, iv, rfl, ex, rfl, Nat.le_of_ble_eq_true rfl, tr20, rfl, lv20, tb20, .inl rfl, ?_⟩
              have L21 := L20.own hj2 (kc ⟨iv, (lpOf z2.A z2.S x).pp, (lpOf z2.A z2.S x).ds⟩)
              have fx := m17.fl x hx17
              have m21 := YM.ch Y18 m17 hx17 ⟨iv, (lpOf z2.A z2.S x).pp, (lpOf z2.A z2.S x).ds⟩ (F' := z2.F.setLv x iv) rfl (by rw [fx]; exact upF_self.symm) (by rw [fx]; exact upF_self.symm) rfl
              exact hR3 _ _ (.a ⟨_, n18, _, _, rfl, L21, m21, List.length_map _, by omega⟩)
end
end My

namespace My
open PySem PySem.Spec PyProof.Rows L2 SuX _root_.He HdF
theorem oneF_name : OneF "name" := ⟨by intros; rfl, by intros; rfl, by decide +kernel, by decide +kernel, by intros; rfl, by intros; rfl, by intros; rfl, by intros; rfl⟩
def theFile : Str := PySem.Challenge.pw_recordyard_k24_bars_and_disabled.main.file
def dd__wall : _root_.He.DefD := ⟨("_wall", none), "_wall", "_wall", defArgs s__wall, defBody s__wall, defScope s__wall, [], []⟩
def dd_is_integer : _root_.He.DefD := ⟨("is_integer", none), "is_integer", "is_integer", defArgs s_is_integer, defBody s_is_integer, defScope s_is_integer, [], []⟩
def dd_is_word_sign : _root_.He.DefD := ⟨("is_word_sign", none), "is_word_sign", "is_word_sign", defArgs s_is_word_sign, defBody s_is_word_sign, defScope s_is_word_sign, [], []⟩
def dd_is_part : _root_.He.DefD := ⟨("is_part", none), "is_part", "is_part", defArgs s_is_part, defBody s_is_part, defScope s_is_part, [], []⟩
def dd_is_dotted : _root_.He.DefD := ⟨("is_dotted", none), "is_dotted", "is_dotted", defArgs s_is_dotted, defBody s_is_dotted, defScope s_is_dotted, [], []⟩
def dd_is_logger_name : _root_.He.DefD := ⟨("is_logger_name", none), "is_logger_name", "is_logger_name", defArgs s_is_logger_name, defBody s_is_logger_name, defScope s_is_logger_name, [], []⟩
def dd__law_draw : _root_.He.DefD := ⟨("_law_draw", none), "_law_draw", "_law_draw", defArgs s__law_draw, defBody s__law_draw, defScope s__law_draw, [], []⟩
def dd__law_pick : _root_.He.DefD := ⟨("_law_pick", none), "_law_pick", "_law_pick", defArgs s__law_pick, defBody s__law_pick, defScope s__law_pick, [], []⟩
def dd__law_same : _root_.He.DefD := ⟨("_law_same", none), "_law_same", "_law_same", defArgs s__law_same, defBody s__law_same, defScope s__law_same, [], []⟩
def dd__law_parent : _root_.He.DefD := ⟨("_law_parent", none), "_law_parent", "_law_parent", defArgs s__law_parent, defBody s__law_parent, defScope s__law_parent, [], []⟩
def dd__law_chain : _root_.He.DefD := ⟨("_law_chain", none), "_law_chain", "_law_chain", defArgs s__law_chain, defBody s__law_chain, defScope s__law_chain, [], []⟩
def dd__law_tree : _root_.He.DefD := ⟨("_law_tree", none), "_law_tree", "_law_tree", defArgs s__law_tree, defBody s__law_tree, defScope s__law_tree, [], []⟩
def dd__law_made : _root_.He.DefD := ⟨("_law_made", none), "_law_made", "_law_made", defArgs s__law_made, defBody s__law_made, defScope s__law_made, [], []⟩
def dd__law_effective : _root_.He.DefD := ⟨("_law_effective", none), "_law_effective", "_law_effective", defArgs s__law_effective, defBody s__law_effective, defScope s__law_effective, [], []⟩
def dd__law_are_right : _root_.He.DefD := ⟨("_law_are_right", none), "_law_are_right", "_law_are_right", defArgs s__law_are_right, defBody s__law_are_right, defScope s__law_are_right, [], []⟩
def dd_law : _root_.He.DefD := ⟨("law", none), "law", "law", defArgs s_law, defBody s_law, defScope s_law, [], []⟩
def dd_Clock___init__ : _root_.He.DefD := ⟨("Clock", some "__init__"), "__init__", "Clock.__init__", defArgs s_Clock___init__, defBody s_Clock___init__, defScope s_Clock___init__, [], []⟩
def dd_Clock_now : _root_.He.DefD := ⟨("Clock", some "now"), "now", "Clock.now", defArgs s_Clock_now, defBody s_Clock_now, defScope s_Clock_now, [], []⟩
def dd_LevelTable___init__ : _root_.He.DefD := ⟨("LevelTable", some "__init__"), "__init__", "LevelTable.__init__", defArgs s_LevelTable___init__, defBody s_LevelTable___init__, defScope s_LevelTable___init__, [], []⟩
def dd_LevelTable_knows : _root_.He.DefD := ⟨("LevelTable", some "knows"), "knows", "LevelTable.knows", defArgs s_LevelTable_knows, defBody s_LevelTable_knows, defScope s_LevelTable_knows, [], []⟩
def dd_LevelTable_number : _root_.He.DefD := ⟨("LevelTable", some "number"), "number", "LevelTable.number", defArgs s_LevelTable_number, defBody s_LevelTable_number, defScope s_LevelTable_number, [], []⟩
def dd_Store___init__ : _root_.He.DefD := ⟨("Store", some "__init__"), "__init__", "Store.__init__", defArgs s_Store___init__, defBody s_Store___init__, defScope s_Store___init__, [], []⟩
def dd_Written___init__ : _root_.He.DefD := ⟨("Written", some "__init__"), "__init__", "Written.__init__", defArgs s_Written___init__, defBody s_Written___init__, defScope s_Written___init__, [], []⟩
def dd_Roster___init__ : _root_.He.DefD := ⟨("Roster", some "__init__"), "__init__", "Roster.__init__", defArgs s_Roster___init__, defBody s_Roster___init__, defScope s_Roster___init__, [], []⟩
def dd_Roster_enter : _root_.He.DefD := ⟨("Roster", some "enter"), "enter", "Roster.enter", defArgs s_Roster_enter, defBody s_Roster_enter, defScope s_Roster_enter, [], []⟩
def dd_Handler___init__ : _root_.He.DefD := ⟨("Handler", some "__init__"), "__init__", "Handler.__init__", defArgs s_Handler___init__, defBody s_Handler___init__, defScope s_Handler___init__, [], []⟩
def dd_Logger___init__ : _root_.He.DefD := ⟨("Logger", some "__init__"), "__init__", "Logger.__init__", defArgs s_Logger___init__, defBody s_Logger___init__, defScope s_Logger___init__, [], []⟩
def dd_Logger_setLevel : _root_.He.DefD := ⟨("Logger", some "setLevel"), "setLevel", "Logger.setLevel", defArgs s_Logger_setLevel, defBody s_Logger_setLevel, defScope s_Logger_setLevel, [], []⟩
def dd_Logger_setDisabled : _root_.He.DefD := ⟨("Logger", some "setDisabled"), "setDisabled", "Logger.setDisabled", defArgs s_Logger_setDisabled, defBody s_Logger_setDisabled, defScope s_Logger_setDisabled, [], []⟩
def dd_Logger_getEffectiveLevel : _root_.He.DefD := ⟨("Logger", some "getEffectiveLevel"), "getEffectiveLevel", "Logger.getEffectiveLevel", defArgs s_Logger_getEffectiveLevel, defBody s_Logger_getEffectiveLevel, defScope s_Logger_getEffectiveLevel, [], []⟩
def dd_Logger_isEnabledFor : _root_.He.DefD := ⟨("Logger", some "isEnabledFor"), "isEnabledFor", "Logger.isEnabledFor", defArgs s_Logger_isEnabledFor, defBody s_Logger_isEnabledFor, defScope s_Logger_isEnabledFor, [], []⟩
def dd_LoggerTree___init__ : _root_.He.DefD := ⟨("LoggerTree", some "__init__"), "__init__", "LoggerTree.__init__", defArgs s_LoggerTree___init__, defBody s_LoggerTree___init__, defScope s_LoggerTree___init__, [], []⟩
def dd_LoggerTree_getLogger : _root_.He.DefD := ⟨("LoggerTree", some "getLogger"), "getLogger", "LoggerTree.getLogger", defArgs s_LoggerTree_getLogger, defBody s_LoggerTree_getLogger, defScope s_LoggerTree_getLogger, [.str (SX.S [])], []⟩
def dd_LoggerTree_grow : _root_.He.DefD := ⟨("LoggerTree", some "grow"), "grow", "LoggerTree.grow", defArgs s_LoggerTree_grow, defBody s_LoggerTree_grow, defScope s_LoggerTree_grow, [], []⟩
def dd_LoggerTree_nearest : _root_.He.DefD := ⟨("LoggerTree", some "nearest"), "nearest", "LoggerTree.nearest", defArgs s_LoggerTree_nearest, defBody s_LoggerTree_nearest, defScope s_LoggerTree_nearest, [], []⟩
def dd_LoggerTree_made : _root_.He.DefD := ⟨("LoggerTree", some "made"), "made", "LoggerTree.made", defArgs s_LoggerTree_made, defBody s_LoggerTree_made, defScope s_LoggerTree_made, [], []⟩
def dd_LoggerTree_loggers : _root_.He.DefD := ⟨("LoggerTree", some "loggers"), "loggers", "LoggerTree.loggers", defArgs s_LoggerTree_loggers, defBody s_LoggerTree_loggers, defScope s_LoggerTree_loggers, [], []⟩
def dd_LoggerTree_disable : _root_.He.DefD := ⟨("LoggerTree", some "disable"), "disable", "LoggerTree.disable", defArgs s_LoggerTree_disable, defBody s_LoggerTree_disable, defScope s_LoggerTree_disable, [.int 50], []⟩
def dd_LoggerTree_bar : _root_.He.DefD := ⟨("LoggerTree", some "bar"), "bar", "LoggerTree.bar", defArgs s_LoggerTree_bar, defBody s_LoggerTree_bar, defScope s_LoggerTree_bar, [], []⟩
def se_StreamHandler___init__ : SupE := ⟨"StreamHandler", "__init__", "StreamHandler.__init__", s_StreamHandler___init__, [.str (SX.S [115, 116, 100, 101, 114, 114])]⟩
def dd_Yard___init__ : _root_.He.DefD := ⟨("Yard", some "__init__"), "__init__", "Yard.__init__", defArgs s_Yard___init__, defBody s_Yard___init__, defScope s_Yard___init__, [.int 0], []⟩
def dd_Yard_getLogger : _root_.He.DefD := ⟨("Yard", some "getLogger"), "getLogger", "Yard.getLogger", defArgs s_Yard_getLogger, defBody s_Yard_getLogger, defScope s_Yard_getLogger, [.str (SX.S [])], []⟩
def dd_Yard_disable : _root_.He.DefD := ⟨("Yard", some "disable"), "disable", "Yard.disable", defArgs s_Yard_disable, defBody s_Yard_disable, defScope s_Yard_disable, [.int 50], []⟩
def dd_Yard_bar : _root_.He.DefD := ⟨("Yard", some "bar"), "bar", "Yard.bar", defArgs s_Yard_bar, defBody s_Yard_bar, defScope s_Yard_bar, [], []⟩
def fsL0 : List (PySem.W.Frag → Bool) := [(Fa.free "all").ok, (Fa.free "bool").ok, (Fa.free "dict").ok, (Fa.free "int").ok, (Fa.free "isinstance").ok, (Fa.free "len").ok, (Fa.free "list").ok, (Fa.free "max").ok, (Fa.free "range").ok, (Fa.free "sorted").ok, (Fa.free "str").ok, (Fa.free "super").ok, (Fa.free "tuple").ok, (Fa.free "zip").ok, (fun K => _root_.He.DefD.ok K dd__wall), (Fa.glo "_wall").ok, (fun K => _root_.He.DefD.ok K dd_is_integer), (Fa.glo "is_integer").ok, (fun K => _root_.He.DefD.ok K dd_is_word_sign), (Fa.glo "is_word_sign").ok, (fun K => _root_.He.DefD.ok K dd_is_part), (Fa.glo "is_part").ok, (fun K => _root_.He.DefD.ok K dd_is_dotted), (Fa.glo "is_dotted").ok, (fun K => _root_.He.DefD.ok K dd_is_logger_name), (Fa.glo "is_logger_name").ok, (fun K => _root_.He.DefD.ok K dd__law_draw), (Fa.glo "_law_draw").ok, (fun K => _root_.He.DefD.ok K dd__law_pick), (Fa.glo "_law_pick").ok]
def fsL1 : List (PySem.W.Frag → Bool) := [(fun K => _root_.He.DefD.ok K dd__law_same), (Fa.glo "_law_same").ok, (fun K => _root_.He.DefD.ok K dd__law_parent), (Fa.glo "_law_parent").ok, (fun K => _root_.He.DefD.ok K dd__law_chain), (Fa.glo "_law_chain").ok, (fun K => _root_.He.DefD.ok K dd__law_tree), (Fa.glo "_law_tree").ok, (fun K => _root_.He.DefD.ok K dd__law_made), (Fa.glo "_law_made").ok, (fun K => _root_.He.DefD.ok K dd__law_effective), (Fa.glo "_law_effective").ok, (fun K => _root_.He.DefD.ok K dd__law_are_right), (Fa.glo "_law_are_right").ok, (fun K => _root_.He.DefD.ok K dd_law), (Fa.glo "law").ok, (Fa.glo "Clock").ok, ocB "Clock" ["shown"], (fun K => _root_.He.DefD.ok K dd_Clock___init__), mkB "Clock", (fun K => _root_.He.DefD.ok K dd_Clock_now), metB "Clock" "Clock" "now", (Fa.glo "LevelTable").ok, ocB "LevelTable" ["names", "numbers"], (fun K => _root_.He.DefD.ok K dd_LevelTable___init__), mkB "LevelTable", (fun K => _root_.He.DefD.ok K dd_LevelTable_knows), metB "LevelTable" "LevelTable" "knows", (fun K => _root_.He.DefD.ok K dd_LevelTable_number), metB "LevelTable" "LevelTable" "number"]
def fsL2 : List (PySem.W.Frag → Bool) := [(Fa.glo "Store").ok, ocB "Store" ["clock", "kept"], (fun K => _root_.He.DefD.ok K dd_Store___init__), mkB "Store", (Fa.glo "Written").ok, ocB "Written" ["parts", "size", "time"], (fun K => _root_.He.DefD.ok K dd_Written___init__), mkB "Written", (Fa.glo "Roster").ok, ocB "Roster" ["handlers", "leading", "failed"], (fun K => _root_.He.DefD.ok K dd_Roster___init__), mkB "Roster", (fun K => _root_.He.DefD.ok K dd_Roster_enter), metB "Roster" "Roster" "enter", (Fa.glo "Handler").ok, ocB "Handler" [], (fun K => _root_.He.DefD.ok K dd_Handler___init__), mkB "Handler", (Fa.glo "Logger").ok, ocB "Logger" ["tree", "yard", "name", "level", "propagate", "disabled", "handlers", "filters", "parent"], (fun K => _root_.He.DefD.ok K dd_Logger___init__), mkB "Logger", (fun K => _root_.He.DefD.ok K dd_Logger_setLevel), metB "Logger" "Logger" "setLevel", (fun K => _root_.He.DefD.ok K dd_Logger_setDisabled), metB "Logger" "Logger" "setDisabled", (fun K => _root_.He.DefD.ok K dd_Logger_getEffectiveLevel), metB "Logger" "Logger" "getEffectiveLevel", (fun K => _root_.He.DefD.ok K dd_Logger_isEnabledFor), metB "Logger" "Logger" "isEnabledFor"]
def fsL3 : List (PySem.W.Frag → Bool) := [(Fa.glo "LoggerTree").ok, ocB "LoggerTree" ["yard", "levels", "clock", "last_resort", "barred", "named", "root"], (fun K => _root_.He.DefD.ok K dd_LoggerTree___init__), mkB "LoggerTree", (fun K => _root_.He.DefD.ok K dd_LoggerTree_getLogger), metB "LoggerTree" "LoggerTree" "getLogger", (fun K => _root_.He.DefD.ok K dd_LoggerTree_grow), metB "LoggerTree" "LoggerTree" "grow", (fun K => _root_.He.DefD.ok K dd_LoggerTree_nearest), metB "LoggerTree" "LoggerTree" "nearest", (fun K => _root_.He.DefD.ok K dd_LoggerTree_made), metB "LoggerTree" "LoggerTree" "made", (fun K => _root_.He.DefD.ok K dd_LoggerTree_loggers), metB "LoggerTree" "LoggerTree" "loggers", (fun K => _root_.He.DefD.ok K dd_LoggerTree_disable), metB "LoggerTree" "LoggerTree" "disable", (fun K => _root_.He.DefD.ok K dd_LoggerTree_bar), metB "LoggerTree" "LoggerTree" "bar", (Fa.glo "StreamHandler").ok, ocB "StreamHandler" ["yard", "level", "formatter", "filters", "name", "terminator", "closed", "stream"], se_StreamHandler___init__.ok theFile, mkB "StreamHandler", (Fa.glo "Yard").ok, ocB "Yard" ["clock", "levels", "stream_store", "file_store", "roster", "tree", "root"], (fun K => _root_.He.DefD.ok K dd_Yard___init__), mkB "Yard", (fun K => _root_.He.DefD.ok K dd_Yard_getLogger), metB "Yard" "Yard" "getLogger", (fun K => _root_.He.DefD.ok K dd_Yard_disable), metB "Yard" "Yard" "disable"]
def fsL4 : List (PySem.W.Frag → Bool) := [(fun K => _root_.He.DefD.ok K dd_Yard_bar), metB "Yard" "Yard" "bar", errB "BadLevel" "level", errB "BadName" "name", (Fa.glo "FIRST_NAMES").ok, (Fa.glo "FIRST_NUMBERS").ok, (Fa.int "NOTSET" 0).ok, (Fa.int "WARNING" 30).ok, (Fa.str "LETTERS" (SX.S [97, 98, 99, 100, 101, 102, 103, 104, 105, 106, 107, 108, 109, 110, 111, 112, 113, 114, 115, 116, 117, 118, 119, 120, 121, 122, 65, 66, 67, 68, 69, 70, 71, 72, 73, 74, 75, 76, 77, 78, 79, 80, 81, 82, 83, 84, 85, 86, 87, 88, 89, 90])).ok, (Fa.str "DIGITS" (SX.S [48, 49, 50, 51, 52, 53, 54, 55, 56, 57])).ok, (Fa.glo "ROOT_NAMES").ok, (fun K => tupB K "ROOT_NAMES" [.str (SX.S []), .str (SX.S [114, 111, 111, 116])]), (fun K => OQ.cmpB K (ga K "Logger")), supB "StreamHandler" "StreamHandler" "Handler" "__init__", dicB (fun K => ga K "FIRST_NAMES") (fun _ => (firstNames).map (·.2)), dicB (fun K => ga K "FIRST_NUMBERS") (fun _ => (firstNumbers).map (·.2))]
def fsL : List (PySem.W.Frag → Bool) := fsL0 ++ fsL1 ++ fsL2 ++ fsL3 ++ fsL4
def fwL0 : List ((Str × Option Str) × FnW) := [(dd__wall.at_, dd__wall.val), (dd_is_integer.at_, dd_is_integer.val), (dd_is_word_sign.at_, dd_is_word_sign.val), (dd_is_part.at_, dd_is_part.val), (dd_is_dotted.at_, dd_is_dotted.val), (dd_is_logger_name.at_, dd_is_logger_name.val), (dd__law_draw.at_, dd__law_draw.val), (dd__law_pick.at_, dd__law_pick.val), (dd__law_same.at_, dd__law_same.val), (dd__law_parent.at_, dd__law_parent.val), (dd__law_chain.at_, dd__law_chain.val), (dd__law_tree.at_, dd__law_tree.val), (dd__law_made.at_, dd__law_made.val), (dd__law_effective.at_, dd__law_effective.val), (dd__law_are_right.at_, dd__law_are_right.val), (dd_law.at_, dd_law.val), (dd_Clock___init__.at_, dd_Clock___init__.val), (dd_Clock_now.at_, dd_Clock_now.val), (dd_LevelTable___init__.at_, dd_LevelTable___init__.val), (dd_LevelTable_knows.at_, dd_LevelTable_knows.val), (dd_LevelTable_number.at_, dd_LevelTable_number.val), (dd_Store___init__.at_, dd_Store___init__.val), (dd_Written___init__.at_, dd_Written___init__.val), (dd_Roster___init__.at_, dd_Roster___init__.val), (dd_Roster_enter.at_, dd_Roster_enter.val), (dd_Handler___init__.at_, dd_Handler___init__.val), (dd_Logger___init__.at_, dd_Logger___init__.val), (dd_Logger_setLevel.at_, dd_Logger_setLevel.val), (dd_Logger_setDisabled.at_, dd_Logger_setDisabled.val), (dd_Logger_getEffectiveLevel.at_, dd_Logger_getEffectiveLevel.val)]
def fwL1 : List ((Str × Option Str) × FnW) := [(dd_Logger_isEnabledFor.at_, dd_Logger_isEnabledFor.val), (dd_LoggerTree___init__.at_, dd_LoggerTree___init__.val), (dd_LoggerTree_getLogger.at_, dd_LoggerTree_getLogger.val), (dd_LoggerTree_grow.at_, dd_LoggerTree_grow.val), (dd_LoggerTree_nearest.at_, dd_LoggerTree_nearest.val), (dd_LoggerTree_made.at_, dd_LoggerTree_made.val), (dd_LoggerTree_loggers.at_, dd_LoggerTree_loggers.val), (dd_LoggerTree_disable.at_, dd_LoggerTree_disable.val), (dd_LoggerTree_bar.at_, dd_LoggerTree_bar.val), (dd_Yard___init__.at_, dd_Yard___init__.val), (dd_Yard_getLogger.at_, dd_Yard_getLogger.val), (dd_Yard_disable.at_, dd_Yard_disable.val), (dd_Yard_bar.at_, dd_Yard_bar.val), (("BadLevel", some "__init__"), errW "BadLevel" "level" ⟨9, 17, 9, 21⟩ ⟨9, 23, 9, 28⟩ ⟨10, 8, 10, 12⟩ ⟨10, 8, 10, 18⟩ ⟨10, 21, 10, 26⟩ ⟨10, 8, 10, 26⟩), (("BadName", some "__init__"), errW "BadName" "name" ⟨13, 17, 13, 21⟩ ⟨13, 23, 13, 27⟩ ⟨14, 8, 14, 12⟩ ⟨14, 8, 14, 17⟩ ⟨14, 20, 14, 24⟩ ⟨14, 8, 14, 24⟩)]
def fwL : List ((Str × Option Str) × FnW) := fwL0 ++ fwL1
def swL0 : List (SupE) := [se_StreamHandler___init__]
def swL : List (SupE) := swL0
def dwL0 : List (Str × List Key) := [("FIRST_NAMES", (firstNames).map (·.1)), ("FIRST_NUMBERS", (firstNumbers).map (·.1))]
def dwL : List (Str × List Key) := dwL0
def FF : Fs := ⟨fsL, fwL, swL, dwL⟩
def tfL : List Defn := [("is_part", none), ("is_dotted", none)]
theorem tb2 {base : Heap} {mg : Str → Option Value} {c Q : Addr} (t : LamX.TabB base mg c Q) : GxR.TabB base mg c Q := ⟨t.code, t.bm, t.gP⟩
theorem facts {P : Program} {w : World} {K : PySem.W.Frag} {h : Heap} {mg : Str → Option Value} {fa : Addr} (X : K.In h) (G : h.Ns mainGlobals mg) (hfa : mg ("law" : Str) = some (.ref fa)) (c : SaysF FF w K) (hPf : ((P.main.file : Str) == theFile) = true) (hPt : (P.main.scope.names.lookup ("super" : Str)).isSome = false) :
    ∃ fd : FuncData, (∀ (s : Shared) (v : Value), BindsTo s fd ⟨[v], []⟩ [("_law_script", v)]) ∧ ∀ base : Heap, K.In base → base.Ns mainGlobals mg → (∀ p ∈ tfL.map (cT K), LamX.TabB base mg p.1 p.2) → FnOk P w K mg base CX0 9 fa fd ["_law_script"] (spLaw K (He.cT K ("is_part", none)).2 (He.cT K ("is_dotted", none)).2) := by
  obtain ⟨fd__wall, F__wall⟩ := _root_.He.DefD.funD (d := dd__wall) (c.fnw 0 rfl) (c.fact 14 rfl)
  have F__wall : FunD K "_wall" "_wall" (defArgs s__wall) (defBody s__wall) (defScope s__wall) [] [] (fAd K ("_wall", none)) fd__wall := F__wall
  have B__wall : Binds K fd__wall ["k"] [] := FunD.bindsN F__wall fun _ _ _ _ _ _ us hl => match us, hl with | [_], _ => rfl
  obtain ⟨fd_is_integer, F_is_integer⟩ := _root_.He.DefD.funD (d := dd_is_integer) (c.fnw 1 rfl) (c.fact 16 rfl)
  have F_is_integer : FunD K "is_integer" "is_integer" (defArgs s_is_integer) (defBody s_is_integer) (defScope s_is_integer) [] [] (fAd K ("is_integer", none)) fd_is_integer := F_is_integer
  have B_is_integer : Binds K fd_is_integer ["thing"] [] := FunD.bindsN F_is_integer fun _ _ _ _ _ _ us hl => match us, hl with | [_], _ => rfl
  obtain ⟨fd_is_word_sign, F_is_word_sign⟩ := _root_.He.DefD.funD (d := dd_is_word_sign) (c.fnw 2 rfl) (c.fact 18 rfl)
  have F_is_word_sign : FunD K "is_word_sign" "is_word_sign" (defArgs s_is_word_sign) (defBody s_is_word_sign) (defScope s_is_word_sign) [] [] (fAd K ("is_word_sign", none)) fd_is_word_sign := F_is_word_sign
  have B_is_word_sign : Binds K fd_is_word_sign ["sign"] [] := FunD.bindsN F_is_word_sign fun _ _ _ _ _ _ us hl => match us, hl with | [_], _ => rfl
  obtain ⟨fd_is_part, F_is_part⟩ := _root_.He.DefD.funD (d := dd_is_part) (c.fnw 3 rfl) (c.fact 20 rfl)
  have F_is_part : FunD K "is_part" "is_part" (defArgs s_is_part) (defBody s_is_part) (defScope s_is_part) [] [] (fAd K ("is_part", none)) fd_is_part := F_is_part
  have B_is_part : Binds K fd_is_part ["text"] [] := FunD.bindsN F_is_part fun _ _ _ _ _ _ us hl => match us, hl with | [_], _ => rfl
  obtain ⟨fd_is_dotted, F_is_dotted⟩ := _root_.He.DefD.funD (d := dd_is_dotted) (c.fnw 4 rfl) (c.fact 22 rfl)
  have F_is_dotted : FunD K "is_dotted" "is_dotted" (defArgs s_is_dotted) (defBody s_is_dotted) (defScope s_is_dotted) [] [] (fAd K ("is_dotted", none)) fd_is_dotted := F_is_dotted
  have B_is_dotted : Binds K fd_is_dotted ["thing"] [] := FunD.bindsN F_is_dotted fun _ _ _ _ _ _ us hl => match us, hl with | [_], _ => rfl
  obtain ⟨fd_is_logger_name, F_is_logger_name⟩ := _root_.He.DefD.funD (d := dd_is_logger_name) (c.fnw 5 rfl) (c.fact 24 rfl)
  have F_is_logger_name : FunD K "is_logger_name" "is_logger_name" (defArgs s_is_logger_name) (defBody s_is_logger_name) (defScope s_is_logger_name) [] [] (fAd K ("is_logger_name", none)) fd_is_logger_name := F_is_logger_name
  have B_is_logger_name : Binds K fd_is_logger_name ["thing"] [] := FunD.bindsN F_is_logger_name fun _ _ _ _ _ _ us hl => match us, hl with | [_], _ => rfl
  obtain ⟨fd__law_draw, F__law_draw⟩ := _root_.He.DefD.funD (d := dd__law_draw) (c.fnw 6 rfl) (c.fact 26 rfl)
  have F__law_draw : FunD K "_law_draw" "_law_draw" (defArgs s__law_draw) (defBody s__law_draw) (defScope s__law_draw) [] [] (fAd K ("_law_draw", none)) fd__law_draw := F__law_draw
  have B__law_draw : Binds K fd__law_draw ["_law_s", "_law_many"] [] := FunD.bindsN F__law_draw fun _ _ _ _ _ _ us hl => match us, hl with | [_, _], _ => rfl
  obtain ⟨fd__law_pick, F__law_pick⟩ := _root_.He.DefD.funD (d := dd__law_pick) (c.fnw 7 rfl) (c.fact 28 rfl)
  have F__law_pick : FunD K "_law_pick" "_law_pick" (defArgs s__law_pick) (defBody s__law_pick) (defScope s__law_pick) [] [] (fAd K ("_law_pick", none)) fd__law_pick := F__law_pick
  have B__law_pick : Binds K fd__law_pick ["_law_s", "_law_some"] [] := FunD.bindsN F__law_pick fun _ _ _ _ _ _ us hl => match us, hl with | [_, _], _ => rfl
  obtain ⟨fd__law_same, F__law_same⟩ := _root_.He.DefD.funD (d := dd__law_same) (c.fnw 8 rfl) (c.fact 30 rfl)
  have F__law_same : FunD K "_law_same" "_law_same" (defArgs s__law_same) (defBody s__law_same) (defScope s__law_same) [] [] (fAd K ("_law_same", none)) fd__law_same := F__law_same
  have B__law_same : Binds K fd__law_same ["_law_found", "_law_due"] [] := FunD.bindsN F__law_same fun _ _ _ _ _ _ us hl => match us, hl with | [_, _], _ => rfl
  obtain ⟨fd__law_parent, F__law_parent⟩ := _root_.He.DefD.funD (d := dd__law_parent) (c.fnw 9 rfl) (c.fact 32 rfl)
  have F__law_parent : FunD K "_law_parent" "_law_parent" (defArgs s__law_parent) (defBody s__law_parent) (defScope s__law_parent) [] [] (fAd K ("_law_parent", none)) fd__law_parent := F__law_parent
  have B__law_parent : Binds K fd__law_parent ["_law_names", "_law_name"] [] := FunD.bindsN F__law_parent fun _ _ _ _ _ _ us hl => match us, hl with | [_, _], _ => rfl
  obtain ⟨fd__law_chain, F__law_chain⟩ := _root_.He.DefD.funD (d := dd__law_chain) (c.fnw 10 rfl) (c.fact 34 rfl)
  have F__law_chain : FunD K "_law_chain" "_law_chain" (defArgs s__law_chain) (defBody s__law_chain) (defScope s__law_chain) [] [] (fAd K ("_law_chain", none)) fd__law_chain := F__law_chain
  have B__law_chain : Binds K fd__law_chain ["_law_names", "_law_name"] [] := FunD.bindsN F__law_chain fun _ _ _ _ _ _ us hl => match us, hl with | [_, _], _ => rfl
  obtain ⟨fd__law_tree, F__law_tree⟩ := _root_.He.DefD.funD (d := dd__law_tree) (c.fnw 11 rfl) (c.fact 36 rfl)
  have F__law_tree : FunD K "_law_tree" "_law_tree" (defArgs s__law_tree) (defBody s__law_tree) (defScope s__law_tree) [] [] (fAd K ("_law_tree", none)) fd__law_tree := F__law_tree
  have B__law_tree : Binds K fd__law_tree [] [] := FunD.bindsN F__law_tree fun _ _ _ _ _ _ us hl => match us, hl with | [], _ => rfl
  obtain ⟨fd__law_made, F__law_made⟩ := _root_.He.DefD.funD (d := dd__law_made) (c.fnw 12 rfl) (c.fact 38 rfl)
  have F__law_made : FunD K "_law_made" "_law_made" (defArgs s__law_made) (defBody s__law_made) (defScope s__law_made) [] [] (fAd K ("_law_made", none)) fd__law_made := F__law_made
  have B__law_made : Binds K fd__law_made ["_law_m", "_law_name"] [] := FunD.bindsN F__law_made fun _ _ _ _ _ _ us hl => match us, hl with | [_, _], _ => rfl
  obtain ⟨fd__law_effective, F__law_effective⟩ := _root_.He.DefD.funD (d := dd__law_effective) (c.fnw 13 rfl) (c.fact 40 rfl)
  have F__law_effective : FunD K "_law_effective" "_law_effective" (defArgs s__law_effective) (defBody s__law_effective) (defScope s__law_effective) [] [] (fAd K ("_law_effective", none)) fd__law_effective := F__law_effective
  have B__law_effective : Binds K fd__law_effective ["_law_m", "_law_name"] [] := FunD.bindsN F__law_effective fun _ _ _ _ _ _ us hl => match us, hl with | [_, _], _ => rfl
  obtain ⟨fd__law_are_right, F__law_are_right⟩ := _root_.He.DefD.funD (d := dd__law_are_right) (c.fnw 14 rfl) (c.fact 42 rfl)
  have F__law_are_right : FunD K "_law_are_right" "_law_are_right" (defArgs s__law_are_right) (defBody s__law_are_right) (defScope s__law_are_right) [] [] (fAd K ("_law_are_right", none)) fd__law_are_right := F__law_are_right
  have B__law_are_right : Binds K fd__law_are_right ["_law_yard", "_law_known", "_law_m"] [] := FunD.bindsN F__law_are_right fun _ _ _ _ _ _ us hl => match us, hl with | [_, _, _], _ => rfl
  obtain ⟨fd_law, F_law⟩ := _root_.He.DefD.funD (d := dd_law) (c.fnw 15 rfl) (c.fact 44 rfl)
  have F_law : FunD K "law" "law" (defArgs s_law) (defBody s_law) (defScope s_law) [] [] (fAd K ("law", none)) fd_law := F_law
  have B_law : Binds K fd_law ["_law_script"] [] := FunD.bindsN F_law fun _ _ _ _ _ _ us hl => match us, hl with | [_], _ => rfl
  obtain ⟨fd_Clock___init__, F_Clock___init__⟩ := _root_.He.DefD.funD (d := dd_Clock___init__) (c.fnw 16 rfl) (c.fact 48 rfl)
  have F_Clock___init__ : FunD K "__init__" "Clock.__init__" (defArgs s_Clock___init__) (defBody s_Clock___init__) (defScope s_Clock___init__) [] [] (fAd K ("Clock", some "__init__")) fd_Clock___init__ := F_Clock___init__
  have B_Clock___init__ : Binds K fd_Clock___init__ ["self", "shown"] [] := FunD.bindsN F_Clock___init__ fun _ _ _ _ _ _ us hl => match us, hl with | [_, _], _ => rfl
  obtain ⟨fd_Clock_now, F_Clock_now⟩ := _root_.He.DefD.funD (d := dd_Clock_now) (c.fnw 17 rfl) (c.fact 50 rfl)
  have F_Clock_now : FunD K "now" "Clock.now" (defArgs s_Clock_now) (defBody s_Clock_now) (defScope s_Clock_now) [] [] (fAd K ("Clock", some "now")) fd_Clock_now := F_Clock_now
  have B_Clock_now : Binds K fd_Clock_now ["self"] [] := FunD.bindsN F_Clock_now fun _ _ _ _ _ _ us hl => match us, hl with | [_], _ => rfl
  obtain ⟨fd_LevelTable___init__, F_LevelTable___init__⟩ := _root_.He.DefD.funD (d := dd_LevelTable___init__) (c.fnw 18 rfl) (c.fact 54 rfl)
  have F_LevelTable___init__ : FunD K "__init__" "LevelTable.__init__" (defArgs s_LevelTable___init__) (defBody s_LevelTable___init__) (defScope s_LevelTable___init__) [] [] (fAd K ("LevelTable", some "__init__")) fd_LevelTable___init__ := F_LevelTable___init__
  have B_LevelTable___init__ : Binds K fd_LevelTable___init__ ["self"] [] := FunD.bindsN F_LevelTable___init__ fun _ _ _ _ _ _ us hl => match us, hl with | [_], _ => rfl
  obtain ⟨fd_LevelTable_knows, F_LevelTable_knows⟩ := _root_.He.DefD.funD (d := dd_LevelTable_knows) (c.fnw 19 rfl) (c.fact 56 rfl)
  have F_LevelTable_knows : FunD K "knows" "LevelTable.knows" (defArgs s_LevelTable_knows) (defBody s_LevelTable_knows) (defScope s_LevelTable_knows) [] [] (fAd K ("LevelTable", some "knows")) fd_LevelTable_knows := F_LevelTable_knows
  have B_LevelTable_knows : Binds K fd_LevelTable_knows ["self", "level"] [] := FunD.bindsN F_LevelTable_knows fun _ _ _ _ _ _ us hl => match us, hl with | [_, _], _ => rfl
  obtain ⟨fd_LevelTable_number, F_LevelTable_number⟩ := _root_.He.DefD.funD (d := dd_LevelTable_number) (c.fnw 20 rfl) (c.fact 58 rfl)
  have F_LevelTable_number : FunD K "number" "LevelTable.number" (defArgs s_LevelTable_number) (defBody s_LevelTable_number) (defScope s_LevelTable_number) [] [] (fAd K ("LevelTable", some "number")) fd_LevelTable_number := F_LevelTable_number
  have B_LevelTable_number : Binds K fd_LevelTable_number ["self", "level"] [] := FunD.bindsN F_LevelTable_number fun _ _ _ _ _ _ us hl => match us, hl with | [_, _], _ => rfl
  obtain ⟨fd_Store___init__, F_Store___init__⟩ := _root_.He.DefD.funD (d := dd_Store___init__) (c.fnw 21 rfl) (c.fact 62 rfl)
  have F_Store___init__ : FunD K "__init__" "Store.__init__" (defArgs s_Store___init__) (defBody s_Store___init__) (defScope s_Store___init__) [] [] (fAd K ("Store", some "__init__")) fd_Store___init__ := F_Store___init__
  have B_Store___init__ : Binds K fd_Store___init__ ["self", "clock"] [] := FunD.bindsN F_Store___init__ fun _ _ _ _ _ _ us hl => match us, hl with | [_, _], _ => rfl
  obtain ⟨fd_Written___init__, F_Written___init__⟩ := _root_.He.DefD.funD (d := dd_Written___init__) (c.fnw 22 rfl) (c.fact 66 rfl)
  have F_Written___init__ : FunD K "__init__" "Written.__init__" (defArgs s_Written___init__) (defBody s_Written___init__) (defScope s_Written___init__) [] [] (fAd K ("Written", some "__init__")) fd_Written___init__ := F_Written___init__
  have B_Written___init__ : Binds K fd_Written___init__ ["self", "text", "time"] [] := FunD.bindsN F_Written___init__ fun _ _ _ _ _ _ us hl => match us, hl with | [_, _, _], _ => rfl
  obtain ⟨fd_Roster___init__, F_Roster___init__⟩ := _root_.He.DefD.funD (d := dd_Roster___init__) (c.fnw 23 rfl) (c.fact 70 rfl)
  have F_Roster___init__ : FunD K "__init__" "Roster.__init__" (defArgs s_Roster___init__) (defBody s_Roster___init__) (defScope s_Roster___init__) [] [] (fAd K ("Roster", some "__init__")) fd_Roster___init__ := F_Roster___init__
  have B_Roster___init__ : Binds K fd_Roster___init__ ["self"] [] := FunD.bindsN F_Roster___init__ fun _ _ _ _ _ _ us hl => match us, hl with | [_], _ => rfl
  obtain ⟨fd_Roster_enter, F_Roster_enter⟩ := _root_.He.DefD.funD (d := dd_Roster_enter) (c.fnw 24 rfl) (c.fact 72 rfl)
  have F_Roster_enter : FunD K "enter" "Roster.enter" (defArgs s_Roster_enter) (defBody s_Roster_enter) (defScope s_Roster_enter) [] [] (fAd K ("Roster", some "enter")) fd_Roster_enter := F_Roster_enter
  have B_Roster_enter : Binds K fd_Roster_enter ["self", "handler"] [] := FunD.bindsN F_Roster_enter fun _ _ _ _ _ _ us hl => match us, hl with | [_, _], _ => rfl
  obtain ⟨fd_Handler___init__, F_Handler___init__⟩ := _root_.He.DefD.funD (d := dd_Handler___init__) (c.fnw 25 rfl) (c.fact 76 rfl)
  have F_Handler___init__ : FunD K "__init__" "Handler.__init__" (defArgs s_Handler___init__) (defBody s_Handler___init__) (defScope s_Handler___init__) [] [] (fAd K ("Handler", some "__init__")) fd_Handler___init__ := F_Handler___init__
  have B_Handler___init__ : Binds K fd_Handler___init__ ["self", "yard"] [] := FunD.bindsN F_Handler___init__ fun _ _ _ _ _ _ us hl => match us, hl with | [_, _], _ => rfl
  obtain ⟨fd_Logger___init__, F_Logger___init__⟩ := _root_.He.DefD.funD (d := dd_Logger___init__) (c.fnw 26 rfl) (c.fact 80 rfl)
  have F_Logger___init__ : FunD K "__init__" "Logger.__init__" (defArgs s_Logger___init__) (defBody s_Logger___init__) (defScope s_Logger___init__) [] [] (fAd K ("Logger", some "__init__")) fd_Logger___init__ := F_Logger___init__
  have B_Logger___init__ : Binds K fd_Logger___init__ ["self", "tree", "name", "level", "parent"] [] := FunD.bindsN F_Logger___init__ fun _ _ _ _ _ _ us hl => match us, hl with | [_, _, _, _, _], _ => rfl
  obtain ⟨fd_Logger_setLevel, F_Logger_setLevel⟩ := _root_.He.DefD.funD (d := dd_Logger_setLevel) (c.fnw 27 rfl) (c.fact 82 rfl)
  have F_Logger_setLevel : FunD K "setLevel" "Logger.setLevel" (defArgs s_Logger_setLevel) (defBody s_Logger_setLevel) (defScope s_Logger_setLevel) [] [] (fAd K ("Logger", some "setLevel")) fd_Logger_setLevel := F_Logger_setLevel
  have B_Logger_setLevel : Binds K fd_Logger_setLevel ["self", "level"] [] := FunD.bindsN F_Logger_setLevel fun _ _ _ _ _ _ us hl => match us, hl with | [_, _], _ => rfl
  obtain ⟨fd_Logger_setDisabled, F_Logger_setDisabled⟩ := _root_.He.DefD.funD (d := dd_Logger_setDisabled) (c.fnw 28 rfl) (c.fact 84 rfl)
  have F_Logger_setDisabled : FunD K "setDisabled" "Logger.setDisabled" (defArgs s_Logger_setDisabled) (defBody s_Logger_setDisabled) (defScope s_Logger_setDisabled) [] [] (fAd K ("Logger", some "setDisabled")) fd_Logger_setDisabled := F_Logger_setDisabled
  have B_Logger_setDisabled : Binds K fd_Logger_setDisabled ["self", "flag"] [] := FunD.bindsN F_Logger_setDisabled fun _ _ _ _ _ _ us hl => match us, hl with | [_, _], _ => rfl
  obtain ⟨fd_Logger_getEffectiveLevel, F_Logger_getEffectiveLevel⟩ := _root_.He.DefD.funD (d := dd_Logger_getEffectiveLevel) (c.fnw 29 rfl) (c.fact 86 rfl)
  have F_Logger_getEffectiveLevel : FunD K "getEffectiveLevel" "Logger.getEffectiveLevel" (defArgs s_Logger_getEffectiveLevel) (defBody s_Logger_getEffectiveLevel) (defScope s_Logger_getEffectiveLevel) [] [] (fAd K ("Logger", some "getEffectiveLevel")) fd_Logger_getEffectiveLevel := F_Logger_getEffectiveLevel
  have B_Logger_getEffectiveLevel : Binds K fd_Logger_getEffectiveLevel ["self"] [] := FunD.bindsN F_Logger_getEffectiveLevel fun _ _ _ _ _ _ us hl => match us, hl with | [_], _ => rfl
  obtain ⟨fd_Logger_isEnabledFor, F_Logger_isEnabledFor⟩ := _root_.He.DefD.funD (d := dd_Logger_isEnabledFor) (c.fnw 30 rfl) (c.fact 88 rfl)
  have F_Logger_isEnabledFor : FunD K "isEnabledFor" "Logger.isEnabledFor" (defArgs s_Logger_isEnabledFor) (defBody s_Logger_isEnabledFor) (defScope s_Logger_isEnabledFor) [] [] (fAd K ("Logger", some "isEnabledFor")) fd_Logger_isEnabledFor := F_Logger_isEnabledFor
  have B_Logger_isEnabledFor : Binds K fd_Logger_isEnabledFor ["self", "level"] [] := FunD.bindsN F_Logger_isEnabledFor fun _ _ _ _ _ _ us hl => match us, hl with | [_, _], _ => rfl
  obtain ⟨fd_LoggerTree___init__, F_LoggerTree___init__⟩ := _root_.He.DefD.funD (d := dd_LoggerTree___init__) (c.fnw 31 rfl) (c.fact 92 rfl)
  have F_LoggerTree___init__ : FunD K "__init__" "LoggerTree.__init__" (defArgs s_LoggerTree___init__) (defBody s_LoggerTree___init__) (defScope s_LoggerTree___init__) [] [] (fAd K ("LoggerTree", some "__init__")) fd_LoggerTree___init__ := F_LoggerTree___init__
  have B_LoggerTree___init__ : Binds K fd_LoggerTree___init__ ["self", "yard", "levels", "clock", "last_resort"] [] := FunD.bindsN F_LoggerTree___init__ fun _ _ _ _ _ _ us hl => match us, hl with | [_, _, _, _, _], _ => rfl
  obtain ⟨fd_LoggerTree_getLogger, F_LoggerTree_getLogger⟩ := _root_.He.DefD.funD (d := dd_LoggerTree_getLogger) (c.fnw 32 rfl) (c.fact 94 rfl)
  have F_LoggerTree_getLogger : FunD K "getLogger" "LoggerTree.getLogger" (defArgs s_LoggerTree_getLogger) (defBody s_LoggerTree_getLogger) (defScope s_LoggerTree_getLogger) [.str (SX.S [])] [] (fAd K ("LoggerTree", some "getLogger")) fd_LoggerTree_getLogger := F_LoggerTree_getLogger
  have B_LoggerTree_getLogger : Binds K fd_LoggerTree_getLogger ["self", "name"] [] := nil_of (FunD.binds1 F_LoggerTree_getLogger 2 1 (List.cons_ne_nil _ _) rfl (fun _ _ _ _ _ _ _ us its h1 h2 => match us, its, h1, h2 with | [_, _], [_], _, _ => ⟨_, rfl, rfl⟩))
  obtain ⟨fd_LoggerTree_grow, F_LoggerTree_grow⟩ := _root_.He.DefD.funD (d := dd_LoggerTree_grow) (c.fnw 33 rfl) (c.fact 96 rfl)
  have F_LoggerTree_grow : FunD K "grow" "LoggerTree.grow" (defArgs s_LoggerTree_grow) (defBody s_LoggerTree_grow) (defScope s_LoggerTree_grow) [] [] (fAd K ("LoggerTree", some "grow")) fd_LoggerTree_grow := F_LoggerTree_grow
  have B_LoggerTree_grow : Binds K fd_LoggerTree_grow ["self", "name"] [] := FunD.bindsN F_LoggerTree_grow fun _ _ _ _ _ _ us hl => match us, hl with | [_, _], _ => rfl
  obtain ⟨fd_LoggerTree_nearest, F_LoggerTree_nearest⟩ := _root_.He.DefD.funD (d := dd_LoggerTree_nearest) (c.fnw 34 rfl) (c.fact 98 rfl)
  have F_LoggerTree_nearest : FunD K "nearest" "LoggerTree.nearest" (defArgs s_LoggerTree_nearest) (defBody s_LoggerTree_nearest) (defScope s_LoggerTree_nearest) [] [] (fAd K ("LoggerTree", some "nearest")) fd_LoggerTree_nearest := F_LoggerTree_nearest
  have B_LoggerTree_nearest : Binds K fd_LoggerTree_nearest ["self", "name"] [] := FunD.bindsN F_LoggerTree_nearest fun _ _ _ _ _ _ us hl => match us, hl with | [_, _], _ => rfl
  obtain ⟨fd_LoggerTree_made, F_LoggerTree_made⟩ := _root_.He.DefD.funD (d := dd_LoggerTree_made) (c.fnw 35 rfl) (c.fact 100 rfl)
  have F_LoggerTree_made : FunD K "made" "LoggerTree.made" (defArgs s_LoggerTree_made) (defBody s_LoggerTree_made) (defScope s_LoggerTree_made) [] [] (fAd K ("LoggerTree", some "made")) fd_LoggerTree_made := F_LoggerTree_made
  have B_LoggerTree_made : Binds K fd_LoggerTree_made ["self"] [] := FunD.bindsN F_LoggerTree_made fun _ _ _ _ _ _ us hl => match us, hl with | [_], _ => rfl
  obtain ⟨fd_LoggerTree_loggers, F_LoggerTree_loggers⟩ := _root_.He.DefD.funD (d := dd_LoggerTree_loggers) (c.fnw 36 rfl) (c.fact 102 rfl)
  have F_LoggerTree_loggers : FunD K "loggers" "LoggerTree.loggers" (defArgs s_LoggerTree_loggers) (defBody s_LoggerTree_loggers) (defScope s_LoggerTree_loggers) [] [] (fAd K ("LoggerTree", some "loggers")) fd_LoggerTree_loggers := F_LoggerTree_loggers
  have B_LoggerTree_loggers : Binds K fd_LoggerTree_loggers ["self"] [] := FunD.bindsN F_LoggerTree_loggers fun _ _ _ _ _ _ us hl => match us, hl with | [_], _ => rfl
  obtain ⟨fd_LoggerTree_disable, F_LoggerTree_disable⟩ := _root_.He.DefD.funD (d := dd_LoggerTree_disable) (c.fnw 37 rfl) (c.fact 104 rfl)
  have F_LoggerTree_disable : FunD K "disable" "LoggerTree.disable" (defArgs s_LoggerTree_disable) (defBody s_LoggerTree_disable) (defScope s_LoggerTree_disable) [.int 50] [] (fAd K ("LoggerTree", some "disable")) fd_LoggerTree_disable := F_LoggerTree_disable
  have B_LoggerTree_disable : Binds K fd_LoggerTree_disable ["self", "level"] [] := nil_of (FunD.binds1 F_LoggerTree_disable 2 1 (List.cons_ne_nil _ _) rfl (fun _ _ _ _ _ _ _ us its h1 h2 => match us, its, h1, h2 with | [_, _], [_], _, _ => ⟨_, rfl, rfl⟩))
  obtain ⟨fd_LoggerTree_bar, F_LoggerTree_bar⟩ := _root_.He.DefD.funD (d := dd_LoggerTree_bar) (c.fnw 38 rfl) (c.fact 106 rfl)
  have F_LoggerTree_bar : FunD K "bar" "LoggerTree.bar" (defArgs s_LoggerTree_bar) (defBody s_LoggerTree_bar) (defScope s_LoggerTree_bar) [] [] (fAd K ("LoggerTree", some "bar")) fd_LoggerTree_bar := F_LoggerTree_bar
  have B_LoggerTree_bar : Binds K fd_LoggerTree_bar ["self"] [] := FunD.bindsN F_LoggerTree_bar fun _ _ _ _ _ _ us hl => match us, hl with | [_], _ => rfl
  obtain ⟨fd_StreamHandler___init__, F_StreamHandler___init__, D_StreamHandler___init__⟩ := SupE.supF (file := theFile) (d := se_StreamHandler___init__) (c.sup 0 rfl) (c.fact 110 rfl)
  have D_StreamHandler___init__ : SupDf K "__init__" "StreamHandler.__init__" s_StreamHandler___init__ [.str (SX.S [115, 116, 100, 101, 114, 114])] fd_StreamHandler___init__ := D_StreamHandler___init__
  obtain ⟨fd_Yard___init__, F_Yard___init__⟩ := _root_.He.DefD.funD (d := dd_Yard___init__) (c.fnw 39 rfl) (c.fact 114 rfl)
  have F_Yard___init__ : FunD K "__init__" "Yard.__init__" (defArgs s_Yard___init__) (defBody s_Yard___init__) (defScope s_Yard___init__) [.int 0] [] (fAd K ("Yard", some "__init__")) fd_Yard___init__ := F_Yard___init__
  obtain ⟨fd_Yard_getLogger, F_Yard_getLogger⟩ := _root_.He.DefD.funD (d := dd_Yard_getLogger) (c.fnw 40 rfl) (c.fact 116 rfl)
  have F_Yard_getLogger : FunD K "getLogger" "Yard.getLogger" (defArgs s_Yard_getLogger) (defBody s_Yard_getLogger) (defScope s_Yard_getLogger) [.str (SX.S [])] [] (fAd K ("Yard", some "getLogger")) fd_Yard_getLogger := F_Yard_getLogger
  have B_Yard_getLogger : Binds K fd_Yard_getLogger ["self", "name"] [] := nil_of (FunD.binds1 F_Yard_getLogger 2 1 (List.cons_ne_nil _ _) rfl (fun _ _ _ _ _ _ _ us its h1 h2 => match us, its, h1, h2 with | [_, _], [_], _, _ => ⟨_, rfl, rfl⟩))
  obtain ⟨fd_Yard_disable, F_Yard_disable⟩ := _root_.He.DefD.funD (d := dd_Yard_disable) (c.fnw 41 rfl) (c.fact 118 rfl)
  have F_Yard_disable : FunD K "disable" "Yard.disable" (defArgs s_Yard_disable) (defBody s_Yard_disable) (defScope s_Yard_disable) [.int 50] [] (fAd K ("Yard", some "disable")) fd_Yard_disable := F_Yard_disable
  have B_Yard_disable : Binds K fd_Yard_disable ["self", "level"] [] := nil_of (FunD.binds1 F_Yard_disable 2 1 (List.cons_ne_nil _ _) rfl (fun _ _ _ _ _ _ _ us its h1 h2 => match us, its, h1, h2 with | [_, _], [_], _, _ => ⟨_, rfl, rfl⟩))
  obtain ⟨fd_Yard_bar, F_Yard_bar⟩ := _root_.He.DefD.funD (d := dd_Yard_bar) (c.fnw 42 rfl) (c.fact 120 rfl)
  have F_Yard_bar : FunD K "bar" "Yard.bar" (defArgs s_Yard_bar) (defBody s_Yard_bar) (defScope s_Yard_bar) [] [] (fAd K ("Yard", some "bar")) fd_Yard_bar := F_Yard_bar
  have B_Yard_bar : Binds K fd_Yard_bar ["self"] [] := FunD.bindsN F_Yard_bar fun _ _ _ _ _ _ us hl => match us, hl with | [_], _ => rfl
  have B_Yard_disable_1 : ∃ ds, Vals [.int 50] ds ∧ Binds K fd_Yard_disable ["self", "level"] ds := FunD.binds1 F_Yard_disable 1 0 (List.cons_ne_nil _ _) rfl (fun _ _ _ _ _ _ _ us its h1 h2 => match us, its, h1, h2 with | [_], [_], _, _ => ⟨_, rfl, rfl⟩)
  have B_Yard___init___1 : ∃ ds, Vals [.int 0] ds ∧ Binds K fd_Yard___init__ ["self", "now"] ds := FunD.binds1 F_Yard___init__ 1 0 (List.cons_ne_nil _ _) rfl (fun _ _ _ _ _ _ _ us its h1 h2 => match us, its, h1, h2 with | [_], [_], _, _ => ⟨_, rfl, rfl⟩)
  have B_StreamHandler___init___2 : ∃ ds, Vals [.str (SX.S [115, 116, 100, 101, 114, 114])] ds ∧ Binds K fd_StreamHandler___init__ ["self", "yard", "stream"] ds := SupDf.binds1 D_StreamHandler___init__ 2 0 (List.cons_ne_nil _ _) rfl (fun _ _ _ _ _ _ _ _ us its h1 h2 => match us, its, h1, h2 with | [_, _], [_], _, _ => ⟨_, rfl, rfl⟩)
  let T : Txt K mg := {
    B := ⟨free_ok X G (c.fact 0 rfl), free_ok X G (c.fact 1 rfl), free_ok X G (c.fact 2 rfl), free_ok X G (c.fact 3 rfl), free_ok X G (c.fact 4 rfl), free_ok X G (c.fact 5 rfl), free_ok X G (c.fact 6 rfl), free_ok X G (c.fact 7 rfl), free_ok X G (c.fact 8 rfl), free_ok X G (c.fact 9 rfl), free_ok X G (c.fact 10 rfl), free_ok X G (c.fact 11 rfl), free_ok X G (c.fact 12 rfl), free_ok X G (c.fact 13 rfl)⟩,
    f__wall := fAd K ("_wall", none),
    fd__wall := fd__wall,
    D__wall := ⟨(fun_of F__wall), glo_ok X G (c.fact 15 rfl), B__wall⟩,
    f_is_integer := fAd K ("is_integer", none),
    fd_is_integer := fd_is_integer,
    D_is_integer := ⟨(fun_of F_is_integer), glo_ok X G (c.fact 17 rfl), B_is_integer⟩,
    f_is_word_sign := fAd K ("is_word_sign", none),
    fd_is_word_sign := fd_is_word_sign,
    D_is_word_sign := ⟨(fun_of F_is_word_sign), glo_ok X G (c.fact 19 rfl), B_is_word_sign⟩,
    f_is_part := fAd K ("is_part", none),
    fd_is_part := fd_is_part,
    D_is_part := ⟨(fun_of F_is_part), glo_ok X G (c.fact 21 rfl), B_is_part⟩,
    f_is_dotted := fAd K ("is_dotted", none),
    fd_is_dotted := fd_is_dotted,
    D_is_dotted := ⟨(fun_of F_is_dotted), glo_ok X G (c.fact 23 rfl), B_is_dotted⟩,
    f_is_logger_name := fAd K ("is_logger_name", none),
    fd_is_logger_name := fd_is_logger_name,
    D_is_logger_name := ⟨(fun_of F_is_logger_name), glo_ok X G (c.fact 25 rfl), B_is_logger_name⟩,
    f__law_draw := fAd K ("_law_draw", none),
    fd__law_draw := fd__law_draw,
    D__law_draw := ⟨(fun_of F__law_draw), glo_ok X G (c.fact 27 rfl), B__law_draw⟩,
    f__law_pick := fAd K ("_law_pick", none),
    fd__law_pick := fd__law_pick,
    D__law_pick := ⟨(fun_of F__law_pick), glo_ok X G (c.fact 29 rfl), B__law_pick⟩,
    f__law_same := fAd K ("_law_same", none),
    fd__law_same := fd__law_same,
    D__law_same := ⟨(fun_of F__law_same), glo_ok X G (c.fact 31 rfl), B__law_same⟩,
    f__law_parent := fAd K ("_law_parent", none),
    fd__law_parent := fd__law_parent,
    D__law_parent := ⟨(fun_of F__law_parent), glo_ok X G (c.fact 33 rfl), B__law_parent⟩,
    f__law_chain := fAd K ("_law_chain", none),
    fd__law_chain := fd__law_chain,
    D__law_chain := ⟨(fun_of F__law_chain), glo_ok X G (c.fact 35 rfl), B__law_chain⟩,
    f__law_tree := fAd K ("_law_tree", none),
    fd__law_tree := fd__law_tree,
    D__law_tree := ⟨(fun_of F__law_tree), glo_ok X G (c.fact 37 rfl), B__law_tree⟩,
    f__law_made := fAd K ("_law_made", none),
    fd__law_made := fd__law_made,
    D__law_made := ⟨(fun_of F__law_made), glo_ok X G (c.fact 39 rfl), B__law_made⟩,
    f__law_effective := fAd K ("_law_effective", none),
    fd__law_effective := fd__law_effective,
    D__law_effective := ⟨(fun_of F__law_effective), glo_ok X G (c.fact 41 rfl), B__law_effective⟩,
    f__law_are_right := fAd K ("_law_are_right", none),
    fd__law_are_right := fd__law_are_right,
    D__law_are_right := ⟨(fun_of F__law_are_right), glo_ok X G (c.fact 43 rfl), B__law_are_right⟩,
    f_law := fAd K ("law", none),
    fd_law := fd_law,
    D_law := ⟨(fun_of F_law), glo_ok X G (c.fact 45 rfl), B_law⟩,
    file := theFile,
    C_Clock := (ga K "Clock"),
    g_Clock := glo_ok X G (c.fact 46 rfl),
    o_Clock := ocB_ok (c.fact 47 rfl),
    a_Clock_init := fAd K ("Clock", some "__init__"),
    fd_Clock_init := fd_Clock___init__,
    F_Clock_init := (fun_of F_Clock___init__),
    M_Clock := mkB_ok (c.fact 49 rfl),
    b_Clock_init := B_Clock___init__,
    a_Clock_now := fAd K ("Clock", some "now"),
    fd_Clock_now := fd_Clock_now,
    F_Clock_now := (fun_of F_Clock_now),
    Me_Clock_now := metB_ok (c.fact 51 rfl),
    b_Clock_now := B_Clock_now,
    C_LevelTable := (ga K "LevelTable"),
    g_LevelTable := glo_ok X G (c.fact 52 rfl),
    o_LevelTable := ocB_ok (c.fact 53 rfl),
    a_LevelTable_init := fAd K ("LevelTable", some "__init__"),
    fd_LevelTable_init := fd_LevelTable___init__,
    F_LevelTable_init := (fun_of F_LevelTable___init__),
    M_LevelTable := mkB_ok (c.fact 55 rfl),
    b_LevelTable_init := B_LevelTable___init__,
    a_LevelTable_knows := fAd K ("LevelTable", some "knows"),
    fd_LevelTable_knows := fd_LevelTable_knows,
    F_LevelTable_knows := (fun_of F_LevelTable_knows),
    Me_LevelTable_knows := metB_ok (c.fact 57 rfl),
    b_LevelTable_knows := B_LevelTable_knows,
    a_LevelTable_number := fAd K ("LevelTable", some "number"),
    fd_LevelTable_number := fd_LevelTable_number,
    F_LevelTable_number := (fun_of F_LevelTable_number),
    Me_LevelTable_number := metB_ok (c.fact 59 rfl),
    b_LevelTable_number := B_LevelTable_number,
    C_Store := (ga K "Store"),
    g_Store := glo_ok X G (c.fact 60 rfl),
    o_Store := ocB_ok (c.fact 61 rfl),
    a_Store_init := fAd K ("Store", some "__init__"),
    fd_Store_init := fd_Store___init__,
    F_Store_init := (fun_of F_Store___init__),
    M_Store := mkB_ok (c.fact 63 rfl),
    b_Store_init := B_Store___init__,
    C_Written := (ga K "Written"),
    g_Written := glo_ok X G (c.fact 64 rfl),
    o_Written := ocB_ok (c.fact 65 rfl),
    a_Written_init := fAd K ("Written", some "__init__"),
    fd_Written_init := fd_Written___init__,
    F_Written_init := (fun_of F_Written___init__),
    M_Written := mkB_ok (c.fact 67 rfl),
    b_Written_init := B_Written___init__,
    C_Roster := (ga K "Roster"),
    g_Roster := glo_ok X G (c.fact 68 rfl),
    o_Roster := ocB_ok (c.fact 69 rfl),
    a_Roster_init := fAd K ("Roster", some "__init__"),
    fd_Roster_init := fd_Roster___init__,
    F_Roster_init := (fun_of F_Roster___init__),
    M_Roster := mkB_ok (c.fact 71 rfl),
    b_Roster_init := B_Roster___init__,
    a_Roster_enter := fAd K ("Roster", some "enter"),
    fd_Roster_enter := fd_Roster_enter,
    F_Roster_enter := (fun_of F_Roster_enter),
    Me_Roster_enter := metB_ok (c.fact 73 rfl),
    b_Roster_enter := B_Roster_enter,
    C_Handler := (ga K "Handler"),
    g_Handler := glo_ok X G (c.fact 74 rfl),
    o_Handler := ocB_ok (c.fact 75 rfl),
    a_Handler_init := fAd K ("Handler", some "__init__"),
    fd_Handler_init := fd_Handler___init__,
    F_Handler_init := (fun_of F_Handler___init__),
    M_Handler := mkB_ok (c.fact 77 rfl),
    b_Handler_init := B_Handler___init__,
    C_Logger := (ga K "Logger"),
    g_Logger := glo_ok X G (c.fact 78 rfl),
    o_Logger := ocB_ok (c.fact 79 rfl),
    a_Logger_init := fAd K ("Logger", some "__init__"),
    fd_Logger_init := fd_Logger___init__,
    F_Logger_init := (fun_of F_Logger___init__),
    M_Logger := mkB_ok (c.fact 81 rfl),
    b_Logger_init := B_Logger___init__,
    a_Logger_setLevel := fAd K ("Logger", some "setLevel"),
    fd_Logger_setLevel := fd_Logger_setLevel,
    F_Logger_setLevel := (fun_of F_Logger_setLevel),
    Me_Logger_setLevel := metB_ok (c.fact 83 rfl),
    b_Logger_setLevel := B_Logger_setLevel,
    a_Logger_setDisabled := fAd K ("Logger", some "setDisabled"),
    fd_Logger_setDisabled := fd_Logger_setDisabled,
    F_Logger_setDisabled := (fun_of F_Logger_setDisabled),
    Me_Logger_setDisabled := metB_ok (c.fact 85 rfl),
    b_Logger_setDisabled := B_Logger_setDisabled,
    a_Logger_getEffectiveLevel := fAd K ("Logger", some "getEffectiveLevel"),
    fd_Logger_getEffectiveLevel := fd_Logger_getEffectiveLevel,
    F_Logger_getEffectiveLevel := (fun_of F_Logger_getEffectiveLevel),
    Me_Logger_getEffectiveLevel := metB_ok (c.fact 87 rfl),
    b_Logger_getEffectiveLevel := B_Logger_getEffectiveLevel,
    a_Logger_isEnabledFor := fAd K ("Logger", some "isEnabledFor"),
    fd_Logger_isEnabledFor := fd_Logger_isEnabledFor,
    F_Logger_isEnabledFor := (fun_of F_Logger_isEnabledFor),
    Me_Logger_isEnabledFor := metB_ok (c.fact 89 rfl),
    b_Logger_isEnabledFor := B_Logger_isEnabledFor,
    C_LoggerTree := (ga K "LoggerTree"),
    g_LoggerTree := glo_ok X G (c.fact 90 rfl),
    o_LoggerTree := ocB_ok (c.fact 91 rfl),
    a_LoggerTree_init := fAd K ("LoggerTree", some "__init__"),
    fd_LoggerTree_init := fd_LoggerTree___init__,
    F_LoggerTree_init := (fun_of F_LoggerTree___init__),
    M_LoggerTree := mkB_ok (c.fact 93 rfl),
    b_LoggerTree_init := B_LoggerTree___init__,
    a_LoggerTree_getLogger := fAd K ("LoggerTree", some "getLogger"),
    fd_LoggerTree_getLogger := fd_LoggerTree_getLogger,
    aGT_LoggerTree_getLogger := 0,
    F_LoggerTree_getLogger := F_LoggerTree_getLogger,
    Me_LoggerTree_getLogger := metB_ok (c.fact 95 rfl),
    b_LoggerTree_getLogger := B_LoggerTree_getLogger,
    a_LoggerTree_grow := fAd K ("LoggerTree", some "grow"),
    fd_LoggerTree_grow := fd_LoggerTree_grow,
    F_LoggerTree_grow := (fun_of F_LoggerTree_grow),
    Me_LoggerTree_grow := metB_ok (c.fact 97 rfl),
    b_LoggerTree_grow := B_LoggerTree_grow,
    a_LoggerTree_nearest := fAd K ("LoggerTree", some "nearest"),
    fd_LoggerTree_nearest := fd_LoggerTree_nearest,
    F_LoggerTree_nearest := (fun_of F_LoggerTree_nearest),
    Me_LoggerTree_nearest := metB_ok (c.fact 99 rfl),
    b_LoggerTree_nearest := B_LoggerTree_nearest,
    a_LoggerTree_made := fAd K ("LoggerTree", some "made"),
    fd_LoggerTree_made := fd_LoggerTree_made,
    F_LoggerTree_made := (fun_of F_LoggerTree_made),
    Me_LoggerTree_made := metB_ok (c.fact 101 rfl),
    b_LoggerTree_made := B_LoggerTree_made,
    a_LoggerTree_loggers := fAd K ("LoggerTree", some "loggers"),
    fd_LoggerTree_loggers := fd_LoggerTree_loggers,
    F_LoggerTree_loggers := (fun_of F_LoggerTree_loggers),
    Me_LoggerTree_loggers := metB_ok (c.fact 103 rfl),
    b_LoggerTree_loggers := B_LoggerTree_loggers,
    a_LoggerTree_disable := fAd K ("LoggerTree", some "disable"),
    fd_LoggerTree_disable := fd_LoggerTree_disable,
    aGT_LoggerTree_disable := 0,
    F_LoggerTree_disable := F_LoggerTree_disable,
    Me_LoggerTree_disable := metB_ok (c.fact 105 rfl),
    b_LoggerTree_disable := B_LoggerTree_disable,
    a_LoggerTree_bar := fAd K ("LoggerTree", some "bar"),
    fd_LoggerTree_bar := fd_LoggerTree_bar,
    F_LoggerTree_bar := (fun_of F_LoggerTree_bar),
    Me_LoggerTree_bar := metB_ok (c.fact 107 rfl),
    b_LoggerTree_bar := B_LoggerTree_bar,
    C_StreamHandler := (ga K "StreamHandler"),
    g_StreamHandler := glo_ok X G (c.fact 108 rfl),
    o_StreamHandler := ocB_ok (c.fact 109 rfl),
    a_StreamHandler_init := fAd K ("StreamHandler", some "__init__"),
    fd_StreamHandler_init := fd_StreamHandler___init__,
    F_StreamHandler_init := F_StreamHandler___init__,
    M_StreamHandler := mkB_ok (c.fact 111 rfl),
    C_Yard := (ga K "Yard"),
    g_Yard := glo_ok X G (c.fact 112 rfl),
    o_Yard := ocB_ok (c.fact 113 rfl),
    a_Yard_init := fAd K ("Yard", some "__init__"),
    fd_Yard_init := fd_Yard___init__,
    F_Yard_init := F_Yard___init__,
    M_Yard := mkB_ok (c.fact 115 rfl),
    a_Yard_getLogger := fAd K ("Yard", some "getLogger"),
    fd_Yard_getLogger := fd_Yard_getLogger,
    aGT_Yard_getLogger := 0,
    F_Yard_getLogger := F_Yard_getLogger,
    Me_Yard_getLogger := metB_ok (c.fact 117 rfl),
    b_Yard_getLogger := B_Yard_getLogger,
    a_Yard_disable := fAd K ("Yard", some "disable"),
    fd_Yard_disable := fd_Yard_disable,
    aGT_Yard_disable := 0,
    F_Yard_disable := F_Yard_disable,
    Me_Yard_disable := metB_ok (c.fact 119 rfl),
    b_Yard_disable := B_Yard_disable,
    a_Yard_bar := fAd K ("Yard", some "bar"),
    fd_Yard_bar := fd_Yard_bar,
    F_Yard_bar := (fun_of F_Yard_bar),
    Me_Yard_bar := metB_ok (c.fact 121 rfl),
    b_Yard_bar := B_Yard_bar,
    dd_Yard_disable := B_Yard_disable_1,
    cP := (cT K ("is_part", none)).1,
    PP := (cT K ("is_part", none)).2,
    W_P := defC_of F_is_part,
    cD := (cT K ("is_dotted", none)).1,
    PD := (cT K ("is_dotted", none)).2,
    W_D := defC_of F_is_dotted,
    dd_Yard_init := B_Yard___init___1,
    c_BadLevel := (ga K "BadLevel"),
    i_BadLevel := fAd K ("BadLevel", some "__init__"),
    E_BadLevel := errB_ok X G oneF_level (c.fnw 43 rfl) (c.fact 122 rfl),
    c_BadName := (ga K "BadName"),
    i_BadName := fAd K ("BadName", some "__init__"),
    E_BadName := errB_ok X G oneF_name (c.fnw 44 rfl) (c.fact 123 rfl),
    aFN := (ga K "FIRST_NAMES"),
    aFM := (ga K "FIRST_NUMBERS"),
    k_FIRST_NAMES := ⟨_, glo_ok X G (c.fact 124 rfl), rfl⟩,
    k_FIRST_NUMBERS := ⟨_, glo_ok X G (c.fact 125 rfl), rfl⟩,
    k_NOTSET := (let ⟨t, e⟩ := int_ok X G (c.fact 126 rfl); ⟨_, e, ⟨t, rfl⟩⟩),
    k_WARNING := (let ⟨t, e⟩ := int_ok X G (c.fact 127 rfl); ⟨_, e, ⟨t, rfl⟩⟩),
    k_LETTERS := (let ⟨t, e⟩ := str_ok X G (c.fact 128 rfl); ⟨_, e, ⟨t, rfl⟩⟩),
    k_DIGITS := (let ⟨t, e⟩ := str_ok X G (c.fact 129 rfl); ⟨_, e, ⟨t, rfl⟩⟩),
    aRN := (ga K "ROOT_NAMES"),
    k_ROOT_NAMES := ⟨_, glo_ok X G (c.fact 130 rfl), rfl⟩,
    t_ROOT_NAMES := (fun H => tupB_ok (c.fact 131 rfl) H),
    cmp_Logger := ⟨(c.fact 132 rfl)⟩,
    dd_StreamHandler_init := B_StreamHandler___init___2,
    SM_StreamHandler_init := supB_ok (c.fact 133 rfl) }
  have e : ga K "law" = fa := by
    have e1 := (glo_ok X G (c.fact 45 rfl)).symm.trans hfa
    exact Value.ref.inj (Option.some.inj e1)
  have b := FunD.bindsA (ps := ["_law_script"]) F_law fun _ _ _ _ _ _ us hl => match us, hl with | [_], _ => rfl
  subst e
  exact ⟨fd_law, fun s v => b s [v] rfl, fun base _ _ tb => ok_law T ⟨⟨hPf, hPt, free_ok X G (c.fact 11 rfl)⟩, dkc_of (a := fun K => ga K "FIRST_NAMES") (kvs := firstNames) (c.dic 0 rfl) (c.fact 134 rfl) (by decide +kernel) (by decide), dkc_of (a := fun K => ga K "FIRST_NUMBERS") (kvs := firstNumbers) (c.dic 1 rfl) (c.fact 135 rfl) (by decide +kernel) (by decide)⟩ (tb2 (tb _ List.mem_cons_self)) (tb2 (tb _ (List.mem_cons_of_mem _ List.mem_cons_self)))⟩
end My


namespace My
open PySem PySem.Spec PyProof.Rows L2 _root_.He HdF
def adrL0 : List (Addr) := [3, 2, 21, 79, 86, 93, 100, 107, 1080, 1087, 1092, 1099, 1106, 1113, 1120, 1127, 1134, 1139, 654, 168, 619, 523, 488, 280, 834, 912, 399, 1069, 51, 70, 108, 109, 839, 31, 653, 167, 618, 522, 487, 279]
def adrL1 : List (Addr) := [833, 911, 398, 1068, 50, 69, 30, 637, 644, 123, 151, 158, 541, 506, 415, 422, 186, 672, 679, 693, 714, 721, 853, 861, 868, 875, 880, 887, 902, 909, 301, 931, 1016, 1031, 1038, 48, 67, 20, 78, 85]
def adrL2 : List (Addr) := [92, 99, 106, 1079, 1086, 1091, 1098, 1105, 1112, 1119, 1126, 1133, 1138, 636, 643, 122, 150, 157, 540, 505, 414, 421, 185, 671, 678, 692, 713, 720, 852, 860, 854, 867, 874, 879, 886, 901, 895, 908, 300, 293]
def adrL3 : List (Addr) := [288, 930, 924, 1015, 1009, 1030, 1024, 1037, 47, 66]
def adrL : List (Addr) := adrL0 ++ adrL1 ++ adrL2 ++ adrL3
def looseL0 : List (Str) := ["_wall", "__name__", "YardError", "BadLevel", "BadName", "LETTERS", "DIGITS", "is_integer", "is_word_sign", "is_part", "is_dotted", "is_logger_name", "WARNING", "NOTSET", "FIRST_NAMES", "FIRST_NUMBERS", "LevelTable", "Handler", "StreamHandler", "Roster", "Written", "Store", "Clock", "Logger", "ROOT_NAMES", "LoggerTree", "Yard", "_law_draw", "_law_pick", "_law_same"]
def looseL1 : List (Str) := ["_law_parent", "_law_chain", "_law_tree", "_law_made", "_law_effective", "_law_are_right"]
def looseL : List (Str) := looseL0 ++ looseL1
abbrev theRow : PySem.W.OpenRow := PySem.W.OpenLaw.row PySem.Challenge.rw_recordyard_k24_bars_and_disabled
abbrev theView : Program := PySem.W.view theRow.prog [47]
def obL (s : PySem.W.SharedT) : AlY := obsY FF tfL adrL (HandSHeadRun.getT s)
theorem obL_eq (s : PySem.W.SharedT) : obL s = (hookY adrL FF tfL).obs s.abs := obsY_eq (HandSHeadRun.getT_eq s)
theorem runF (w : World) : HandSHeadRun.RunEq theRow theView (hookY adrL FF tfL) obL 30000 looseL (w.withFollow "special-get-raises" false) := by
  intro os
  kernel_rfl
theorem runT (w : World) : HandSHeadRun.RunEq theRow theView (hookY adrL FF tfL) obL 30000 looseL (w.withFollow "special-get-raises" true) := by
  intro os
  kernel_rfl
theorem run (w : World) : HandSHeadRun.RunEq theRow theView (hookY adrL FF tfL) obL 30000 looseL w :=
  PySem.W.byRow2 "special-get-raises" (P := fun w => HandSHeadRun.RunEq theRow theView (hookY adrL FF tfL) obL 30000 looseL w) runF runT w
end My
open PySem PySem.W PySem.Calls PyProof.Rows
theorem PySem.Challenge.cw_recordyard_k24_bars_and_disabled_holds : PySem.Challenge.rw_recordyard_k24_bars_and_disabled.Holds := by
  w_on; o_law
  refine HandSHeadRun.head_any (r := OpenLaw.row PySem.Challenge.rw_recordyard_k24_bars_and_disabled) (q := My.theView) (H := HdF.hookY My.adrL My.FF My.tfL) (ob := My.obL) (M := 30000) (loose := My.looseL) (d := HandSHeadRun.topDef (OpenLaw.row PySem.Challenge.rw_recordyard_k24_bars_and_disabled).prog 47) (kwd := []) My.obL_eq
    (by kernel_rfl) (fun s => by kernel_rfl) My.run (by kernel_rfl) (by kernel_rfl) (by kernel_rfl) (by rfl) (by first | assumption | decide +kernel) (by decide +kernel) ⟨rfl, rfl, rfl, rfl, rfl, by decide +kernel⟩ ?hw ?hc
  case hw => w_witness2
  case hc =>
    refine LamX.walk_ofTsE (l := PySem.Challenge.rw_recordyard_k24_bars_and_disabled) (n := 63) (k := 9) (x := "_law_script") (CX := fun _ => L2.CX0) rfl (by decide) (by kernel_rfl) ⟨rfl, by decide, by decide⟩ ?F (fun _ _ _ _ _ z => z)
    intro w mg fa h Y G hmg0
    obtain ⟨K, KX, c⟩ := Y
    have hmg : mg ("law" : PySem.Str) = some (.ref fa) := by
      have e : (HandSHeadRun.topDef (OpenLaw.row PySem.Challenge.rw_recordyard_k24_bars_and_disabled).prog 47).name = ("law" : PySem.Str) := by kernel_rfl
      rw [← e]
      exact hmg0
    obtain ⟨fd, hb, hF⟩ := My.facts (P := (PySem.Challenge.rw_recordyard_k24_bars_and_disabled).prog) (w := w) KX G hmg c.f (by kernel_rfl) (by kernel_rfl)
    refine ⟨K, KX, fd, My.tfL.map (He.cT K), My.spLaw K (He.cT K ("is_part", none)).2 (He.cT K ("is_dotted", none)).2, fun p hp => ?_, fun p hp => ?_, fun p hp => ?_, hb, fun H a ns _ _ hH hS => .a ⟨a, ns, rfl, hS, HdF.tabG_new (hH _ List.mem_cons_self), HdF.tabG_new (hH _ (List.mem_cons_of_mem _ List.mem_cons_self)), fun _ => rfl⟩, hF⟩
    all_goals obtain ⟨q, hq, rfl⟩ := List.mem_map.mp hp
    · exact c.empty q hq
    · exact c.out q hq
    · exact PySem.W.codeHd_of_K KX (c.hd q hq)
