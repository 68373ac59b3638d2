import PyProof.Rows.All
import Wide.All
import OpenK.AllK
import Wide.FinOn
import PyProof.EqAt
import PyProof.EqKinds
import PyProof.TupleCall
import HandS.ForMost
import HandS.SortInts
import KE.KExcSuper
import HandS.Nested
import HandS.ExcInit
import HandS.ExcIs
import HandS.IsInst
import HandS.ExcField
import KE.KExcIs
import HandS.WordsExc
import HandS.ExcOwn
import HandS.RaiseMore
import HandS.FStr
import HandS.Text
import HandS.Conv
import HandS.Codes
import HandS.AnyAll
import HandS.Sort
import HandS.Zip
import HandS.Walk
import KE.KEqSeq
import HandS.TupMul
import HandS.TupAny
import HandS.Deep
import HandS.Style
import HandS.EndTab
import PySem.Challenge.RW_longago_k22_texts_spoilt_anywhere
set_option Elab.async false
set_option linter.all false
set_option maxRecDepth 100000
set_option maxHeartbeats 4000000
namespace Lg
open PySem PySem.Spec PyProof.Rows L2
def topS (i : Nat) : Stmt := PySem.Challenge.pw_longago_k22_texts_spoilt_anywhere.main.body.getD i (.Pass ⟨0, 0, 0, 0⟩)
abbrev cLongError : Stmt := topS 1
abbrev cBadChain : Stmt := topS 2
abbrev cBadText : Stmt := topS 3
abbrev cNoSuch : Stmt := topS 4
abbrev cNotOne : Stmt := topS 5
abbrev cNeverOne : Stmt := topS 6
abbrev cNotOrdered : Stmt := topS 7
abbrev cTooMany : Stmt := topS 8
abbrev cChain : Stmt := topS 13
abbrev sIsMove : Stmt := topS 14
abbrev sWritten : Stmt := topS 16
abbrev sRead : Stmt := topS 17
abbrev sMany : Stmt := topS 18
abbrev sMove : Stmt := topS 19
abbrev sNumber : Stmt := topS 20
abbrev sCell : Stmt := topS 22
abbrev sDice : Stmt := topS 23
abbrev sOff : Stmt := topS 24
abbrev sChain : Stmt := topS 25
abbrev sLawFigure : Stmt := topS 26
abbrev sLawMove : Stmt := topS 27
abbrev sLawRead : Stmt := topS 28
abbrev sLawIsChain : Stmt := topS 29
abbrev sLawSpoilt : Stmt := topS 30
abbrev sLawWord : Stmt := topS 31
abbrev sLaw : Stmt := topS 32
section
/-- what e makes is locked for good -/
theorem pe_frz {X : Cx} {e : Expr} {t : TE} (h : PE X e t) : PE X e (fun σ H Q => t σ H fun x H1 => ∃ d u, x = .ref d ∧ H1 d = some u ∧ Mut (some u) ∧ ∀ od, Q x (upd H1 d (.frz od u))) := by
  constructor
  intro pins s σ H Q I hw
  refine thn (h.run pins s σ H _ I hw) fun v s1 got => ?_
  obtain ⟨x, H1, I1, r, d, u, ex, hd, mu, q⟩ := got
  obtain ⟨od, I2⟩ := I1.lock hd mu
  exact ⟨x, _, I2, r, q od⟩
end
section
open PySem.W PySem.Calls NdefX
/-! ### an own error whose __init__ begins with super().__init__(..) -/
theorem inv_pin {X : Cx} {σ : L2.St} {H : Hp} {s : Shared} {u : Addr} {o : Obj} (I : Inv X [] σ H s) (hu : s.heap.get? u = some o) (n : H u = none) (nl : u ≠ X.env.locals) (nf : u ∉ X.fs) (nc : ∀ v, o.data ≠ .cell v) : Inv X [(u, o)] σ H s :=
  ⟨I.ok, I.os, I.bare, I.base, I.loc, I.cell, I.free, I.freeC, fun p hp => by
    rcases List.mem_append.mp hp with hp | hp
    · exact I.pin p (List.mem_append_left _ hp)
    · rw [List.mem_singleton.mp hp]
      exact ⟨hu, n, nl, nf, nc⟩, I.hok, I.len⟩
theorem inv_unpin {X : Cx} {σ : L2.St} {H : Hp} {s : Shared} {pins : List (Addr × Obj)} (I : Inv X pins σ H s) : Inv X [] σ H s := by
  refine ⟨I.ok, I.os, I.bare, I.base, I.loc, I.cell, I.free, I.freeC, fun p hp => ?_, I.hok, I.len⟩
  rw [List.append_nil] at hp
  exact I.pin p (List.mem_append_left _ hp)
def oexB (K : PySem.W.Frag) (C : Addr) : Bool := match K.lookup C with
  | some ⟨.type "type", _, .cls cd, sl⟩ => (match cd.mro, sl.toList with
    | .ref C' :: bm, [_, _, _, _, some (.builtin n), _] => C' == C && n == "ValueError.__new__" && !cd.hasDel && cd.hasDict && PySem.HandSPX.refsVE bm
    | _, _ => false)
  | _ => false
theorem oexB_ok {K : PySem.W.Frag} {C : Addr} (q : oexB K C = true) (h1 : PySem.W.findIn K (.ref C) "__setattr__" = some (some (.builtin "object.__setattr__"))) (h2 : PySem.W.subIn K (.ref C) (.type "BaseException") = some true) (h3 : PySem.W.typeIn K (.ref C) = some (.type "type")) (h4 : PySem.W.keepIn K (.ref C) = true) : OexC K C := by
  refine ⟨?_, h1, h2, h3, h4⟩
  unfold oexB at q
  split at q
  · rename_i dd cd sl ho
    split at q
    · rename_i C' bm k0 k1 k2 k3 n k5 hm hs
      simp only [Bool.and_eq_true, beq_iff_eq, Bool.not_eq_true'] at q
      obtain ⟨⟨⟨⟨rfl, rfl⟩, hdel⟩, hdict⟩, hr⟩ := q
      obtain ⟨nm, bs, mro, ns, qn, hd, sn, sub, ab, col, del⟩ := cd
      dsimp only at hm hdel hdict
      subst hm hdel hdict
      have hsl : sl = #[k0, k1, k2, k3, some (.builtin "ValueError.__new__"), k5] := by
        obtain ⟨l⟩ := sl
        simp only at hs
        rw [hs]
      subst hsl
      exact ⟨nm, qn, ns, bs, bm, sn, sub, ab, col, dd, k0, k1, k2, k3, k5, ho, hr⟩
    · cases q
  · cases q
structure SupE (P : Program) (K : PySem.W.Frag) (C cc cda : Addr) : Prop where
  X : OexC K C
  code : ∃ ccl cdd vs ccs file tf, K.lookup cda = some ⟨ccl, cdd, .fields vs, ccs⟩ ∧ vs[2]? = some (.str file tf) ∧ ((P.main.file : Str) == file) = true
  cell : ∃ cl cld csl, K.lookup cc = some ⟨cl, cld, .cell (some (.ref C)), csl⟩
  cls : ∃ cd, clsIn K C = some cd
  sub : mroIn K C (.ref C) = some true
  gs : nsIn K mainGlobals "super" = some none
  htop : (P.main.scope.names.lookup ("super" : Str)).isSome = false
  op : nsIn K cStatics "thirdparty.any" = some none
  al : ks_superIn K C C "__init__" = some (some (.builtin "ValueError.__init__"))
  ve : subIn K (.ref C) (.type "ValueError") = some true
variable {CX : CXT} {P : Program} {w : World} {K : PySem.W.Frag} {mg : Str → Option Value} {base : Heap}
/-- super().__init__ of a def: what comes of the name -/
theorem sup_method {X : Cx} {σ : L2.St} {H : Hp} {s : Shared} {C cc cda f x : Addr} {qual : Str} {scope : Scope} {body : List Stmt} {p0 p1 : Pos} {whole : Sem Value} {fd : FuncData} {ar : Arg} {oc : Value} {od : Option Addr} {osl : Array (Option Value)} {pl : Sem Bool} {Q : Value × List Value → Shared → Prop}
    (T : SupE X.prog X.K C cc cda) (I : Inv X [] σ H s) (henv : X.env = envX qual scope s_loc f (.ref cda) [("__class__", cc)])
    (lk : X.K.lookup f = some ⟨oc, od, .func fd, osl⟩) (hp : (fd.params.posonlyargs ++ fd.params.args).head? = some ar) (hN : X.N[0]? = some ar.arg) (hσ : σ[0]? = some (some (.ref x))) (hx : H x = some (exo x C none))
    (hks : scope.names.lookup ("super" : Str) = some .globalImplicit) (hkc : scope.names.lookup ("__class__" : Str) = some .free) (hka : scope.names.lookup ar.arg = some .local)
    (q : ∀ u s', u ≠ x → s'.heap.get? u = some (kxs_mw "ValueError.__init__" x) → Inv X [(u, kxs_mw "ValueError.__init__" x)] σ H s' → Q (.ref u, []) s') :
    PySem.wpAt (model X.prog X.w) X.A (.func body X.env) (attributeBase (.Call (.Name "super" p0) [] [] p1) "__init__" X.env whole) (fun ov s₁ => wpAny (model X.prog X.w) X.A (getMethod ov "__init__" pl) Q X.xe s₁) X.xe s := by
  obtain ⟨ccl, cdd, vs, ccs, file, tf, hc1, hc2, hc3⟩ := T.code
  obtain ⟨cl, cld, csl, hcell⟩ := T.cell
  obtain ⟨cd, hcd⟩ := T.cls
  have KX := I.kIn
  obtain ⟨oD, hD1, hD2⟩ : ∃ oD, s.heap.get? C = some oD ∧ oD.data = .cls cd := by
    have hD := hcd
    unfold clsIn at hD
    split at hD
    · rename_i c d cd' sl ho
      cases hD
      exact ⟨_, KX _ _ ho, rfl⟩
    · cases hD
  obtain ⟨t1, ho⟩ := exo_at I.hok hx
  have J : InstAt s.heap x _ C none := ⟨ho, rfl, rfl, trivial⟩
  obtain ⟨m, hns, hl⟩ := I.loc
  have hks' : X.env.kindOf "super" = some .globalImplicit := by rw [henv]; exact hks
  have hkc' : X.env.kindOf "__class__" = some .free := by rw [henv]; exact hkc
  have hka' : X.env.kindOf ar.arg = some .local := by rw [henv]; exact hka
  have hscn : X.env.scope.names = scope.names := by rw [henv]
  have hv : m ar.arg = some (.ref x) := by
    obtain ⟨u, ru, lu⟩ := hl 0 ar.arg (.ref x) hN hσ (.inl (by show X.env.scope.names.lookup ar.arg = _; rw [hscn]; exact hka))
    have eu : u = .ref x := ru
    subst eu
    rcases lu with ⟨_, h⟩ | ⟨h, _⟩
    · exact h
    · rw [hka'] at h
      rcases h with h | h <;> cases h
  obtain ⟨mb, hmb, hmb2⟩ := I.ok.mod.blt
  refine ks_wpAt_super_base (env := X.env) hks' hkc' (by decide) (by rw [henv]) (KX _ _ lk) rfl hp (by rw [henv]) (KX _ _ hc1) rfl hc2 hc3 T.htop ?_
  have hsc : X.env.scope.kind = .function := I.ok.kind
  refine ks_loadName_global hsc hks' (loadGlobal_builtin (env := X.env) (by rw [I.ok.glob]; exact I.ok.mod.glob.keeps I.bk) (mg_none_of I.ok.mod.kin I.ok.mod.glob T.gs) (by rw [I.ok.blt]; exact hmb.keeps I.bk) ((hmb2 _ (by decide)).trans (by decide +kernel)) ⟨rfl, ?_⟩)
  refine wpAny_loadName_free hsc hkc' (c := cc) (by rw [henv]; rfl) ⟨_, KX _ _ hcell, rfl⟩ ?_
  refine wpAny_loadName_local hsc hka' hns hv ?_
  refine ks_wpAny_isType_cls hD1 hD2 ⟨rfl, ?_⟩
  obtain ⟨hh, g, d, t, os⟩ := s
  refine ks_wpAny_call_super hD1 hD2 ho rfl (fun c e => by cases e) (looks_mroIn KX T.sub) (fun h' e k => ?_)
  have I2 : Inv X [] σ H ⟨h', g, d, t, os⟩ := I.un (h' := h') (t' := t) (Un.kept k) (I.hok.kept k)
  have KX2 : X.K.In h' := I2.kIn
  obtain ⟨t2, ho2⟩ := exo_at I2.hok hx
  have J2 : InstAt h' x _ C none := ⟨ho2, rfl, rfl, trivial⟩
  have hI : Looks (model X.prog X.w) h' (isInstance (.ref x) (.type "ValueError")) true := J2.type.andThen (looks_subIn KX2 T.ve)
  have al := T.al
  unfold ks_superIn at al
  rw [hcd] at al
  refine kxs_getMethod kxs_ValueError e (looks_opaque KX2 T.op) (l₀ := cd.mro) (fun A Q E s k q => wpAny_bind ((looks_clsIn KX2 hcd) A _ E s k (wpAny_pure q))) rfl KX2 al hI (ks_ne KX2 J2 hcd) (by decide) ?_
  have I3 : Inv X [] σ H ⟨h'.push (kxs_mw "ValueError.__init__" x), g, d, t + 1, os⟩ := I2.un (h' := h'.push (kxs_mw "ValueError.__init__" x)) (t' := t + 1) (Un.kept fun b o e => Heap.get?_push_of_some _ e) (I2.hok.kept fun b o e => Heap.get?_push_of_some _ e)
  have hu : (h'.push (kxs_mw "ValueError.__init__" x)).get? h'.objs.size = some (kxs_mw "ValueError.__init__" x) := Heap.get?_push_at rfl rfl
  have hn : H h'.objs.size = none := I2.hok.fresh (Nat.le_refl _)
  refine q _ _ (fun z => ?_) hu (inv_pin I3 hu hn (Ne.symm (Nat.ne_of_lt I2.lt)) (I2.nofs (Nat.le_refl _)) fun v z => by cases z)
  rw [z, hx] at hn
  cases hn

/-- the wrapper called: the arguments are laid anew, the error stays as new -/
theorem sup_call {X : Cx} {σ : L2.St} {H : Hp} {s : Shared} {C x u : Addr} {us : List Value} {E : Value → Shared → Prop} {Q : Value → Shared → Prop} (T : OexC X.K C) (I : Inv X [(u, kxs_mw "ValueError.__init__" x)] σ H s) (hx : H x = some (exo x C none)) (hz : us.length ≤ sizeLine)
    (q : ∀ s', Inv X [] σ H s' → Q .none s') : wpAny (model X.prog X.w) X.A (call (.ref u) us) Q E s := by
  obtain ⟨nm, qn, N, bs, bm, sn, sub, ab, col, dd, k0, k1, k2, k3, k5, hC, hbm⟩ := T.cls
  obtain ⟨t1, he⟩ := exo_at I.hok hx
  have hu : s.heap.get? u = some (kxs_mw "ValueError.__init__" x) := (I.pin (u, kxs_mw "ValueError.__init__" x) (by simp)).1
  have hC' := I.kIn _ _ hC
  have I0 := inv_unpin I
  obtain ⟨hh, g, d, t, os⟩ := s
  have FB := F.excBase_ValueError
  refine wpAny_call (codeAny_of_tree ?_)
  show wpAny _ X.A.in1 (callAny (.ref u) ⟨us, []⟩) _ _ _
  simp only [callAny]
  refine wpAny_bind (wpAny_load hu ?_)
  simp only [kxs_mw, show (Value.type "method-wrapper" == Value.type "method" || Value.type "method-wrapper" == Value.type "builtin_function_or_method" || Value.type "method-wrapper" == Value.type "method-wrapper") = true by decide, if_true]
  refine KFB.if_so (by decide) ?_
  refine wpAny_bind (check_bound_init F.excBase_ValueError.toExcCallFacts hC' he rfl ?_)
  refine wpAny_bind (wpAny_pure (wpAny_pure ?_))
  refine ⟨plainId_quiet F.excBase_ValueError.init.plain _, codeAny_builtin F.excBase_ValueError.initEntry ?_⟩
  refine exc_init_tree (cls := .ref C) (t0 := t1) (dv := none) (c2 := .none) (c3 := .none) (b4 := .bool false) he hz (fun h' k hx' ht => ?_)
  have J := I0.write (t' := t) (x := x) (e := x) (o := exo x C none) (by rw [hx]; exact True.intro) (.inl rfl) k ⟨_, hx'⟩ (exo_ok hx')
  have eu : upd H x (exo x C none) = H := by
    funext b
    by_cases hb : b = x
    · rw [hb, upd_same, hx]
    · rw [upd_ne hb]
  rw [eu] at J
  exact q _ J
/-- THE RULE: such a def by its arguments' reading and the rest's -/
theorem fn_sup {k : Nat} {f C cc cda : Addr} {name qual : Str} {params : Arguments} {scope : Scope} {e : Expr} {es : List Expr} {rest : List Stmt} {p0 p1 p2 p3 p4 : Pos} {dV kV doc pm ct oc : Value} {an od : Option Addr} {osl : Array (Option Value)} {N ps : List Str} {sp : Sp} {ar : Arg} {pl : Sem Bool}
    (T : SupE P K C cc cda)
    (lk : K.lookup f = some ⟨oc, od, .func (fnX name qual params (.Expr (.Call (.Attribute (.Call (.Name "super" p0) [] [] p1) "__init__" p2) (e :: es) [] p3) p4 :: rest) scope [("__class__", cc)] dV kV doc pm an (.ref cda) ct), osl⟩) (hcd : codeIn K (.ref cda) qual = true)
    (S : NScope N ps ["__class__"] scope) (hp : (params.posonlyargs ++ params.args).head? = some ar) (hN : N[0]? = some ar.arg) (hks : scope.names.lookup ("super" : Str) = some .globalImplicit) (hka : scope.names.lookup ar.arg = some .local)
    (hev : ∀ env : Env, env.scope = scope → eval (.Call (.Attribute (.Call (.Name "super" p0) [] [] p1) "__init__" p2) (e :: es) [] p3) env = (do
      let ov ← attributeBase (.Call (.Name "super" p0) [] [] p1) "__init__" env (eval (.Call (.Name "super" p0) [] [] p1) env)
      standAt p2.atName
      let (f, first) ← holding [ov] (getMethod ov "__init__" pl)
      callWith p3 f first (backTo p3 (starEach (e :: es) env)) []))
    (hst : ∀ env : Env, starEach (e :: es) env = (false, eval e env) :: starEach es env) (hpl : ∀ env : Env, (backTo p3 (starEach es env)).any (·.1) = false)
    (hin : ∀ env : Env, env.scope = scope → interactive env = false) (hsw : ∀ env : Env, env.scope = scope → swapsWith (.Call (.Attribute (.Call (.Name "super" p0) [] [] p1) "__init__" p2) (e :: es) [] p3) none p4.line env = pure false)
    (len : ∀ vs H Q E, sp vs H Q E → vs.length = ps.length)
    (hbody : ∀ (A : Around) (outer : List Env) (s : Shared) (H : Hp) (vs : List V) (Q : VK) (E : XK), Room k (A.deeper (envF ⟨name, qual, params, rest, scope, [("__class__", cc)], cda⟩ f s.heap.objs.size)) → sp vs H Q E →
      ∃ (x : Addr) (ta : TA) (t : TS), vs[0]? = some (.ref x) ∧ H x = some (exo x C none) ∧ PA (ncx CX P w K mg base N ⟨name, qual, params, rest, scope, [("__class__", cc)], cda⟩ f A outer s H E) (e :: es) ta ∧ PSs (ncx CX P w K mg base N ⟨name, qual, params, rest, scope, [("__class__", cc)], cda⟩ f A outer s H E) rest t ∧
        ta (startF N vs [none]) H (fun ws H1 => ws.length ≤ 1000 ∧ H1 x = some (exo x C none) ∧ t { nx := fun _ H' => Q .non H', rt := Q } (startF N vs [none]) H1)) :
    FnOk P w K mg base CX (k + 1) f (fnX name qual params (.Expr (.Call (.Attribute (.Call (.Name "super" p0) [] [] p1) "__init__" p2) (e :: es) [] p3) p4 :: rest) scope [("__class__", cc)] dV kV doc pm an (.ref cda) ct) ps sp := by
  refine ⟨len, fun A outer s H args us vs Q E hr e0 hb r hsp => ?_⟩
  have hl := len _ _ _ _ hsp
  have KX : K.In s.heap := e0.mod.kin.keeps fun b o e => (e0.bs b o e).1
  have lim : s.heap.NoLimit := e0.mod.nolimit.keeps fun b o e => (e0.bs b o e).1
  obtain ⟨cl, cld, csl, hcell⟩ := T.cell
  refine codeAny_call_function hr.depth (KX _ _ lk) rfl S.co S.gen rfl (PySem.W.codeRec_of KX hcd) (hb _ _ _ _ ?_)
  refine wpAny_newFunctionEnv S.nocell (fun ⟨n, _⟩ hy => S.par n (List.of_mem_zip hy).1) (fun h₁ hns hsb => ⟨lim.fresh _ hsb, ?_⟩) S.kind
  have kp : ∀ b o, s.heap.get? b = some o → h₁.get? b = some o := fun b o e => hsb.extBut b o (Nat.ne_of_lt (Heap.lt_size e)) (Heap.get?_push_of_some _ e)
  obtain ⟨x, ta, t, hx0, hx, hA, hS, hq⟩ := hbody A outer s H vs Q E (hr.deeper _) hsp
  have CA : CellsAt [("__class__", cc)] ["__class__"] [none] s.heap H := by
    have lc : ∀ {y c}, ([("__class__", cc)] : List (Str × Addr)).lookup y = some c → c = cc := fun {y c} h => by
      have := PySem.mem_of_lookup h
      rw [List.mem_singleton] at this
      exact (Prod.mk.inj this).2
    have ln : ∀ {y c}, ([("__class__", cc)] : List (Str × Addr)).lookup y = some c → y = "__class__" := fun {y c} h => by
      have := PySem.mem_of_lookup h
      rw [List.mem_singleton] at this
      exact (Prod.mk.inj this).1
    have bc : base.get? cc = some ⟨cl, cld, .cell (some (.ref C)), csl⟩ := e0.mod.kin _ _ hcell
    refine ⟨rfl, fun y c h => ?_, fun a b c h1 h2 => (ln h1).trans (ln h2).symm, fun i y h => ?_⟩
    · rw [lc h]
      exact ⟨(e0.bs _ _ bc).2, _, _, (e0.bs _ _ bc).1, rfl⟩
    · cases i with
      | zero =>
        simp at h
        subst h
        exact ⟨cc, rfl, fun v hv => by simp at hv⟩
      | succ i => simp at h
  have I : Inv (ncx CX P w K mg base N ⟨name, qual, params, rest, scope, [("__class__", cc)], cda⟩ f A outer s H E) [] (startF N vs [none]) H { s with heap := h₁, toks := s.toks + (ps.zip us).length } := inv_startN S hr.hd e0 hl r CA hns kp
  show codeAny _ _ (.func (.Expr _ p4 :: rest) (envF ⟨name, qual, params, rest, scope, [("__class__", cc)], cda⟩ f s.heap.objs.size)) _ _
  refine ks_codeAny_funcAt (ks_wpAt_execs_cons (ks_wpAt_Expr_any (ks_wpAt_MethodCall (pl := pl) ?_ (hev _ rfl)) (hin _ rfl) (hsw _ rfl)))
  have hσ : (startF N vs [none])[0]? = some (some (.ref x)) := by
    unfold startF
    cases vs with
    | nil => simp at hx0
    | cons v r =>
      simp at hx0
      subst hx0
      rfl
  have fin : ∀ {σ' : L2.St} {H' : Hp} {v : V} {u : Value} {s' : Shared}, Inv (ncx CX P w K mg base N ⟨name, qual, params, rest, scope, [("__class__", cc)], cda⟩ f A outer s H E) [] σ' H' s' → L2.RelV v u → Q v H' → CE outer P w H s Q u s' :=
    fun {σ' H' v u s'} J rv q => ⟨v, H', J.os, J.bare, J.base, J.hok, rv, q⟩
  refine sup_method (X := ncx CX P w K mg base N ⟨name, qual, params, rest, scope, [("__class__", cc)], cda⟩ f A outer s H E) (s_loc := s.heap.objs.size) T I rfl lk hp hN hσ hx hks (S.frk _ (by simp)) hka (fun u s1 nux hu I1 => ?_)
  show wpAny _ _ (callWith p3 (.ref u) [] (backTo p3 (starEach (e :: es) _)) []) _ _ _
  have hrun := hA.run p3 [(u, kxs_mw "ValueError.__init__" x)] s1 (startF N vs [none]) H _ I1 hq
  rw [hst] at hrun ⊢
  refine kxs_callWith (i := "ValueError.__init__") (x := x) (by show (false || (backTo p3 (starEach es _)).any (·.1)) = false; rw [hpl]; rfl) ?_
  refine evalArgs_plain (thn hrun fun us1 s2 ⟨ws, H1, I2, r1, hw, hx1, q1⟩ => ⟨(I2.pin (u, kxs_mw "ValueError.__init__" x) (by simp)).1, ?_⟩)
  refine sup_call (X := ncx CX P w K mg base N ⟨name, qual, params, rest, scope, [("__class__", cc)], cda⟩ f A outer s H E) T.X I2 hx1 (by show us1.length ≤ sizeLine; rw [← r1.length, sizeLine_eq]; omega) (fun s3 I3 => ?_)
  refine wpAt_of_wpAny (wpAny_mono (hS.run [] _ (startF N vs [none]) H1 _ I3 q1) (fun fl s' hs => ?_) fun e s' hs => hs)
  cases fl with
  | ret u =>
    obtain ⟨v, σ', H', J, rv, q⟩ := hs
    exact fin J rv q
  | next =>
    obtain ⟨σ', H', J, q⟩ := hs
    exact fin (v := V.non) (u := Value.none) J rfl q
  | brk =>
    obtain ⟨_, _, _, q⟩ := hs
    exact False.elim q
  | cont =>
    obtain ⟨_, _, _, q⟩ := hs
    exact False.elim q
end
/-! ### isinstance(e, (A, B, ..)) of the exception that an except suite holds: a rule of our own -/
/-- e, the classes in a tuple -/
def rExT (K : PySem.W.Frag) (D a : Addr) : List V → Hp → VK → Prop := fun xs H Q =>
  ∃ (tp : Addr) (cs : List V) (us : List Value) (b : Bool), xs = [.ref a, .ref tp] ∧ H tp = some (.tup cs) ∧ Paired ClsV cs us ∧ PySem.W.kitAny K (.ref D) us = some b ∧ Q (.bl b) H
theorem held_at {oe : Obj} {a D : Addr} {h : Heap} (got : h.get? a = some oe) (z : Zc (.ref D) none oe) (f : ∃ vs, oe.data = .fields vs) : PySem.W.InstAt h a oe D none := by
  obtain ⟨vs, fv⟩ := f
  obtain ⟨c0, d0, data0, s0⟩ := oe
  have z1 : c0 = .ref D := z.1
  have z2 : d0 = none := z.2
  have z3 : data0 = .fields vs := fv
  subst z1
  subst z2
  subst z3
  exact ⟨got, rfl, rfl, trivial⟩
theorem call_exT {X : Cx} {a D : Addr} {oe : Obj} {pn : List (Addr × Obj)} (C : ExcC X.K D) (z : Zc (.ref D) none oe) (f : ∃ vs, oe.data = .fields vs) : CallR (X.suite a ((a, oe) :: pn)) (.builtin "isinstance") (rExT X.K D a) := by
  intro pins s σ H xs us Q I r h
  obtain ⟨tp, cs, ws, b, rfl, hT, k, e, q⟩ := h
  obtain ⟨u1, u2, rfl, r1, r2⟩ := vals2 r
  cases (show u1 = Value.ref a from r1)
  cases (show u2 = Value.ref tp from r2)
  have got := (I.pin (a, oe) (List.mem_append.mpr (.inl List.mem_cons_self))).1
  obtain ⟨_, its, rv, ⟨oc, od, dt, sl⟩, g1, g2, n, g3⟩ := (show ObjOk X.prog X.w H s.heap tp (.tup cs) from I.hok tp _ hT)
  have same := ClsV.all k rv
  subst same
  have c1 : oc = .type "tuple" := g2
  have c2 : dt = .seq its.toArray n := g3
  subst c1
  subst c2
  exact PySem.W.kia_tup (PySem.W.handS_kitx_exc C.hg C.hk C.hs C.hd C.ha C.hn C.ht C.hm) I.kIn (held_at got z f) g1 e (fun z => nomatch z) fun tk => ⟨.bl b, H, I.tok tk, rfl, q⟩
/-! ### isinstance of a caught error that bears fields -/
/-- isinstance(e, c), the dict of e at dd -/
def rIsD (K : PySem.W.Frag) (D a dd : Addr) : List V → Hp → VK → Prop := fun xs H Q => ∃ (c : V) (cv : Value) (b : Bool) (fs : List (Str × V)), xs = [.ref a, c] ∧ (∀ u, RelV c u → u = cv) ∧ PySem.W.kitOne K (.ref D) cv = some b ∧ H dd = some (.xd fs) ∧ Q (.bl b) H
/-- .. the classes in a tuple -/
def rExD (K : PySem.W.Frag) (D a dd : Addr) : List V → Hp → VK → Prop := fun xs H Q =>
  ∃ (tp : Addr) (cs : List V) (us : List Value) (b : Bool) (fs : List (Str × V)), xs = [.ref a, .ref tp] ∧ H tp = some (.tup cs) ∧ Paired ClsV cs us ∧ PySem.W.kitAny K (.ref D) us = some b ∧ H dd = some (.xd fs) ∧ Q (.bl b) H
theorem instD {X : Cx} {pins : List (Addr × Obj)} {σ : L2.St} {H : Hp} {s : Shared} {a D dd : Addr} {oe : Obj} {fs : List (Str × V)} (I : Inv X pins σ H s) (got : s.heap.get? a = some oe) (z : Zc (.ref D) (some dd) oe) (f : ∃ vs, oe.data = .fields vs) (e : H dd = some (.xd fs)) : ∃ od, PySem.W.InstAt s.heap a oe D (some od) := by
  have hx : ObjOk X.prog X.w H s.heap dd (.xd fs) := I.hok dd _ e
  obtain ⟨mA, hns, hr⟩ := hx
  obtain ⟨od, ho, hl⟩ := lookIn_ns hns
  obtain ⟨vs, hd⟩ := f
  exact ⟨od, got, z.1, by unfold PySem.W.notCls; rw [hd] <;> rfl, by rw [z.2]; exact ho⟩
theorem kitD {K : PySem.W.Frag} {x D : Addr} {ox : Obj} {od : Option Obj} (C : ExcC K D) : PySem.W.KitX K (.ref x) (.ref D) (fun h => PySem.W.InstAt h x ox D od) := by
  obtain ⟨cd, hc, _⟩ := PySem.W.any_some C.hd
  exact PySem.W.kitx_exc (by rw [hc]; rfl) C.hg C.hk C.hs C.ha C.hn C.ht C.hm
theorem call_isD {X : Cx} {a D dd : Addr} {oe : Obj} {pn : List (Addr × Obj)} (C : ExcC X.K D) (hz : Zc (.ref D) (some dd) oe) (hf : ∃ vs, oe.data = .fields vs) : CallR (X.suite a ((a, oe) :: pn)) (.builtin "isinstance") (rIsD X.K D a dd) := by
  intro pins s σ H xs us Q I r h
  obtain ⟨c, cv, b, fs, rfl, hcv, e, ed, q⟩ := h
  cases r with
  | cons rx rr =>
    cases rr with
    | cons rt rr =>
      cases rr
      cases rx
      have ec := hcv _ rt
      subst ec
      obtain ⟨hget, _⟩ := I.pin (a, oe) (List.mem_append.mpr (.inl List.mem_cons_self))
      obtain ⟨od, J⟩ := instD I hget hz hf ed
      exact PySem.W.kia_one (kitD C) I.kIn J e (fun z => nomatch z) fun tk => ⟨.bl b, H, I.kept (t' := tk) fun _ _ z => z, rfl, q⟩
theorem call_exD {X : Cx} {a D dd : Addr} {oe : Obj} {pn : List (Addr × Obj)} (C : ExcC X.K D) (z : Zc (.ref D) (some dd) oe) (f : ∃ vs, oe.data = .fields vs) : CallR (X.suite a ((a, oe) :: pn)) (.builtin "isinstance") (rExD X.K D a dd) := by
  intro pins s σ H xs us Q I r h
  obtain ⟨tp, cs, ws, b, fs, rfl, hT, k, e, ed, q⟩ := h
  obtain ⟨u1, u2, rfl, r1, r2⟩ := vals2 r
  cases (show u1 = Value.ref a from r1)
  cases (show u2 = Value.ref tp from r2)
  have got := (I.pin (a, oe) (List.mem_append.mpr (.inl List.mem_cons_self))).1
  obtain ⟨_, its, rv, ⟨oc, od', dt, sl⟩, g1, g2, n, g3⟩ := (show ObjOk X.prog X.w H s.heap tp (.tup cs) from I.hok tp _ hT)
  have same := ClsV.all k rv
  subst same
  have c1 : oc = .type "tuple" := g2
  have c2 : dt = .seq its.toArray n := g3
  subst c1
  subst c2
  obtain ⟨od, J⟩ := instD I got z f ed
  exact PySem.W.kia_tup (kitD C) I.kIn J g1 e (fun z => nomatch z) fun tk => ⟨.bl b, H, I.tok tk, rfl, q⟩
/-- an own error without an __init__ of its own, at C -/
structure OwnE (K : PySem.W.Frag) (mg : Str → Option Value) (x : Str) (C : Addr) : Prop where
  g : mg x = some (.ref C)
  k : PySem.W.keepIn K (.ref C) = true
  x : PySem.W.excIn K C [.type "ValueError", .type "Exception", .type "BaseException", .type "object"] "ValueError.__new__" = true
  b : PySem.W.subIn K (.ref C) (.type "BaseException") = some true
  t : PySem.W.typeIn K (.ref C) = some (.type "type")
theorem app_fits {a b : Str} (h1 : a.length ≤ 1000) (h2 : b.length ≤ 1921) : (a ++ b).length ≤ sizeLine := by
  have e : (a ++ b).length = a.length + b.length := by
    show (a.cps ++ b.cps).size = a.cps.size + b.cps.size
    rw [Array.size_append]
  rw [e]
  exact Nat.le_trans (show a.length + b.length ≤ 2921 by omega) (by decide)
theorem app_le {a b : Str} {m n : Nat} (h1 : a.length ≤ m) (h2 : b.length ≤ n) : (a ++ b).length ≤ m + n := by
  have e : (a ++ b).length = a.length + b.length := by
    show (a.cps ++ b.cps).size = a.cps.size + b.cps.size
    rw [Array.size_append]
  omega
theorem line4k {n : Nat} (h : n ≤ 9000) : n ≤ sizeLine := Nat.le_trans h (by decide)
theorem log_small {n : Int} (h : n.natAbs ≤ 2000000) : n.natAbs.log2 < 1920 := by
  by_cases c : n.natAbs = 0
  · rw [c]
    decide
  · exact (Nat.log2_lt c).mpr (Nat.lt_of_le_of_lt h (by decide))
theorem int_len {n : Int} (h : n.natAbs.log2 < 1920) : (Str.ofString (toString n)).length ≤ 1921 := by
  have e := int_text_length_le (k := 1920) (by decide) h
  rw [PySem.ofString_length]
  omega
theorem fitA {a b : Str} {m n : Nat} (h1 : a.length ≤ m) (h2 : b.length ≤ n) (h : m + n ≤ 9000) : (a ++ b).length ≤ sizeLine := Nat.le_trans (app_le h1 h2) (line4k h)
/-! ### an error that is caught and looked at: isinstance(e, (six others)), then isinstance(e, its own) and isinstance(e, ValueError) -/
theorem FnOk.or {P : Program} {w : World} {K : PySem.W.Frag} {mg : Str → Option Value} {base : Heap} {CX : CXT} {k : Nat} {f : Addr} {fd : FuncData} {ps : List Str} {sp sq : Sp} (F : FnOk P w K mg base CX k f fd ps sp) (G : FnOk P w K mg base CX k f fd ps sq) : FnOk P w K mg base CX k f fd ps (fun vs H Q E => sp vs H Q E ∨ sq vs H Q E) :=
  ⟨fun vs H Q E h => h.elim (F.len vs H Q E) (G.len vs H Q E), fun A outer s H args us vs Q E hr e b v h => h.elim (F.run A outer s H args us vs Q E hr e b v) (G.run A outer s H args us vs Q E hr e b v)⟩
theorem pss_given {X : Cx} {ss : List Stmt} {t : TS} {p : Prop} (h : p → PSs X ss t) : PSs X ss (fun D σ H => p ∧ t D σ H) := ⟨fun pins s σ H D I hh => (h hh.1).run pins s σ H D I hh.2⟩
structure RefG (K : PySem.W.Frag) (mg : Str → Option Value) (xE x1 x2 x3 x4 x5 x6 : Str) (CL CE c1 c2 c3 c4 c5 c6 : Addr) : Prop where
  gL : mg "LongError" = some (.ref CL)
  ex : PySem.W.exmOne K (.ref CE) (.ref CL) = some true
  N : OwnE K mg xE CE
  E : ExcC K CE
  g1 : mg x1 = some (.ref c1)
  g2 : mg x2 = some (.ref c2)
  g3 : mg x3 = some (.ref c3)
  g4 : mg x4 = some (.ref c4)
  g5 : mg x5 = some (.ref c5)
  g6 : mg x6 = some (.ref c6)
  no : PySem.W.kitAny K (.ref CE) [.ref c1, .ref c2, .ref c3, .ref c4, .ref c5, .ref c6] = some false
  yes : PySem.W.kitOne K (.ref CE) (.ref CE) = some true
  val : PySem.W.kitOne K (.ref CE) (.type "ValueError") = some true
  mi : mg "isinstance" = none
  mv : mg "ValueError" = none
def t_suiteG (K : PySem.W.Frag) (i : Nat) (CE c1 c2 c3 c4 c5 c6 : Addr) (a : Addr) : TS :=
  tSeq (tIfS (tB (tCB (rExT K CE a) (tCons (tVar i) (tCons (tTup (tCons (tC (.ref c1)) (tCons (tC (.ref c2)) (tCons (tC (.ref c3)) (tCons (tC (.ref c4)) (tCons (tC (.ref c5)) (tCons (tC (.ref c6)) tNil))))))) tNil)))) (tRet (tC (.bl false))) tNext)
    (tRet (tAndV (tCB (rIsE K CE a) (tCons (tVar i) (tCons (tC (.ref CE)) tNil))) (tCB (rIsE K CE a) (tCons (tVar i) (tCons (tC (.ty "ValueError")) tNil)))))
/-- what the suite comes to -/
theorem suiteG {K : PySem.W.Frag} {mg : Str → Option Value} {xE x1 x2 x3 x4 x5 x6 : Str} {CL CE c1 c2 c3 c4 c5 c6 a : Addr} (R : RefG K mg xE x1 x2 x3 x4 x5 x6 CL CE c1 c2 c3 c4 c5 c6) {i : Nat} {D : Ends} {σ : L2.St} {H : Hp} (hi : σ[i]? = some (some (.ref a)))
    (q : ∀ p o, H p = none → D.rt (.bl true) (upd H p o)) : t_suiteG K i CE c1 c2 c3 c4 c5 c6 a D σ H := by
  refine ⟨.ref a, hi, (by show 6 ≤ sizeLine; decide), fun tp ntp => ?_⟩
  refine ⟨tp, _, _, false, rfl, upd_same, .cons (.own _) (.cons (.own _) (.cons (.own _) (.cons (.own _) (.cons (.own _) (.cons (.own _) .nil))))), R.no, false, rfl, iteF ?_⟩
  refine ⟨.ref a, hi, .ref CE, _, true, rfl, (fun u r => r), R.yes, true, rfl, iteT ?_⟩
  exact ⟨.ref a, hi, .ty "ValueError", _, true, rfl, (fun u r => r), R.val, q _ _ ntp⟩
/-! ### texts of chains: the mathematics -/
section
open TL
def nS (n : Int) : Str := Str.ofString (toString n)
def spS : Str := " "
def nlS : Str := "\n"
def coS : Str := ":"
theorem tl_spS : tl spS = [32] := by unfold spS; rw [tl_ofString]; rfl
theorem tl_nlS : tl nlS = [10] := by unfold nlS; rw [tl_ofString]; rfl
theorem tl_coS : tl coS = [58] := by unfold coS; rw [tl_ofString]; rfl
theorem tl_nS (n : Nat) : tl (nS (n : Int)) = numL n := tl_num n
def numOf (w : Str) : Option Int := ((List.range 100).find? fun (n : Nat) => decide (w = nS (n : Int))).map fun (n : Nat) => (n : Int)
theorem nS_inj {m n : Nat} (h : nS (m : Int) = nS (n : Int)) : m = n := numL_inj (by rw [← tl_nS, ← tl_nS, h])
theorem numOf_none {w : Str} : numOf w = none ↔ ∀ n : Nat, n < 100 → w ≠ nS (n : Int) := by
  unfold numOf
  rw [Option.map_eq_none_iff, List.find?_eq_none]
  constructor
  · intro h n hn e
    exact h n (List.mem_range.mpr hn) (decide_eq_true e)
  · intro h n hn c
    exact h n (List.mem_range.mp hn) (of_decide_eq_true c)
theorem numOf_some {w : Str} {z : Int} : numOf w = some z ↔ ∃ n : Nat, n < 100 ∧ w = nS (n : Int) ∧ z = (n : Int) := by
  constructor
  · intro h
    unfold numOf at h
    obtain ⟨n, hf, rfl⟩ := Option.map_eq_some_iff.mp h
    exact ⟨n, List.mem_range.mp (List.mem_of_find?_eq_some hf), of_decide_eq_true (List.find?_some (p := fun n : Nat => decide (w = nS (n : Int))) hf), rfl⟩
  · rintro ⟨n, hn, rfl, rfl⟩
    cases h : numOf (nS (n : Int)) with
    | none => exact absurd rfl (numOf_none.mp h n hn)
    | some z =>
      unfold numOf at h
      obtain ⟨m, hf, rfl⟩ := Option.map_eq_some_iff.mp h
      have := of_decide_eq_true (List.find?_some (p := fun m : Nat => decide (nS (n : Int) = nS (m : Int))) hf)
      rw [nS_inj this]
theorem numOf_nS {n : Nat} (h : n < 100) : numOf (nS (n : Int)) = some (n : Int) := numOf_some.mpr ⟨n, h, rfl, rfl⟩
theorem numOf_int {z : Int} (h0 : 0 ≤ z) (h : z < 100) : numOf (nS z) = some z := by
  have e : z = ((z.toNat : Nat) : Int) := by omega
  rw [e]
  exact numOf_nS (by omega)
theorem numOf_rng {w : Str} {z : Int} (h : numOf w = some z) : 0 ≤ z ∧ z < 100 := by
  obtain ⟨n, hn, _, rfl⟩ := numOf_some.mp h
  omega
def numsOf : List Str → Option (List Int)
  | [] => some []
  | w :: ws => match numOf w, numsOf ws with
    | some z, some zs => some (z :: zs)
    | _, _ => none
theorem numsOf_nS : ∀ {zs : List Int}, (∀ z ∈ zs, 0 ≤ z ∧ z < 100) → numsOf (zs.map nS) = some zs
  | [], _ => rfl
  | z :: zs, h => by
    rw [List.map_cons]
    unfold numsOf
    rw [numOf_int (h z List.mem_cons_self).1 (h z List.mem_cons_self).2, numsOf_nS fun y hy => h y (List.mem_cons_of_mem _ hy)]
theorem numsOf_some : ∀ {ws : List Str} {zs : List Int}, numsOf ws = some zs → ws.map numOf = zs.map some
  | [], zs, h => by cases h; rfl
  | w :: ws, zs, h => by
    unfold numsOf at h
    cases h1 : numOf w with
    | none => rw [h1] at h; cases h
    | some z =>
      cases h2 : numsOf ws with
      | none => rw [h1, h2] at h; cases h
      | some ys =>
        rw [h1, h2] at h
        cases h
        rw [List.map_cons, List.map_cons, h1, numsOf_some h2]
theorem numsOf_none : ∀ {ws : List Str}, numsOf ws = none ↔ none ∈ ws.map numOf
  | [] => by
    constructor
    · intro h; cases h
    · intro h; cases h
  | w :: ws => by
    unfold numsOf
    rw [List.map_cons, List.mem_cons]
    cases h1 : numOf w with
    | none => simp
    | some z =>
      cases h2 : numsOf ws with
      | none => simpa using numsOf_none.mp h2
      | some ys =>
        constructor
        · intro h; cases h
        · rintro (h | h)
          · cases h
          · rw [numsOf_none.mpr h] at h2; cases h2
def plS : Str := "places"
def mvS : Str := "move"
/-- how many places the first row tells -/
def manyOf (row : Str) : Option Int := match Txt.split row spS with
  | [a, b] => if a = plS then numOf b else none
  | _ => none
def pairO : Option Int → Option (List Int) → Option (Int × List Int)
  | some w, some zs => some (w, zs)
  | _, _ => none
/-- the move that a row tells -/
def moveOf (row : Str) : Option (Int × List Int) := match Txt.split row spS with
  | a :: b :: c :: r => if a = mvS ∧ Txt.endswith b coS = true then pairO (numOf (cutS b none (some (-1)))) (numsOf (c :: r)) else none
  | _ => none
inductive ReadR where
  | bad (row : Nat)
  | told (many : Int) (ms : List (Int × List Int))
def movesOf : List Str → Nat → Nat ⊕ List (Int × List Int)
  | [], _ => .inr []
  | r :: rs, k => match moveOf r with
    | none => .inl k
    | some m => match movesOf rs (k + 1) with
      | .inl j => .inl j
      | .inr ms => .inr (m :: ms)
def readOf (text : Str) : ReadR := match Txt.split text nlS with
  | [] => .bad 0
  | r :: rs => match manyOf r with
    | none => .bad 0
    | some many => match movesOf rs 1 with
      | .inl k => .bad k
      | .inr ms => .told many ms
/-- a move's row; a chain's text -/
def rowS (m : Int × List Int) : Str := Txt.join spS (mvS :: (nS m.1 ++ coS) :: m.2.map nS)
def headS (many : Int) : Str := plS ++ spS ++ nS many
def writeS (many : Int) (ms : List (Int × List Int)) : Str := Txt.join nlS (headS many :: ms.map rowS)
def Small (m : Int × List Int) : Prop := 0 ≤ m.1 ∧ m.1 < 100 ∧ m.2 ≠ [] ∧ ∀ z ∈ m.2, 0 ≤ z ∧ z < 100
theorem nS_free {z : Int} {s : Nat} (h0 : 0 ≤ z) (h : s < 48 ∨ 57 < s) : s ∉ tl (nS z) := by
  have e : z = ((z.toNat : Nat) : Int) := by omega
  rw [e, tl_nS]
  exact numL_free h
theorem tl_mvS : tl mvS = [109, 111, 118, 101] := by unfold mvS; rw [tl_ofString]; rfl
theorem tl_plS : tl plS = [112, 108, 97, 99, 101, 115] := by unfold plS; rw [tl_ofString]; rfl
theorem ends_iff (x : Str) : Txt.endswith x coS = true ↔ (tl x).getLast? = some 58 := by
  have hy : tl coS ≠ [] := by rw [tl_coS]; exact List.cons_ne_nil _ _
  have h := at_iff (x := x) hy (x.length - coS.length)
  have l1 : coS.length = 1 := by rw [len_tl, tl_coS]; rfl
  have lx := len_tl x
  have e : Txt.endswith x coS = true ↔ (1 ≤ x.length ∧ StrLaws.At x coS x.length (x.length - coS.length)) := by
    unfold Txt.endswith StrLaws.At
    rw [Bool.and_eq_true, decide_eq_true_iff, l1]
    constructor
    · rintro ⟨a, b⟩
      exact ⟨by omega, by omega, b⟩
    · rintro ⟨a, _, b⟩
      exact ⟨by omega, b⟩
  rw [e, h, l1, lx, tl_coS]
  rcases List.eq_nil_or_concat (tl x) with hl | ⟨l, c, hl⟩
  · rw [hl]; simp
  · rw [hl, List.concat_eq_append, List.length_append, List.getLast?_concat]
    show (1 ≤ l.length + 1 ∧ pre [58] (List.drop (l.length + 1 - 1) (l ++ [c])) = true) ↔ _
    rw [Nat.add_sub_cancel, List.drop_left]
    unfold pre
    simp
theorem ends_co (a : Str) : Txt.endswith (a ++ coS) coS = true := by
  rw [ends_iff, tl_append, tl_coS]
  simp
theorem cut_last (x : Str) : tl (cutS x none (some (-1))) = (tl x).dropLast := by
  unfold cutS
  rw [tl_mk, List.dropLast_eq_take]
  show ((tl x).drop 0).take ((if (-1 : Int) < 0 then ((-1 : Int) + (x.length : Int)).toNat else min (-1 : Int).toNat x.length) - 0) = _
  rw [if_pos (by decide), List.drop_zero, len_tl]
  congr 1
  omega
theorem cut_co (a : Str) : cutS (a ++ coS) none (some (-1)) = a := by
  apply ext_tl
  rw [cut_last, tl_append, tl_coS, List.dropLast_concat]
theorem split_row {m : Int × List Int} (h : Small m) : Txt.split (rowS m) spS = mvS :: (nS m.1 ++ coS) :: m.2.map nS := by
  unfold rowS
  refine split_join (s := 32) (S := []) tl_spS (by decide +kernel) (List.cons_ne_nil _ _) fun p hp => ?_
  rcases List.mem_cons.mp hp with e | hp
  · rw [e, tl_mvS]; decide
  · rcases List.mem_cons.mp hp with e | hp
    · rw [e, tl_append, tl_coS, List.mem_append]
      rintro (z | z)
      · exact nS_free h.1 (.inl (by decide)) z
      · revert z; decide
    · obtain ⟨z, hz, rfl⟩ := List.mem_map.mp hp
      exact nS_free (h.2.2.2 z hz).1 (.inl (by decide))
theorem moveOf_row {m : Int × List Int} (h : Small m) : moveOf (rowS m) = some m := by
  unfold moveOf
  rw [split_row h]
  obtain ⟨w, zs⟩ := m
  obtain ⟨z, t, rfl⟩ := List.exists_cons_of_ne_nil h.2.2.1
  show (if mvS = mvS ∧ Txt.endswith (nS w ++ coS) coS = true then pairO (numOf (cutS (nS w ++ coS) none (some (-1)))) (numsOf (nS z :: t.map nS)) else none) = _
  rw [if_pos ⟨rfl, ends_co _⟩, cut_co, numOf_int h.1 h.2.1]
  have := numsOf_nS (zs := z :: t) h.2.2.2
  rw [List.map_cons] at this
  rw [this]
  rfl
theorem manyOf_head {many : Int} (h0 : 0 ≤ many) (h : many < 100) : manyOf (headS many) = some many := by
  have e : headS many = Txt.join spS [plS, nS many] := by
    apply ext_tl
    unfold headS
    rw [join_eq, tl_append, tl_append, tl_join]
    show _ = tl plS ++ (tl spS ++ tl (nS many))
    rw [List.append_assoc]
  unfold manyOf
  rw [e, split_join (s := 32) (S := []) tl_spS (by decide +kernel) (List.cons_ne_nil _ _) fun p hp => ?_]
  · show (if plS = plS then numOf (nS many) else none) = _
    rw [if_pos rfl, numOf_int h0 h]
  · rcases List.mem_cons.mp hp with e | hp
    · rw [e, tl_plS]; decide
    · rw [List.mem_singleton.mp hp]; exact nS_free h0 (.inl (by decide))
theorem joinL_free {s : Nat} {S : List Nat} (hS : s ∉ S) : ∀ {ps : List (List Nat)}, (∀ p ∈ ps, s ∉ p) → s ∉ joinL S ps
  | [], _ => fun h => nomatch h
  | [p], h => h p List.mem_cons_self
  | p :: q :: r, h => by
    show s ∉ p ++ (S ++ joinL S (q :: r))
    rw [List.mem_append, List.mem_append]
    rintro (z | z | z)
    · exact h p List.mem_cons_self z
    · exact hS z
    · exact joinL_free hS (fun p hp => h p (List.mem_cons_of_mem _ hp)) z
theorem join_free {s : Nat} {y : Str} (hS : s ∉ tl y) {ps : List Str} (h : ∀ p ∈ ps, s ∉ tl p) : s ∉ tl (Txt.join y ps) := by
  rw [join_eq, tl_join]
  refine joinL_free hS fun p hp => ?_
  obtain ⟨z, hz, rfl⟩ := List.mem_map.mp hp
  exact h z hz
theorem joinL_len {S : List Nat} : ∀ (ps : List (List Nat)), (joinL S ps).length ≤ (ps.map List.length).sum + ps.length * S.length
  | [] => Nat.zero_le _
  | [p] => by
    show p.length ≤ (p.length + 0) + 1 * S.length
    omega
  | p :: q :: r => by
    have ih := joinL_len (S := S) (q :: r)
    show (p ++ (S ++ joinL S (q :: r))).length ≤ (p.length + ((q :: r).map List.length).sum) + ((q :: r).length + 1) * S.length
    rw [List.length_append, List.length_append, Nat.add_mul]
    omega
theorem join_len (y : Str) (ps : List Str) : (Txt.join y ps).length ≤ (ps.map (·.length)).sum + ps.length * y.length := by
  have h := joinL_len (S := tl y) (ps.map tl)
  have e : (ps.map tl).map List.length = ps.map (·.length) := by
    rw [List.map_map]
    exact List.map_congr_left fun p _ => (len_tl p).symm
  rw [len_tl, join_eq, tl_join, len_tl y]
  rw [e, List.length_map] at h
  exact h
theorem sum_le {l : List Nat} {b : Nat} (h : ∀ x ∈ l, x ≤ b) : l.sum ≤ l.length * b := by
  induction l with
  | nil => exact Nat.zero_le _
  | cons x l ih =>
    have := ih fun y hy => h y (List.mem_cons_of_mem _ hy)
    have hx := h x List.mem_cons_self
    rw [List.sum_cons, List.length_cons, Nat.add_mul]
    omega
theorem nS_len {z : Int} (h0 : 0 ≤ z) (h : z < 100) : (nS z).length ≤ 2 := by
  have e : z = ((z.toNat : Nat) : Int) := by omega
  rw [e, len_tl, tl_nS]
  exact numL_len (by decide) (by omega)
theorem rowS_parts {m : Int × List Int} (h : Small m) : ∀ p ∈ mvS :: (nS m.1 ++ coS) :: m.2.map nS, p.length ≤ 4 := by
  intro p hp
  rcases List.mem_cons.mp hp with e | hp
  · rw [e, len_tl, tl_mvS]; decide
  · rcases List.mem_cons.mp hp with e | hp
    · rw [e, len_tl, tl_append, List.length_append, ← len_tl, tl_coS]
      have := nS_len h.1 h.2.1
      show _ + 1 ≤ 4
      omega
    · obtain ⟨z, hz, rfl⟩ := List.mem_map.mp hp
      have := nS_len (h.2.2.2 z hz).1 (h.2.2.2 z hz).2
      omega
theorem rowS_len {m : Int × List Int} (h : Small m) : (rowS m).length ≤ 5 * (m.2.length + 2) := by
  have h1 := join_len spS (mvS :: (nS m.1 ++ coS) :: m.2.map nS)
  have h2 := sum_le (l := (mvS :: (nS m.1 ++ coS) :: m.2.map nS).map (·.length)) (b := 4) fun x hx => by
    obtain ⟨p, hp, rfl⟩ := List.mem_map.mp hx
    exact rowS_parts h p hp
  have l1 : spS.length = 1 := by rw [len_tl, tl_spS]; rfl
  rw [List.length_map] at h2
  have l2 : (mvS :: (nS m.1 ++ coS) :: m.2.map nS).length = m.2.length + 2 := by
    rw [List.length_cons, List.length_cons, List.length_map]
  rw [l1] at h1
  unfold rowS
  omega
theorem rowS_free {m : Int × List Int} (h : Small m) : 10 ∉ tl (rowS m) := by
  refine join_free (by rw [tl_spS]; decide) fun p hp => ?_
  rcases List.mem_cons.mp hp with e | hp
  · rw [e, tl_mvS]; decide
  · rcases List.mem_cons.mp hp with e | hp
    · rw [e, tl_append, tl_coS, List.mem_append]
      rintro (z | z)
      · exact nS_free h.1 (.inl (by decide)) z
      · revert z; decide
    · obtain ⟨z, hz, rfl⟩ := List.mem_map.mp hp
      exact nS_free (h.2.2.2 z hz).1 (.inl (by decide))
theorem headS_free {many : Int} (h0 : 0 ≤ many) : 10 ∉ tl (headS many) := by
  unfold headS
  rw [tl_append, tl_append, tl_plS, tl_spS, List.mem_append, List.mem_append]
  rintro ((z | z) | z)
  · revert z; decide
  · revert z; decide
  · exact nS_free h0 (.inl (by decide)) z
theorem headS_len {many : Int} (h0 : 0 ≤ many) (h : many < 100) : (headS many).length ≤ 9 := by
  unfold headS
  rw [len_tl, tl_append, tl_append, List.length_append, List.length_append, tl_plS, tl_spS, ← len_tl]
  have := nS_len h0 h
  show 6 + 1 + _ ≤ 9
  omega
theorem split_text {many : Int} {ms : List (Int × List Int)} (h0 : 0 ≤ many) (hm : ∀ m ∈ ms, Small m) : Txt.split (writeS many ms) nlS = headS many :: ms.map rowS := by
  unfold writeS
  refine split_join (s := 10) (S := []) tl_nlS (by decide +kernel) (List.cons_ne_nil _ _) fun p hp => ?_
  rcases List.mem_cons.mp hp with e | hp
  · rw [e]; exact headS_free h0
  · obtain ⟨m, hm', rfl⟩ := List.mem_map.mp hp
    exact rowS_free (hm m hm')
theorem movesOf_rows : ∀ {ms : List (Int × List Int)} (k : Nat), (∀ m ∈ ms, Small m) → movesOf (ms.map rowS) k = .inr ms
  | [], _, _ => rfl
  | m :: ms, k, h => by
    rw [List.map_cons]
    unfold movesOf
    rw [moveOf_row (h m List.mem_cons_self), movesOf_rows (k + 1) fun y hy => h y (List.mem_cons_of_mem _ hy)]
/-- what is written is read -/
theorem readOf_write {many : Int} {ms : List (Int × List Int)} (h0 : 0 ≤ many) (h : many < 100) (hm : ∀ m ∈ ms, Small m) : readOf (writeS many ms) = .told many ms := by
  unfold readOf
  rw [split_text h0 hm]
  show (match manyOf (headS many) with | none => _ | some many => _) = _
  rw [manyOf_head h0 h]
  show (match movesOf (ms.map rowS) 1 with | .inl k => _ | .inr ms => _) = _
  rw [movesOf_rows 1 hm]
/-- .. told row by row -/
theorem rowS_told {m : Int × List Int} (ne : m.2 ≠ []) : rowS m = ("move " : Str) ++ nS m.1 ++ (": " : Str) ++ Txt.join spS (m.2.map nS) := by
  obtain ⟨z, t, e⟩ := List.exists_cons_of_ne_nil ne
  apply ext_tl
  unfold rowS
  rw [join_eq, join_eq, tl_append, tl_append, tl_append, tl_join, tl_join, e]
  have e1 : tl ("move " : Str) = tl mvS ++ tl spS := by rw [tl_ofString, tl_mvS, tl_spS]; rfl
  have e2 : tl (": " : Str) = tl coS ++ tl spS := by rw [tl_ofString, tl_coS, tl_spS]; rfl
  rw [e1, e2]
  show tl mvS ++ (tl spS ++ (tl (nS m.1 ++ coS) ++ (tl spS ++ joinL (tl spS) (((z :: t).map nS).map tl)))) = _
  rw [tl_append]
  simp only [List.append_assoc]
theorem headS_told (many : Int) : headS many = ("places " : Str) ++ nS many := by
  apply ext_tl
  unfold headS
  rw [tl_append, tl_append, tl_append]
  have e1 : tl ("places " : Str) = tl plS ++ tl spS := by rw [tl_ofString, tl_plS, tl_spS]; rfl
  rw [e1]
theorem joinL_ge {S : List Nat} : ∀ {ps : List (List Nat)} {p : List Nat}, p ∈ ps → p.length ≤ (joinL S ps).length
  | [], _, h => nomatch h
  | [q], p, h => by rw [List.mem_singleton.mp h]; exact Nat.le_refl _
  | q :: q' :: r, p, h => by
    show p.length ≤ (q ++ (S ++ joinL S (q' :: r))).length
    rw [List.length_append, List.length_append]
    rcases List.mem_cons.mp h with e | h
    · rw [e]; omega
    · have := joinL_ge (S := S) h
      omega
theorem part_len {x y p : Str} (h : p ∈ Txt.split x y) : p.length ≤ x.length := by
  have e := StrLaws.join_split x y
  have := joinL_ge (S := tl y) (ps := (Txt.split x y).map tl) (List.mem_map.mpr ⟨p, h, rfl⟩)
  rw [← tl_join, e] at this
  rw [len_tl, len_tl]
  exact this
end
section
open TL
/-! ### what is read is what was written -/
theorem numOf_eq {w : Str} {z : Int} (h : numOf w = some z) : w = nS z := by
  obtain ⟨n, _, e, rfl⟩ := numOf_some.mp h
  exact e
theorem numsOf_eq : ∀ {ws : List Str} {zs : List Int}, numsOf ws = some zs → ws = zs.map nS ∧ ∀ z ∈ zs, 0 ≤ z ∧ z < 100
  | [], zs, h => by cases h; exact ⟨rfl, fun _ z => nomatch z⟩
  | w :: ws, zs, h => by
    unfold numsOf at h
    cases h1 : numOf w with
    | none => rw [h1] at h; cases h
    | some z =>
      cases h2 : numsOf ws with
      | none => rw [h1, h2] at h; cases h
      | some ys =>
        rw [h1, h2] at h
        cases h
        obtain ⟨e1, e2⟩ := numsOf_eq h2
        refine ⟨by rw [numOf_eq h1, e1]; rfl, fun y hy => ?_⟩
        rcases List.mem_cons.mp hy with e | hy
        · rw [e]; exact numOf_rng h1
        · exact e2 y hy
theorem ends_split {b : Str} (h : Txt.endswith b coS = true) : b = cutS b none (some (-1)) ++ coS := by
  have h1 := (ends_iff b).mp h
  apply ext_tl
  rw [tl_append, cut_last, tl_coS]
  obtain ⟨l, e⟩ := List.getLast?_eq_some_iff.mp h1
  rw [e, List.dropLast_concat]
theorem moveOf_inv {row : Str} {m : Int × List Int} (h : moveOf row = some m) : row = rowS m ∧ Small m := by
  unfold moveOf at h
  have e := StrLaws.join_split row spS
  generalize Txt.split row spS = ws at h e
  match ws, h, e with
  | [], h, _ => cases h
  | [_], h, _ => cases h
  | [_, _], h, _ => cases h
  | a :: b :: c :: r, h, e =>
    replace h : (if a = mvS ∧ Txt.endswith b coS = true then pairO (numOf (cutS b none (some (-1)))) (numsOf (c :: r)) else none) = some m := h
    by_cases hc : a = mvS ∧ Txt.endswith b coS = true
    · rw [if_pos hc] at h
      cases h1 : numOf (cutS b none (some (-1))) with
      | none => rw [h1] at h; cases h
      | some w =>
        cases h2 : numsOf (c :: r) with
        | none => rw [h1, h2] at h; cases h
        | some zs =>
          rw [h1, h2] at h
          cases h
          obtain ⟨e1, e2⟩ := numsOf_eq h2
          refine ⟨?_, (numOf_rng h1).1, (numOf_rng h1).2, fun z => ?_, e2⟩
          · rw [← e, hc.1, ends_split hc.2, numOf_eq h1, e1, ← join_eq]
            rfl
          · have z' : zs = [] := z
            rw [z'] at e1
            cases e1
    · rw [if_neg hc] at h
      cases h
theorem manyOf_inv {row : Str} {many : Int} (h : manyOf row = some many) : row = headS many := by
  unfold manyOf at h
  have e := StrLaws.join_split row spS
  generalize Txt.split row spS = ws at h e
  match ws, h, e with
  | [], h, _ => cases h
  | [_], h, _ => cases h
  | _ :: _ :: _ :: _, h, _ => cases h
  | [a, b], h, e =>
    replace h : (if a = plS then numOf b else none) = some many := h
    by_cases hc : a = plS
    · rw [if_pos hc] at h
      rw [← e, hc, numOf_eq h]
      rfl
    · rw [if_neg hc] at h
      cases h
theorem movesOf_inv : ∀ {rs : List Str} {k : Nat} {ms : List (Int × List Int)}, movesOf rs k = .inr ms → rs = ms.map rowS ∧ ∀ m ∈ ms, Small m
  | [], _, ms, h => by cases h; exact ⟨rfl, fun _ z => nomatch z⟩
  | r :: rs, k, ms, h => by
    unfold movesOf at h
    cases h1 : moveOf r with
    | none => rw [h1] at h; cases h
    | some m =>
      rw [h1] at h
      cases h2 : movesOf rs (k + 1) with
      | inl j => rw [h2] at h; cases h
      | inr ms' =>
        rw [h2] at h
        cases h
        obtain ⟨e1, e2⟩ := movesOf_inv h2
        obtain ⟨e3, e4⟩ := moveOf_inv h1
        refine ⟨by rw [e3, e1]; rfl, fun y hy => ?_⟩
        rcases List.mem_cons.mp hy with e | hy
        · rw [e]; exact e4
        · exact e2 y hy
theorem readOf_inv {t : Str} {many : Int} {ms : List (Int × List Int)} (h : readOf t = .told many ms) : t = writeS many ms := by
  unfold readOf at h
  have e := StrLaws.join_split t nlS
  generalize Txt.split t nlS = rows at h e
  cases rows with
  | nil => cases h
  | cons r rs =>
    replace h : (match manyOf r with | none => ReadR.bad 0 | some many => match movesOf rs 1 with | .inl k => .bad k | .inr ms => .told many ms) = .told many ms := h
    cases h1 : manyOf r with
    | none => rw [h1] at h; cases h
    | some m =>
      rw [h1] at h
      replace h : (match movesOf rs 1 with | .inl k => ReadR.bad k | .inr ms => .told m ms) = .told many ms := h
      cases h2 : movesOf rs 1 with
      | inl k => rw [h2] at h; cases h
      | inr ms' =>
        rw [h2] at h
        cases h
        rw [← e, manyOf_inv h1, (movesOf_inv h2).1, ← join_eq]
        rfl
/-! ### a law's figure -/
theorem fig_one : ∀ a, a < 10 → PySem.intText? ⟨#[48 + a]⟩ = some (a : Int) := by decide +kernel
theorem fig_two : ∀ a, a < 10 → ∀ b, b < 10 → PySem.intText? ⟨#[48 + a, 48 + b]⟩ = some ((10 * a + b : Nat) : Int) := by decide +kernel
theorem fig_val {w : Str} (h0 : 0 < w.length) (h3 : w.length < 3) (hd : ∀ c ∈ tl w, 48 ≤ c ∧ c ≤ 57) : ∃ n : Nat, n < 100 ∧ PySem.intText? w = some (n : Int) := by
  rw [len_tl] at h0 h3
  have ew := mk_tl w
  generalize tl w = l at h0 h3 hd ew
  match l, h0, h3, hd, ew with
  | [a], _, _, hd, ew =>
    obtain ⟨x, y⟩ := hd a List.mem_cons_self
    refine ⟨a - 48, by omega, ?_⟩
    rw [← ew]
    have := fig_one (a - 48) (by omega)
    rw [show 48 + (a - 48) = a by omega] at this
    exact this
  | [a, b], _, _, hd, ew =>
    obtain ⟨x, y⟩ := hd a List.mem_cons_self
    obtain ⟨x2, y2⟩ := hd b (List.mem_cons_of_mem _ List.mem_cons_self)
    refine ⟨10 * (a - 48) + (b - 48), by omega, ?_⟩
    rw [← ew]
    have := fig_two (a - 48) (by omega) (b - 48) (by omega)
    rw [show 48 + (a - 48) = a by omega, show 48 + (b - 48) = b by omega] at this
    exact this
theorem numOf_shape {w : Str} {z : Int} (h : numOf w = some z) : 0 < w.length ∧ w.length < 3 ∧ ∀ c ∈ tl w, 48 ≤ c ∧ c ≤ 57 := by
  obtain ⟨n, hn, rfl, rfl⟩ := numOf_some.mp h
  rw [len_tl, tl_nS]
  refine ⟨List.length_pos_iff.mpr (numL_ne n), ?_, fun c hc => ?_⟩
  · have := numL_len (n := n) (k := 2) (by decide) (by omega)
    omega
  · by_cases a : c < 48
    · exact absurd hc (numL_free (.inl a))
    · by_cases b : 57 < c
      · exact absurd hc (numL_free (.inr b))
      · omega
end
/-! ### what is the same in all these texts: heaps -/
/-- all that is tracked, but at d, is as it was -/
def Gr (d : Addr) (H H' : Hp) : Prop := ∀ b o, b ≠ d → H b = some o → H' b = some o
theorem Gr.refl (d : Addr) (H : Hp) : Gr d H H := fun _ _ _ e => e
theorem Gr.trans {d : Addr} {H H1 H2 : Hp} (a : Gr d H H1) (b : Gr d H1 H2) : Gr d H H2 := fun c o n e => b c o n (a c o n e)
theorem Gr.new {d : Addr} {H H1 : Hp} {p : Addr} {o : HO} (a : Gr d H H1) (h : H1 p = none) : Gr d H (upd H1 p o) := fun b u n e => by
  have q := a b u n e
  rw [upd_ne (ne_of_none q h)]
  exact q
theorem Gr.off {d : Addr} {H H1 H2 : Hp} (a : Gr d H H1) (h : ∀ b, b ≠ d → H2 b = H1 b) : Gr d H H2 := fun b u n e => by
  rw [h b n]
  exact a b u n e
theorem same_new {H : Hp} {p : Addr} {o : HO} (h : H p = none) : Same H (upd H p o) := fun b x e => by
  rw [upd_ne (ne_of_none e h)]
  exact e
theorem Gr.of_same {d : Addr} {H H' : Hp} (s : Same H H') : Gr d H H' := fun b o _ e => s b o e
/-- the dice at d -/
def dl (s0 : Int) (l : Addr) (k big : Int) : List V := [.int s0, .ref l, .int k, .int big]
theorem map_int_dl {ns : List Int} {s0 k big : Int} {l : Addr} : ns.map V.int ≠ dl s0 l k big := by
  intro e
  have h : (ns.map V.int)[1]? = some (V.ref l) := by rw [e]; rfl
  rw [List.getElem?_map] at h
  cases q : ns[1]? with
  | none => rw [q] at h; cases h
  | some z => rw [q] at h; cases h
/-- a list that is known ahead of p's making, and p's writing -/
theorem seq_put {K : PySem.W.Frag} {H0 H : Hp} {l p : Addr} {xs : List V} {o : HO} (h0 : SqL K H0 l xs) (n0 : H0 p = none) (h : SqL K H l xs) : SqL K (upd H p o) l xs := by
  have ne : Rd H0 l (.lst xs) → l ≠ p := fun r => by
    rcases r with r | ⟨o', r⟩
    · exact ne_of_none r n0
    · exact ne_of_none r n0
  rcases h0 with r0 | k
  · have n := ne r0
    rcases h with (h | ⟨o', h⟩) | h
    · exact .inl (.inl (by rw [upd_ne n]; exact h))
    · exact .inl (.inr ⟨o', by rw [upd_ne n]; exact h⟩)
    · exact .inr h
  · exact .inr k
/-- the script stands when the dice turns -/
theorem seq_turn {K : PySem.W.Frag} {H H' : Hp} {d l l' : Addr} {ns : List Int} {s0 k big : Int} (hd : H d = some (.lst (dl s0 l' k big))) (h : SqL K H l (ns.map V.int)) (q : ∀ b, b ≠ d → H' b = H b) : SqL K H' l (ns.map V.int) := by
  rcases h with (h | ⟨o, h⟩) | h
  · refine .inl (.inl ?_)
    rw [q]
    · exact h
    · intro z
      rw [z, hd] at h
      injection h with h
      injection h with h
      exact map_int_dl h.symm
  · refine .inl (.inr ⟨o, ?_⟩)
    rw [q]
    · exact h
    · intro z
      rw [z, hd] at h
      cases h
  · exact .inr h
def Dc (K : PySem.W.Frag) (l : Addr) (ns : List Int) (H : Hp) (d : Addr) : Prop := ∃ (s0 k big : Int), H d = some (.lst (dl s0 l k big)) ∧ SqL K H l (ns.map V.int) ∧ ns.length ≤ 63 ∧ 0 ≤ s0 ∧ s0 < 2147483647 ∧ 0 ≤ k ∧ 0 ≤ big
theorem Dc.same {K : PySem.W.Frag} {H H' : Hp} {l d : Addr} {ns : List Int} (s : Same H H') (h : Dc K l ns H d) : Dc K l ns H' d := by
  obtain ⟨s0, k, big, h1, h2, h3⟩ := h
  exact ⟨s0, k, big, s _ _ h1, s.seq h2, h3⟩
theorem Dc.seq {K : PySem.W.Frag} {H : Hp} {l d : Addr} {ns : List Int} (h : Dc K l ns H d) : SqL K H l (ns.map V.int) := by
  obtain ⟨s0, k, big, h1, h2, h3⟩ := h
  exact h2
theorem Dc.new {K : PySem.W.Frag} {H : Hp} {l d p : Addr} {ns : List Int} {o : HO} (h : Dc K l ns H d) (n : H p = none) : Dc K l ns (upd H p o) d := h.same (same_new n)
theorem Dc.some {K : PySem.W.Frag} {H : Hp} {l d : Addr} {ns : List Int} (h : Dc K l ns H d) : ∃ s0 k big, H d = Option.some (HO.lst (dl s0 l k big)) := by
  obtain ⟨s0, k, big, h1, _⟩ := h
  exact ⟨s0, k, big, h1⟩
theorem Dc.ne {K : PySem.W.Frag} {H : Hp} {l d p : Addr} {ns : List Int} (h : Dc K l ns H d) (n : H p = none) : p ≠ d := by
  obtain ⟨s0, k, big, e⟩ := h.some
  exact (ne_of_none e n).symm
/-- the dice is a list that begins with an int and a ref: no other list that we know -/
theorem Dc.ne_of {K : PySem.W.Frag} {H : Hp} {l d p : Addr} {ns : List Int} {u : HO} (h : Dc K l ns H d) (n : H p = Option.some u) (q : ∀ s0 l k big, u ≠ .lst (dl s0 l k big)) : p ≠ d := by
  obtain ⟨s0, k, big, e⟩ := h.some
  intro z
  rw [z, e] at n
  exact q _ _ _ _ (Option.some.inj n).symm
/-- another list is written, one that is newer than the script -/
theorem Dc.turn {K : PySem.W.Frag} {H0 H : Hp} {l d d0 p : Addr} {ns : List Int} {o : HO} (h : Dc K l ns H d) (h0 : Dc K l ns H0 d0) (n0 : H0 p = none) (n : p ≠ d) : Dc K l ns (upd H p o) d := by
  obtain ⟨s0, k, big, h1, h2, h3⟩ := h
  refine ⟨s0, k, big, ?_, seq_put h0.seq n0 h2, h3⟩
  rw [upd_ne n.symm]
  exact h1
/-! ### a chain's data -/
abbrev Mv := Int × List Int
def GoodRow (many : Nat) (row : List Int) : Prop := row.length = many ∧ ∀ x ∈ row, 0 ≤ x ∧ x < (many : Int)
def GoodMv (many : Nat) (m : Mv) : Prop := 1 ≤ m.1 ∧ m.1 ≤ 99 ∧ GoodRow many m.2
structure Good (many : Nat) (ms : List Mv) : Prop where
  m1 : 1 ≤ many
  m6 : many ≤ 6
  l1 : 1 ≤ ms.length
  l8 : ms.length ≤ 8
  mv : ∀ m ∈ ms, GoodMv many m
def MoveAt (H : Hp) (v : V) (m : Mv) : Prop := ∃ a q, v = .ref a ∧ H a = some (.tup [.int m.1, .ref q]) ∧ H q = some (.tup (m.2.map V.int))
abbrev MovesAt (H : Hp) : List V → List Mv → Prop := Paired (MoveAt H)
theorem MoveAt.same {H H' : Hp} {v : V} {m : Mv} (s : ∀ b xs, H b = some (.tup xs) → H' b = some (.tup xs)) (h : MoveAt H v m) : MoveAt H' v m := by
  obtain ⟨a, q, e, h1, h2⟩ := h
  exact ⟨a, q, e, s _ _ h1, s _ _ h2⟩
theorem MovesAt.same {H H' : Hp} (s : ∀ b xs, H b = some (.tup xs) → H' b = some (.tup xs)) : ∀ {vs : List V} {ms : List Mv}, MovesAt H vs ms → MovesAt H' vs ms
  | _, _, .nil => .nil
  | _, _, .cons h t => .cons (h.same s) (MovesAt.same s t)
theorem MovesAt.snoc {H : Hp} {v : V} {m : Mv} (h : MoveAt H v m) : ∀ {vs : List V} {ms : List Mv}, MovesAt H vs ms → MovesAt H (vs ++ [v]) (ms ++ [m])
  | _, _, .nil => .cons h .nil
  | _, _, .cons q t => .cons q (MovesAt.snoc h t)
theorem MovesAt.get {H : Hp} : ∀ {vs : List V} {ms : List Mv} {i : Nat} {m : Mv}, MovesAt H vs ms → ms[i]? = some m → ∃ v, vs[i]? = some v ∧ MoveAt H v m
  | _, _, _, _, .nil, e => by simp at e
  | _, _, 0, _, .cons h _, e => by
    simp at e
    subst e
    exact ⟨_, rfl, h⟩
  | _, _, i + 1, m, .cons _ t, e => by
    obtain ⟨v, h1, h2⟩ := MovesAt.get (i := i) (m := m) t (by simpa using e)
    exact ⟨v, by simpa using h1, h2⟩
theorem MovesAt.get' {H : Hp} : ∀ {vs : List V} {ms : List Mv} {i : Nat} {v : V}, MovesAt H vs ms → vs[i]? = some v → ∃ m, ms[i]? = some m ∧ MoveAt H v m
  | _, _, _, _, .nil, e => by simp at e
  | _, _, 0, _, .cons h _, e => by
    simp at e
    subst e
    exact ⟨_, rfl, h⟩
  | _, _, i + 1, v, .cons _ t, e => by
    obtain ⟨m, h1, h2⟩ := MovesAt.get' (i := i) (v := v) t (by simpa using e)
    exact ⟨m, by simpa using h1, h2⟩
/-- a told chain: (many, moves) at t, the moves' list at m -/
def ToldAt (H : Hp) (t m : Addr) (many : Nat) (vs : List V) (ms : List Mv) : Prop := H t = some (.tup [.int (many : Int), .ref m]) ∧ H m = some (.lst vs) ∧ MovesAt H vs ms
theorem Gr.tups {d l : Addr} {ns : List Int} {H H' : Hp} {K : PySem.W.Frag} (hd : Dc K l ns H d) (g : Gr d H H') : ∀ b xs, H b = some (.tup xs) → H' b = some (.tup xs) := fun b xs e =>
  g b _ (hd.ne_of e fun _ _ _ _ q => nomatch q) e
theorem Same.tups {H H' : Hp} (g : Same H H') : ∀ b xs, H b = some (.tup xs) → H' b = some (.tup xs) := fun b xs e => g b _ e
theorem ifD {c A B : Prop} [Decidable c] (hc : c) (h : A) : if decide c = true then A else B := by
  rw [decide_eq_true hc]
  exact iteT h
theorem small8 {n : Nat} (h : n ≤ 8) : n < sizeLine := Nat.lt_of_le_of_lt h (by decide)
section
variable {P : Program} {w : World} {K : PySem.W.Frag} {mg : Str → Option Value} {base : Heap}
/-! ### _law_cell -/
theorem scCell : FnScope ["_law_script", "_law_k"] ["_law_script", "_law_k"] (defScope sCell) := ⟨rfl, rfl, rfl, by decide +kernel, rfl, by decide +kernel, by decide +kernel⟩
def spCell (K : PySem.W.Frag) : Sp := fun vs H Q _ => ∃ (l : Addr) (ns : List Int) (j : Int), vs = [.ref l, .int j] ∧ SqL K H l (ns.map V.int) ∧ 0 ≤ j ∧ ∀ x : Int, Q (.int x) H
theorem ok_cell {f : Addr} {fd : FuncData} {k : Nat} (F : Fun K "_law_cell" "_law_cell" sCell f fd) (ml : mg "len" = none) : FnOk P w K mg base CX0 (k + 1) f fd ["_law_script", "_law_k"] (spCell K) := by
  refine F.ok scCell (fun vs H Q E h => ?_) (fun cdv A outer s H vs Q E hr h => ?_)
  · obtain ⟨l, ns, j, rfl, _⟩ := h
    rfl
  · obtain ⟨l, ns, j, rfl, hS, hj, q⟩ := h
    refine ⟨_, pss_cons (ps_if (pt_cmpR op_lt (pv 1) (pe_callB call_len_seq (by rfl) ml PySem.boot_len (pa_cons (pv 0) pa_nil)) (nomark _))
        (pss_one (ps_ret (pe_ix ix_list (pv 0) (pv 1) (fun _ _ => rfl)))) pss_nil)
      (pss_one (ps_ret pe_int)), ?_⟩
    refine ⟨.int j, rfl, .ref l, rfl, l, ns.map V.int, rfl, .inl hS, j, _, rfl, rfl, _, rfl, ite2 (fun e => ?_) (fun e => ?_)⟩
    · have e1 : j < ((ns.map V.int).length : Int) := of_decide_eq_true e
      rw [List.length_map] at e1
      have hn : j.toNat < ns.length := by omega
      have ej : j = ((j.toNat : Nat) : Int) := by omega
      have g : (ns.map V.int)[j.toNat]? = some (.int ns[j.toNat]) := by
        rw [List.getElem?_map, List.getElem?_eq_getElem hn]
        rfl
      exact ⟨.ref l, rfl, .int j, rfl, l, _, j, _, rfl, rfl, hS, at_of ej g, q _⟩
    · exact q 0
/-! ### _law_dice -/
theorem scDice : FnScope ["_law_script", "_law_k", "_law_cell_here"] ["_law_script", "_law_k"] (defScope sDice) := ⟨rfl, rfl, rfl, by decide +kernel, rfl, by decide +kernel, by decide +kernel⟩
def spDice (K : PySem.W.Frag) : Sp := fun vs H Q _ => ∃ (l : Addr) (ns : List Int) (j : Int), vs = [.ref l, .int j] ∧ SqL K H l (ns.map V.int) ∧ ns.length ≤ 63 ∧ 0 ≤ j ∧ ∀ H' d, Same H H' → H d = none → Dc K l ns H' d → Q (.ref d) H'
theorem abs_nn (x : Int) : 0 ≤ (if x < 0 then -x else x) := by
  split <;> omega
theorem ok_dice {f fC : Addr} {fd fdC : FuncData} (F : Fun K "_law_dice" "_law_dice" sDice f fd) (FC : Fun K "_law_cell" "_law_cell" sCell fC fdC) (bC : Binds K fdC ["_law_script", "_law_k"] []) (gC : mg "_law_cell" = some (.ref fC))
    (ml : mg "len" = none) (ma : mg "abs" = none) (mi : mg "int" = none) : FnOk P w K mg base CX0 2 f fd ["_law_script", "_law_k"] (spDice K) := by
  have GC : FnOk P w K mg base CX0 1 fC fdC ["_law_script", "_law_k"] (spCell K) := ok_cell FC ml
  refine F.ok scDice (fun vs H Q E h => ?_) (fun cdv A outer s H vs Q E hr h => ?_)
  · obtain ⟨l, ns, j, rfl, _⟩ := h
    rfl
  · obtain ⟨l, ns, j, rfl, hS, hl, hj, q⟩ := h
    refine ⟨_, pss_cons (ps_set (i := 2) scDice.nd rfl (.inl rfl) (pe_callB call_abs (by rfl) ma (by decide +kernel) (pa_cons (pe_call GC hr (by rfl) gC FC.kp bC .nil pass0 (pa_cons (pv 0) (pa_cons (pv 1) pa_nil))) pa_nil)))
      (pss_one (ps_ret (pe_lst (pa_cons (pe_op op_mod (pv 2) pe_int) (pa_cons (pv 0) (pa_cons (pe_op op_add (pv 1) pe_int)
        (pa_cons (pe_op op_mul (pe_callTy call_int1 (by rfl) mi (by decide +kernel) (pa_cons (pe_cmpR op_ge (pv 2) (pe_op op_pow pe_int pe_int) (nomark _)) pa_nil)) (pv 2)) pa_nil))))))), ?_⟩
    refine ⟨.ref l, rfl, .int j, rfl, l, ns, j, rfl, hS, hj, fun x => ?_⟩
    refine ⟨x, rfl, ?_⟩
    have ha := abs_nn x
    generalize (if x < 0 then -x else x) = c at ha ⊢
    have m0 : 0 ≤ c % 2147483647 := Int.emod_nonneg _ (by decide)
    have m1 : c % 2147483647 < 2147483647 := Int.emod_lt_of_pos _ (by decide)
    refine ⟨.int c, rfl, c, 2147483647, rfl, rfl, (by show (0 : Int) < 2147483647; decide), .ref l, rfl, .int j, rfl, j, 1, rfl, rfl, ?_⟩
    refine ⟨.int c, rfl, 10, 18, rfl, rfl, ⟨by decide, by decide, by decide⟩, c, _, rfl, rfl, .inr ⟨_, rfl, ?_⟩⟩
    refine ⟨.int c, rfl, _, c, rfl, rfl, .inl ?_, ?_⟩
    · split <;> decide
    · refine ⟨by show 4 ≤ sizeLine; decide, fun d nd => ?_⟩
      refine q _ d (same_new nd) nd ⟨_, _, _, upd_same, (same_new nd).seq hS, hl, m0, m1, by omega, ?_⟩
      split
      · omega
      · omega
/-! ### _law_off -/
theorem scOff : FnScope ["_law_d", "_law_most", "_law_found", "_law_more"] ["_law_d", "_law_most"] (defScope sOff) := ⟨rfl, rfl, rfl, by decide +kernel, rfl, by decide +kernel, by decide +kernel⟩
def spOff (K : PySem.W.Frag) : Sp := fun vs H Q _ => ∃ (d l : Addr) (ns : List Int) (most : Int), vs = [.ref d, .int most] ∧ Dc K l ns H d ∧ 1 ≤ most ∧ most ≤ 1000000 ∧ ∀ (r : Nat) H', (r : Int) < most → Dc K l ns H' d → (∀ b, b ≠ d → H' b = H b) → Q (.int (r : Int)) H'
theorem max1 (x : Int) (h : 0 ≤ x) : 1 ≤ (if x > 1 then x else 1) := by
  split <;> omega
theorem ok_off {f fC : Addr} {fd fdC : FuncData} (F : Fun K "_law_off" "_law_off" sOff f fd) (FC : Fun K "_law_cell" "_law_cell" sCell fC fdC) (bC : Binds K fdC ["_law_script", "_law_k"] []) (gC : mg "_law_cell" = some (.ref fC))
    (ml : mg "len" = none) (ma : mg "abs" = none) (mm : mg "max" = none) : FnOk P w K mg base CX0 2 f fd ["_law_d", "_law_most"] (spOff K) := by
  have GC : FnOk P w K mg base CX0 1 fC fdC ["_law_script", "_law_k"] (spCell K) := ok_cell FC ml
  refine F.ok scOff (fun vs H Q E h => ?_) (fun cdv A outer s H vs Q E hr h => ?_)
  · obtain ⟨d, l, ns, most, rfl, _⟩ := h
    rfl
  · obtain ⟨d, l, ns, most, rfl, ⟨s0, k, big, hD, hS, hl, z0, z1, hk, hb⟩, hm1, hm2, q⟩ := h
    refine ⟨_, pss_cons (ps_if (pt_cmpR op_gt (pe_ix ix_list (pv 0) pe_int (fun _ _ => rfl)) pe_int (nomark _))
        (pss_cons (ps_set (i := 2) scOff.nd rfl (.inl rfl) (pe_op op_mod (pe_ix ix_list (pv 0) pe_int (fun _ _ => rfl)) (pv 1)))
          (pss_cons (ps_asg (pe_op op_fdiv (pe_ix ix_list (pv 0) pe_int (fun _ _ => rfl)) (pv 1)) (pg_sub (pv 0) pe_int set_list))
            (pss_one (ps_ret (pv 2))))) pss_nil)
      (pss_cons (ps_set (i := 3) scOff.nd rfl (.inl rfl) (pe_callB call_abs (by rfl) ma (by decide +kernel) (pa_cons (pe_call GC hr (by rfl) gC FC.kp bC .nil pass0
          (pa_cons (pe_ix ix_list (pv 0) pe_int (fun _ _ => rfl)) (pa_cons (pe_op op_mod (pe_ix ix_list (pv 0) pe_int (fun _ _ => rfl))
            (pe_callB (call_max2 rfl) (by rfl) mm (by decide +kernel) (pa_cons pe_int (pa_cons (pe_callB call_len_seq (by rfl) ml PySem.boot_len (pa_cons (pe_ix ix_list (pv 0) pe_int (fun _ _ => rfl)) pa_nil)) pa_nil)))) pa_nil))) pa_nil)))
      (pss_cons (ps_asg (pe_op op_add (pe_ix ix_list (pv 0) pe_int (fun _ _ => rfl)) pe_int) (pg_sub (pv 0) pe_int set_list))
      (pss_cons (ps_asg (pe_op op_mod (pe_op op_add (pe_op op_add (pe_op op_mul (pe_ix ix_list (pv 0) pe_int (fun _ _ => rfl)) pe_int) pe_int) (pv 3)) pe_int) (pg_sub (pv 0) pe_int set_list))
      (pss_one (ps_ret (pe_op op_mod (pe_op op_fdiv (pe_ix ix_list (pv 0) pe_int (fun _ _ => rfl)) pe_int) (pv 1)))))))
      , ?_⟩
    have hD0 : SqL K H d (dl s0 l k big) := SqL.of hD
    refine ⟨.ref d, rfl, d, _, 3, _, rfl, rfl, hD0, atI_nat (j := 3) rfl, big, 0, rfl, rfl, _, rfl, ite2 (fun e => ?_) (fun e => ?_)⟩
    · have e1 : 0 < big := of_decide_eq_true e
      refine ⟨.ref d, rfl, d, _, 3, _, rfl, rfl, hD0, atI_nat (j := 3) rfl, .int most, rfl, big, most, rfl, rfl, (by show 0 < most; omega), ?_⟩
      refine ⟨.ref d, rfl, d, _, 3, _, rfl, rfl, hD0, atI_nat (j := 3) rfl, .int most, rfl, big, most, rfl, rfl, ⟨by show 0 < most; omega, by show most < 1073741824; omega⟩, ?_⟩
      refine ⟨.ref d, rfl, d, _, 3, 3, rfl, rfl, hD, rfl, ?_⟩
      have r0 : 0 ≤ big % most := Int.emod_nonneg _ (by omega)
      have r1 : big % most < most := Int.emod_lt_of_pos _ (by omega)
      have er : big % most = (((big % most).toNat : Nat) : Int) := by omega
      refine ⟨.int (big % most), rfl, ?_⟩
      rw [er]
      refine q _ _ (by omega) ⟨s0, k, big / most, upd_same, seq_turn hD hS (fun b hb => upd_ne hb), hl, z0, z1, hk, Int.ediv_nonneg hb (by omega)⟩ (fun b hb => upd_ne hb)
    · refine ⟨.ref d, rfl, d, _, 1, _, rfl, rfl, hD0, atI_nat (j := 1) rfl, .ref d, rfl, d, _, 2, _, rfl, rfl, hD0, atI_nat (j := 2) rfl, ?_⟩
      refine ⟨.ref d, rfl, d, _, 1, _, rfl, rfl, hD0, atI_nat (j := 1) rfl, l, _, rfl, .inl hS, 1, _, rfl, ?_⟩
      have hx := max1 (((ns.map V.int).length : Nat) : Int) (by omega)
      generalize (if (((ns.map V.int).length : Nat) : Int) > 1 then (((ns.map V.int).length : Nat) : Int) else 1) = mx at hx ⊢
      refine ⟨k, mx, rfl, rfl, (by show 0 < mx; omega), l, ns, k % mx, rfl, hS, Int.emod_nonneg _ (by omega), fun x => ⟨x, rfl, ?_⟩⟩
      have ha := abs_nn x
      generalize (if x < 0 then -x else x) = c at ha ⊢
      -- d[2] = d[2] + 1
      refine ⟨.ref d, rfl, d, _, 2, _, rfl, rfl, hD0, atI_nat (j := 2) rfl, k, 1, rfl, rfl, .ref d, rfl, d, _, 2, 2, rfl, rfl, hD, rfl, ?_⟩
      have g1 : (upd H d (.lst (dl s0 l (k + 1) big))) d = some (.lst (dl s0 l (k + 1) big)) := upd_same
      have g2 : SqL K (upd H d (.lst (dl s0 l (k + 1) big))) d (dl s0 l (k + 1) big) := SqL.of g1
      refine ⟨.ref d, rfl, d, _, 0, _, rfl, rfl, g2, atI_nat (j := 0) rfl, s0, 48271, rfl, rfl, .inl ⟨by omega, by omega⟩, s0 * 48271, 11, rfl, rfl, .int c, rfl, s0 * 48271 + 11, c, rfl, rfl, s0 * 48271 + 11 + c, 2147483647, rfl, rfl, (by show (0 : Int) < 2147483647; decide), ?_⟩
      have m0 : 0 ≤ (s0 * 48271 + 11 + c) % 2147483647 := Int.emod_nonneg _ (by decide)
      have m1 : (s0 * 48271 + 11 + c) % 2147483647 < 2147483647 := Int.emod_lt_of_pos _ (by decide)
      refine ⟨.ref d, rfl, d, _, 0, 0, rfl, rfl, g1, rfl, ?_⟩
      rw [upd_upd]
      have g3 : (upd H d (.lst (dl ((s0 * 48271 + 11 + c) % 2147483647) l (k + 1) big))) d = some (.lst (dl ((s0 * 48271 + 11 + c) % 2147483647) l (k + 1) big)) := upd_same
      have g4 : SqL K (upd H d (.lst (dl ((s0 * 48271 + 11 + c) % 2147483647) l (k + 1) big))) d (dl ((s0 * 48271 + 11 + c) % 2147483647) l (k + 1) big) := SqL.of g3
      refine ⟨.ref d, rfl, d, _, 0, _, rfl, rfl, g4, atI_nat (j := 0) rfl, ((s0 * 48271 + 11 + c) % 2147483647), 64, rfl, rfl, ⟨by decide, by decide⟩, .int most, rfl, ((s0 * 48271 + 11 + c) % 2147483647) / 64, most, rfl, rfl, (by show 0 < most; omega), ?_⟩
      have r0 : 0 ≤ ((s0 * 48271 + 11 + c) % 2147483647) / 64 % most := Int.emod_nonneg _ (by omega)
      have r1 : ((s0 * 48271 + 11 + c) % 2147483647) / 64 % most < most := Int.emod_lt_of_pos _ (by omega)
      have er : ((s0 * 48271 + 11 + c) % 2147483647) / 64 % most = (((((s0 * 48271 + 11 + c) % 2147483647) / 64 % most).toNat : Nat) : Int) := by omega
      show Q (.int (((s0 * 48271 + 11 + c) % 2147483647) / 64 % most)) _
      rw [er]
      exact q _ _ (by omega) ⟨((s0 * 48271 + 11 + c) % 2147483647), k + 1, big, g3, seq_turn hD hS (fun b hb => upd_ne hb), hl, m0, m1, by omega, hb⟩ (fun b hb => upd_ne hb)
end
section
variable {P : Program} {w : World} {K : PySem.W.Frag} {mg : Str → Option Value} {base : Heap}
/-! ### _law_chain -/
def nChain : List Str := ["_law_d", "_law_most", "_law_many", "_law_way", "_law_moves", "_law_k", "_law_row", "_law_weight", "_law_place"]
theorem scChain : FnScope ["_law_d", "_law_most", "_law_many", "_law_way", "_law_moves", "_law_k", "_law_row", "_law_weight", "_law_place"] ["_law_d", "_law_most"] (defScope sChain) := ⟨rfl, rfl, rfl, by decide +kernel, rfl, by decide +kernel, by decide +kernel⟩
def spChain (K : PySem.W.Frag) : Sp := fun vs H Q _ => ∃ (d l : Addr) (ns : List Int) (most : Nat), vs = [.ref d, .int (most : Int)] ∧ Dc K l ns H d ∧ 1 ≤ most ∧ most ≤ 6 ∧
  ∀ (t m : Addr) (many : Nat) (ws : List V) (ms : List Mv) H', Good many ms → many ≤ most → ToldAt H' t m many ws ms → Dc K l ns H' d → Gr d H H' → Q (.ref t) H'
/-- what the law's texts call -/
structure LawTxt (K : PySem.W.Frag) (mg : Str → Option Value) (fC fD fO : Addr) (fdC fdD fdO : FuncData) : Prop where
  FC : Fun K "_law_cell" "_law_cell" sCell fC fdC
  bC : Binds K fdC ["_law_script", "_law_k"] []
  gC : mg "_law_cell" = some (.ref fC)
  FD : Fun K "_law_dice" "_law_dice" sDice fD fdD
  bD : Binds K fdD ["_law_script", "_law_k"] []
  gD : mg "_law_dice" = some (.ref fD)
  FO : Fun K "_law_off" "_law_off" sOff fO fdO
  bO : Binds K fdO ["_law_d", "_law_most"] []
  gO : mg "_law_off" = some (.ref fO)
  ml : mg "len" = none
  ma : mg "abs" = none
  mm : mg "max" = none
  mn : mg "min" = none
  mi : mg "int" = none
  mr : mg "range" = none
  ms : mg "sorted" = none
  mt : mg "tuple" = none
section
variable {fC fD fO : Addr} {fdC fdD fdO : FuncData}
theorem LawTxt.off (T : LawTxt K mg fC fD fO fdC fdD fdO) : FnOk P w K mg base CX0 2 fO fdO ["_law_d", "_law_most"] (spOff K) := ok_off T.FO T.FC T.bC T.gC T.ml T.ma T.mm
theorem LawTxt.dice (T : LawTxt K mg fC fD fO fdC fdD fdO) : FnOk P w K mg base CX0 2 fD fdD ["_law_script", "_law_k"] (spDice K) := ok_dice T.FD T.FC T.bC T.gC T.ml T.ma T.mi
theorem perm_row {many : Nat} {xs ys : List Int} (p : ys.Perm xs) (h : GoodRow many xs) : GoodRow many ys := ⟨p.length_eq.trans h.1, fun x hx => h.2 x (p.mem_iff.mp hx)⟩
theorem clamp (m x : Int) (h : 0 ≤ m) : 0 ≤ (if (if x < m then x else m) > 0 then (if x < m then x else m) else 0) ∧ (if (if x < m then x else m) > 0 then (if x < m then x else m) else 0) < m + 1 := by
  split <;> split at * <;> omega
theorem ok_chain {f : Addr} {fd : FuncData} (F : Fun K "_law_chain" "_law_chain" sChain f fd) (T : LawTxt K mg fC fD fO fdC fdD fdO) : FnOk P w K mg base CX0 3 f fd ["_law_d", "_law_most"] (spChain K) := by
  have GO : FnOk P w K mg base CX0 2 fO fdO ["_law_d", "_law_most"] (spOff K) := T.off
  refine F.ok scChain (fun vs H Q E h => ?_) (fun cdv A outer s H vs Q E hr h => ?_)
  · obtain ⟨d, l, ns, most, rfl, _⟩ := h
    rfl
  · obtain ⟨d, l, ns, most, rfl, hD, hm1, hm6, q⟩ := h
    refine ⟨_, pss_cons (ps_set (i := 2) scChain.nd rfl (.inr rfl) (pe_op op_add pe_int (pe_call GO hr (by rfl) T.gO T.FO.kp T.bO .nil pass0 (pa_cons (pv 0) (pa_cons (pv 1) pa_nil)))))
      (pss_cons (ps_set (i := 3) scChain.nd rfl (.inl rfl) (pe_call GO hr (by rfl) T.gO T.FO.kp T.bO .nil pass0 (pa_cons (pv 0) (pa_cons pe_int pa_nil))))
      (pss_cons (ps_set (i := 4) scChain.nd rfl (.inl rfl) (pe_lst pa_nil))
      (pss_cons (ps_for PassesOwn.never rfl (pi_range1 (by rfl) T.mr (pa_cons (pe_op op_add pe_int (pe_call GO hr (by rfl) T.gO T.FO.kp T.bO .nil pass0 (pa_cons (pv 0)
            (pa_cons (pe_ix ix_list (pe_lst (pa_cons pe_int (pa_cons pe_int (pa_cons pe_int pa_nil)))) (pe_call GO hr (by rfl) T.gO T.FO.kp T.bO .nil pass0 (pa_cons (pv 0) (pa_cons pe_int pa_nil))) (fun _ _ => rfl)) pa_nil)))) pa_nil))
          (pg_name (i := 5) scChain.nd rfl (.inl rfl))
          (pss_cons (ps_setLc (i := 6) (own := [("_law_place", 8)]) (g := gName 8) (tt := tYes) rfl scChain.nd rfl rfl (sw_true rfl rfl rfl (by decide +kernel)) (pi_range1 (by rfl) T.mr (pa_cons (pv 2) pa_nil)) (blkOk_by (N := nChain) (sc := defScope sChain) (by decide +kernel))
              (fun _ _ _ _ _ => pg_name (i := 8) scChain.nd rfl (.inl rfl)) (fun _ _ _ _ _ => pts_nil)
              (fun _ _ _ _ _ => pe_call GO hr (by rfl) T.gO T.FO.kp T.bO .nil pass0 (pa_cons (pv 0) (pa_cons (pv 2) pa_nil))))
          (C8.pss_cut (ps_if (pt_cmpR op_eq (pv 3) pe_int (nomark _)) (pss_one (ps_set (i := 6) scChain.nd rfl (.inl rfl) (pe_callB cr_sorted (by rfl) T.ms (by decide +kernel) (pa_cons (pv 6) pa_nil)))) pss_nil)
          (C8.pss_cut (ps_if (pt_cmpR op_eq (pv 3) pe_int (nomark _)) (pss_one
              (ps_setLc (i := 6) (own := [("_law_place", 8)]) (g := gName 8) (tt := tYes) rfl scChain.nd rfl rfl (sw_true rfl rfl rfl (by decide +kernel)) (pi_range1 (by rfl) T.mr (pa_cons (pv 2) pa_nil)) (blkOk_by (N := nChain) (sc := defScope sChain) (by decide +kernel))
              (fun _ _ _ _ _ => pg_name (i := 8) scChain.nd rfl (.inl rfl)) (fun _ _ _ _ _ => pts_nil)
              (fun _ _ _ _ _ => pe_callB (call_max2 rfl) (by rfl) T.mm (by decide +kernel) (pa_cons pe_int (pa_cons (pe_callB (call_min2 rfl) (by rfl) T.mn (by decide +kernel) (pa_cons (pe_op op_sub (pv 2) pe_int) (pa_cons
                (pe_op op_sub (pe_op op_add (pv 8) (pe_call GO hr (by rfl) T.gO T.FO.kp T.bO .nil pass0 (pa_cons (pv 0) (pa_cons pe_int pa_nil)))) pe_int) pa_nil))) pa_nil))))) pss_nil)
          (pss_cons (ps_set (i := 7) scChain.nd rfl (.inl rfl) (pe_ix ix_list (pe_lst (pa_cons pe_int (pa_cons (pe_op op_add pe_int (pe_call GO hr (by rfl) T.gO T.FO.kp T.bO .nil pass0 (pa_cons (pv 0) (pa_cons pe_int pa_nil))))
              (pa_cons (pe_op op_add pe_int (pe_call GO hr (by rfl) T.gO T.FO.kp T.bO .nil pass0 (pa_cons (pv 0) (pa_cons pe_int pa_nil)))) pa_nil)))) (pe_call GO hr (by rfl) T.gO T.FO.kp T.bO .nil pass0 (pa_cons (pv 0) (pa_cons pe_int pa_nil))) (fun _ _ => rfl)))
          (pss_one (ps_expr (pe_bm PySem.F.plainAttrs_list PySem.F.slot_list_append PySem.F.type_list_append mt_append (pv 4) (pa_cons (pe_tup (pa_cons (pv 7) (pa_cons (pe_callTy call_tuple_of (by rfl) T.mt (by decide +kernel) (pa_cons (pv 6) pa_nil)) pa_nil))) pa_nil)))))))))
      (pss_one (ps_ret (pe_tup (pa_cons (pv 2) (pa_cons (pv 4) pa_nil)))))))), ?_⟩
    -- many, way, moves
    refine ⟨.ref d, rfl, .int most, rfl, d, l, ns, _, rfl, hD, by omega, by omega, fun r H1 hr1 hD1 o1 => ?_⟩
    refine ⟨1, r, rfl, rfl, .ref d, rfl, d, l, ns, _, rfl, hD1, by omega, by omega, fun way H2 hr2 hD2 o2 => ?_⟩
    obtain ⟨many, em⟩ : ∃ many : Nat, many = 1 + r := ⟨_, rfl⟩
    have em2 : (1 : Int) + (r : Int) = (many : Int) := by omega
    have g2 : Gr d H H2 := ((Gr.refl d H).off o1).off o2
    refine ⟨Nat.zero_le _, fun m nm => ?_⟩
    have hD3 : Dc K l ns (upd H2 m (.lst [])) d := hD2.new nm
    have g3 : Gr d H (upd H2 m (.lst [])) := g2.new nm
    have hm3 : (upd H2 m (.lst [])) m = some (.lst []) := upd_same
    -- the loop's range
    refine ⟨.ref d, rfl, (by show 3 ≤ sizeLine; decide), fun L nL => ?_⟩
    have hD4 := hD3.new (o := .lst [.int 4, .int 4, .int 8]) nL
    have g4 : Gr d H (upd (upd H2 m (.lst [])) L (.lst [.int 4, .int 4, .int 8])) := g3.new nL
    have nLm : L ≠ m := fun z => by rw [z, upd_same] at nL; cases nL
    have hm4 : (upd (upd H2 m (.lst [])) L (.lst [.int 4, .int 4, .int 8])) m = some (.lst []) := by rw [upd_ne (Ne.symm nLm)]; exact hm3
    have hL4 : (upd (upd H2 m (.lst [])) L (.lst [.int 4, .int 4, .int 8])) L = some (.lst [.int 4, .int 4, .int 8]) := upd_same
    generalize (upd (upd H2 m (.lst [])) L (.lst [.int 4, .int 4, .int 8])) = H4 at hD4 g4 hm4 hL4 ⊢
    refine ⟨.ref d, rfl, d, l, ns, _, rfl, hD4, by omega, by omega, fun r3 H5 hr3 hD5 o5 => ?_⟩
    have nmd : m ≠ d := hD2.ne nm
    have nLd : L ≠ d := hD3.ne nL
    have hL5 : H5 L = some (.lst [.int 4, .int 4, .int 8]) := by rw [o5 _ nLd]; exact hL4
    have hm5 : H5 m = some (.lst []) := by rw [o5 _ nmd]; exact hm4
    have g5 : Gr d H H5 := g4.off o5
    obtain ⟨c, hc4, hc8, hc⟩ : ∃ c : Int, 4 ≤ c ∧ c ≤ 8 ∧ ([.int 4, .int 4, .int 8] : List V)[r3]? = some (.int c) := by
      have h3 : r3 < 3 := by omega
      match r3, h3 with
      | 0, _ => exact ⟨4, by decide, by decide, rfl⟩
      | 1, _ => exact ⟨4, by decide, by decide, rfl⟩
      | 2, _ => exact ⟨8, by decide, by decide, rfl⟩
    refine ⟨L, _, _, _, rfl, rfl, SqL.of hL5, atI_nat hc, d, l, ns, _, rfl, hD5, by omega, by omega, fun cnt H6 hr6 hD6 o6 => ?_⟩
    have hm6' : H6 m = some (.lst []) := by rw [o6 _ nmd]; exact hm5
    have g6 : Gr d H H6 := g5.off o6
    refine ⟨1, cnt, rfl, rfl, _, rfl, by omega, by omega, ?_⟩
    have en : ((1 : Int) + (cnt : Int)).toNat = 1 + cnt := by omega
    refine for_range (lo := 0) (n := ((1 : Int) + (cnt : Int)).toNat)
      (fun i σ H' => ∃ y5 y6 y7 ms ws, σ = [some (.ref d), some (.int (most : Int)), some (.int ((1 : Int) + (r : Int))), some (.int (way : Int)), some (.ref m), y5, y6, y7, none] ∧
        Dc K l ns H' d ∧ Gr d H H' ∧ H' m = some (.lst ws) ∧ MovesAt H' ws ms ∧ ms.length = i ∧ ∀ mv ∈ ms, GoodMv many mv)
      ⟨none, none, none, [], [], rfl, hD6, g6, hm6', .nil, rfl, fun _ z => nomatch z⟩ ?_ ?_
    · rintro i σ H7 hi ⟨y5, y6, y7, ms, ws, rfl, hD7, g7, hm7, hM7, hl7, hg7⟩
      rw [en] at hi
      -- row = [off(d, many) for place in range(many)]
      refine ⟨_, rfl, _, rfl, by omega, by omega, fun D nD => ?_⟩
      have nDd : D ≠ d := hD7.ne nD
      have er : ((1 : Int) + (r : Int)).toNat = many := by omega
      refine lc_range (lo := 0) (n := ((1 : Int) + (r : Int)).toNat)
        (fun j H' => ∃ row : List Int, H' D = some (.lst (row.map V.int)) ∧ row.length = j ∧ (∀ x ∈ row, 0 ≤ x ∧ x < (many : Int)) ∧ Dc K l ns H' d ∧ Gr d H7 H')
        ⟨[], upd_same, rfl, (fun _ z => nomatch z), hD7.new nD, (Gr.refl d H7).new nD⟩ ?_ ?_
      · rintro j H8 hj ⟨row, hrow, hrl, hrx, hD8, g8⟩
        refine ⟨rfl, .ref d, rfl, _, rfl, d, l, ns, _, rfl, hD8, by omega, by omega, fun x H9 hx hD9 o9 => ?_⟩
        have hrow9 : H9 D = some (.lst (row.map V.int)) := by rw [o9 _ nDd]; exact hrow
        refine ⟨_, hrow9, ?_, row ++ [(x : Int)], ?_, ?_, ?_, hD9.turn hD7 nD nDd, ?_⟩
        · rw [List.length_map, hrl]
          exact small8 (by omega)
        · rw [upd_same, List.map_append]
          rfl
        · rw [List.length_append, hrl]
          rfl
        · intro z hz
          rcases List.mem_append.mp hz with hz | hz
          · exact hrx z hz
          · have e : z = (x : Int) := by simpa using hz
            omega
        · intro b o nb e
          have e8 := g8.off o9 b o nb e
          rw [upd_ne (ne_of_none e nD)]
          exact e8
      · rintro H8 ⟨row, hrow, hrl, hrx, hD8, g8⟩
        have hR : GoodRow many row := ⟨hrl.trans er, hrx⟩
        let Mid : L2.St → Hp → Prop := fun σ H9 => ∃ D9 row, σ = [some (.ref d), some (.int (most : Int)), some (.int ((1 : Int) + (r : Int))), some (.int (way : Int)), some (.ref m), some (.int (0 + (i : Int))), some (.ref D9), y7, none] ∧
          H9 D9 = some (.lst (row.map V.int)) ∧ GoodRow many row ∧ Dc K l ns H9 d ∧ Gr d H7 H9
        have mid0 : Mid [some (.ref d), some (.int (most : Int)), some (.int ((1 : Int) + (r : Int))), some (.int (way : Int)), some (.ref m), some (.int (0 + (i : Int))), some (.ref D), y7, none] H8 := ⟨D, row, rfl, hrow, hR, hD8, g8⟩
        refine ⟨Mid, ⟨_, rfl, rfl, _, rfl, ite2 (fun e => ?_) (fun e => mid0)⟩, ?_⟩
        · -- row = sorted(row)
          refine ⟨_, rfl, D, row, rfl, SqL.of hrow, by omega, fun ns' p hp _ np => ?_⟩
          exact ⟨p, ns', rfl, upd_same, perm_row hp hR, hD8.new np, g8.new np⟩
        · rintro σ9 H9 ⟨D9, row9, rfl, hrow9, hR9, hD9, g9⟩
          refine ⟨Mid, ⟨_, rfl, rfl, _, rfl, ite2 (fun e => ?_) (fun e => ⟨D9, row9, rfl, hrow9, hR9, hD9, g9⟩)⟩, ?_⟩
          · -- row = [max(0, min(many - 1, ..)) ..]
            refine ⟨_, rfl, _, rfl, by omega, by omega, fun D' nD' => ?_⟩
            have nDd' : D' ≠ d := hD9.ne nD'
            refine lc_range (lo := 0) (n := ((1 : Int) + (r : Int)).toNat)
              (fun j H' => ∃ row : List Int, H' D' = some (.lst (row.map V.int)) ∧ row.length = j ∧ (∀ x ∈ row, 0 ≤ x ∧ x < (many : Int)) ∧ Dc K l ns H' d ∧ Gr d H9 H')
              ⟨[], upd_same, rfl, (fun _ z => nomatch z), hD9.new nD', (Gr.refl d H9).new nD'⟩ ?_ ?_
            · rintro j H10 hj ⟨row', hrow', hrl', hrx', hD10, g10⟩
              refine ⟨rfl, _, rfl, _, _, rfl, rfl, _, rfl, .ref d, rfl, d, l, ns, _, rfl, hD10, by omega, by omega, fun x H11 hx hD11 o11 => ?_⟩
              refine ⟨_, _, rfl, rfl, _, _, rfl, rfl, _, _, rfl, _, _, rfl, ?_⟩
              have cl := clamp ((1 : Int) + (r : Int) - 1) (0 + (j : Int) + (x : Int) - 1) (by omega)
              generalize (if (if 0 + (j : Int) + (x : Int) - 1 < (1 : Int) + (r : Int) - 1 then 0 + (j : Int) + (x : Int) - 1 else (1 : Int) + (r : Int) - 1) > 0 then
                (if 0 + (j : Int) + (x : Int) - 1 < (1 : Int) + (r : Int) - 1 then 0 + (j : Int) + (x : Int) - 1 else (1 : Int) + (r : Int) - 1) else 0) = z at cl ⊢
              have hrow9 : H11 D' = some (.lst (row'.map V.int)) := by rw [o11 _ nDd']; exact hrow'
              refine ⟨_, hrow9, ?_, row' ++ [z], ?_, ?_, ?_, hD11.turn hD9 nD' nDd', ?_⟩
              · rw [List.length_map, hrl']
                exact small8 (by omega)
              · rw [upd_same, List.map_append]
                rfl
              · rw [List.length_append, hrl']
                rfl
              · intro y hy
                rcases List.mem_append.mp hy with hy | hy
                · exact hrx' y hy
                · have e : y = z := by simpa using hy
                  omega
              · intro b o nb e
                have e8 := g10.off o11 b o nb e
                rw [upd_ne (ne_of_none e nD')]
                exact e8
            · rintro H10 ⟨row', hrow', hrl', hrx', hD10, g10⟩
              exact ⟨D', row', rfl, hrow', ⟨hrl'.trans er, hrx'⟩, hD10, g9.trans g10⟩
          · rintro σ10 H10 ⟨D10, row, rfl, hrow, hR, hD10, g10⟩
            -- weight = [1, 1 + off(d, 4), 1 + off(d, 99)][off(d, 3)]
            have g10' : Gr d H H10 := g7.trans g10
            refine ⟨.ref d, rfl, d, l, ns, _, rfl, hD10, by omega, by omega, fun x1 H11 hx1 hD11 o11 => ?_⟩
            refine ⟨1, x1, rfl, rfl, .ref d, rfl, d, l, ns, _, rfl, hD11, by omega, by omega, fun x2 H12 hx2 hD12 o12 => ?_⟩
            refine ⟨1, x2, rfl, rfl, (by show 3 ≤ sizeLine; decide), fun W nW => ?_⟩
            have hD13 := hD12.new (o := .lst [.int 1, .int (1 + (x1 : Int)), .int (1 + (x2 : Int))]) nW
            have nWd : W ≠ d := hD12.ne nW
            have g13 : Gr d H10 (upd H12 W (.lst [.int 1, .int (1 + (x1 : Int)), .int (1 + (x2 : Int))])) := (((Gr.refl d H10).off o11).off o12).new nW
            have hW13 : (upd H12 W (.lst [.int 1, .int (1 + (x1 : Int)), .int (1 + (x2 : Int))])) W = some (.lst [.int 1, .int (1 + (x1 : Int)), .int (1 + (x2 : Int))]) := upd_same
            refine ⟨.ref d, rfl, d, l, ns, _, rfl, hD13, by omega, by omega, fun x3 H14 hx3 hD14 o14 => ?_⟩
            have hW14 : H14 W = some (.lst [.int 1, .int (1 + (x1 : Int)), .int (1 + (x2 : Int))]) := by rw [o14 _ nWd]; exact hW13
            have g14 : Gr d H10 H14 := g13.off o14
            obtain ⟨wt, hw1, hw9, hw⟩ : ∃ c : Int, 1 ≤ c ∧ c ≤ 99 ∧ ([.int 1, .int (1 + (x1 : Int)), .int (1 + (x2 : Int))] : List V)[x3]? = some (.int c) := by
              have h3 : x3 < 3 := by omega
              match x3, h3 with
              | 0, _ => exact ⟨1, by decide, by decide, rfl⟩
              | 1, _ => exact ⟨1 + (x1 : Int), by omega, by omega, rfl⟩
              | 2, _ => exact ⟨1 + (x2 : Int), by omega, by omega, rfl⟩
            refine ⟨W, _, _, _, rfl, rfl, SqL.of hW14, atI_nat hw, ?_⟩
            -- moves.append((weight, tuple(row)))
            have nm' : ∀ {H'}, Dc K l ns H' d → H' m = H' m := fun _ => rfl
            have hm14 : H14 m = some (.lst ws) := (g10.trans g14) m _ nmd hm7
            have nD10 : D10 ≠ d := hD10.ne_of hrow fun s0 l k big z => by
              injection z with z
              exact map_int_dl z
            have hrow14 : H14 D10 = some (.lst (row.map V.int)) := g14 D10 _ nD10 hrow
            refine ⟨.ref m, rfl, .inl ⟨rfl, _, SqL.of hm14⟩, .int wt, rfl, .ref D10, rfl, D10, _, rfl, .inl ⟨SqL.of hrow14, fun tq ntq => ?_⟩⟩
            refine ⟨by show 2 ≤ sizeLine; decide, fun tp ntp => ?_⟩
            have g16 : Same H14 (upd (upd H14 tq (.tup (row.map V.int))) tp (.tup [.int wt, .ref tq])) := (same_new ntq).trans (same_new ntp)
            have htp : (upd (upd H14 tq (.tup (row.map V.int))) tp (.tup [.int wt, .ref tq])) tp = some (.tup [.int wt, .ref tq]) := upd_same
            have htq : (upd (upd H14 tq (.tup (row.map V.int))) tp (.tup [.int wt, .ref tq])) tq = some (.tup (row.map V.int)) := by
              rw [upd_ne (ne_of_none upd_same ntp)]
              exact upd_same
            have hD16 := hD14.same g16
            generalize (upd (upd H14 tq (.tup (row.map V.int))) tp (.tup [.int wt, .ref tq])) = H16 at g16 htp htq hD16 ⊢
            have hm16 := g16 m _ hm14
            have gt : Gr d H7 H16 := (g10.trans g14).trans (Gr.of_same g16)
            have hM16 : MovesAt H16 ws ms := hM7.same (gt.tups (K := K) hD7)
            have hl := hM16.length
            refine ⟨m, _, _, rfl, rfl, hm16, by rw [hl]; exact small8 (by omega), ?_⟩
            refine ⟨some (.int (0 + (i : Int))), some (.ref D10), some (.int wt), ms ++ [(wt, row)], ws ++ [.ref tp], rfl, hD16.turn hD2 nm nmd, ?_, upd_same, ?_, by rw [List.length_append, hl7]; rfl, ?_⟩
            · intro b o nb e
              by_cases hb : b = m
              · rw [hb] at e nb
                have z := g2 m o nb e
                rw [nm] at z
                cases z
              · rw [upd_ne hb]
                exact (g7.trans gt) b o nb e
            · refine MovesAt.same (H := H16) ?_ (MovesAt.snoc ⟨tp, tq, rfl, htp, htq⟩ hM16)
              intro b xs e
              rw [upd_ne]
              · exact e
              · intro z
                rw [z, hm16] at e
                cases e
            · intro mv hmv
              rcases List.mem_append.mp hmv with hmv | hmv
              · exact hg7 mv hmv
              · have e : mv = (wt, row) := by simpa using hmv
                subst e
                exact ⟨hw1, hw9, hR⟩
    · rintro σ7 H7 ⟨y5, y6, y7, ms, ws, rfl, hD7, g7, hm7, hM7, hl7, hg7⟩
      refine ⟨_, rfl, .ref m, rfl, (by show 2 ≤ sizeLine; decide), fun t nt => ?_⟩
      refine q t m many ws ms _ ⟨by omega, by omega, by omega, by omega, hg7⟩ (by omega) ⟨?_, same_new nt _ _ hm7, hM7.same (Same.tups (same_new nt))⟩ (hD7.new nt) (g7.new nt)
      rw [← em2]
      exact upd_same
end
end
/-! ### all(x in range(y) for x in a tuple of ints): a rule of our own -/
/-- the element: x in range(y), y a captured int -/
def eltR (x y : Str) (p1 p2 p3 p4 p5 : Pos) : Expr := .Compare (.Name x p1) [.In] [.Call (.Name "range" p2) [.Name y p3] [] p4] p5
def inR (n z : Int) : Bool := decide (0 ≤ z ∧ z < n)
theorem elt_range {prog : Program} {w : World} {cenv : Env} {A : Around} {E : Value → Shared → Prop} {x y : Str} {p1 p2 p3 p4 p5 : Pos} {s : Shared} {m mg mb : Str → Option Value} {cc : Addr} {z n : Int} {t u : Tok}
    (kf : cenv.scope.kind = .function) (kx : cenv.kindOf x = some .local) (ky : cenv.kindOf y = some .free) (kr : cenv.kindOf "range" = some .globalImplicit) (hm : s.heap.Ns cenv.locals m) (ex : m x = some (.int z t))
    (hc : cenv.cells.lookup y = some cc) (ec : s.heap.IsCell cc (some (.int n u))) (hg : s.heap.Ns cenv.globals mg) (nr : mg "range" = none) (hb : s.heap.Ns cenv.builtins mb) (br : mb "range" = some (.type "range"))
    (dx : (x == ("__debug__" : Str)) = false) (dy : (y == ("__debug__" : Str)) = false) (cy : (y == ("__classdict__" : Str)) = false) :
    wpAny (model prog w) A (eval (eltR x y p1 p2 p3 p4 p5) cenv) (fun v s' => v = .bool (inR n z) ∧ Keeps s s') E s := by
  refine wpAny_Compare1 (wpAny_Name (wpAny_loadName_local kf kx hm ex ?_) dx) (by rfl)
  refine wpAny_Call_Name_kw (Calls.Name_function_global kf kr (Calls.loadGlobal_builtin hg nr hb br ?_) (by decide))
  refine PyProof.Rows.callWith_type1 (Calls.spliced_cons (wpAny_Name (wpAny_loadName_free kf ky hc ec ?_ cy) dy)) (by rfl) (by rfl)
  refine Calls.spliced_nil (call_range_1 ?_)
  have ho := Heap.get?_push_size s.heap (o := { cls := .type "range", data := .fields #[.int 0 s.toks, .int n u, .int 1 (s.toks + 1)] }) rfl
  show wpAny _ _ (do return Value.bool (← contains (Value.ref s.heap.objs.size) (Value.int z t))) _ _ _
  refine wpAny_bind (wpAny_contains_slot (T := "range") ⟨_, ho, rfl⟩ F.slot_range_contains (call_meets F.slot_range_contains ⟨_, ho, rfl⟩ F.entry_range_contains (F.args_range_contains_2 _ _) (q_contains s.heap.objs.size 0 n z s.toks u (s.toks + 1) t) ⟨ho, ?_⟩))
  refine wpAny_truthy_bool (wpAny_pure ⟨?_, _, _, rfl, fun b o e => Heap.get?_push_of_some _ e⟩)
  rw [place1]
  rfl
open GxR in
/-- the walk that all(..) makes, once the generator stands at g -/
def AllReady (X : Cx) (pins : List (Addr × Obj)) (σ : L2.St) (H1 : Hp) (P : Addr) (bs : List Bool) (g : Addr) (s5 : Shared) : Prop :=
  ∃ (fp wr : List Addr) (G : Array GenState → Array GenState → Prop) (F : Nat → Value → Prop) (St : Nat → Shared → Prop) (tr : Nat → Bool),
    WalksS X.prog X.w X.A.in1 g fp wr G bs.length F St ∧ St 0 s5 ∧ TruthOf X.prog X.w X.A.in1 F tr ∧ (∀ j b, bs[j]? = some b → tr j = b) ∧
    ∀ s', Moved wr G s5 s' → ∃ H2, Tabbed P H1 H2 ∧ Inv X pins σ H2 s'
theorem clo_one {cells : List (Str × Addr)} : ∀ (names : List (Str × NameKind)) (acc : List (Str × Addr)) (y : Str) (cc : Addr), (∀ p ∈ names, p.2 = .free → cells.lookup p.1 = some ((cells.lookup p.1).getD 0)) → cells.lookup y = some cc →
    ((y, NameKind.free) ∈ names ∨ acc.lookup y = some cc) → (cloFrom cells names acc).lookup y = some cc := by
  intro names
  induction names with
  | nil =>
    intro acc y cc _ _ h
    rcases h with h | h
    · cases h
    · exact h
  | cons p r ih =>
    intro acc y cc hf hy h
    obtain ⟨n, kd⟩ := p
    unfold cloFrom
    have hf' : ∀ p ∈ r, p.2 = .free → cells.lookup p.1 = some ((cells.lookup p.1).getD 0) := fun p hp => hf p (List.mem_cons_of_mem _ hp)
    by_cases hk : (kd == NameKind.free) = true
    · rw [if_pos hk]
      refine ih _ y cc hf' hy ?_
      by_cases hn : y = n
      · subst hn
        refine .inr ?_
        rw [List.lookup_cons_self, hy]
        rfl
      · rcases h with h | h
        · rcases List.mem_cons.mp h with e | e
          · injection e with e1 _
            exact absurd e1 hn
          · exact .inl e
        · refine .inr ?_
          rw [List.lookup_cons, show (y == n) = false from by simpa using hn]
          exact h
    · rw [if_neg hk]
      refine ih _ y cc hf' hy ?_
      rcases h with h | h
      · rcases List.mem_cons.mp h with e | e
        · injection e with _ e2
          exact absurd (by rw [← e2]; rfl) hk
        · exact .inl e
      · exact .inr h
/-- the generator's code object: there already, or made and put into the table -/
theorem gen_code {M : Model} {A : Around} {env : Env} {c P : Addr} {gpos : Pos} {q : Str} {scope : Scope} {E : Value → Shared → Prop} {Q : Value → Shared → Prop} {s : Shared} {ps : Array Value} (hcode : env.code = .ref c) (cd : PySem.W.CodeHd s.heap c P)
    (hP : s.heap.get? P = some { cls := .none, data := .fields ps }) (ht : TriplesOk ps.toList)
    (h : ∀ (code : Value) (h3 : Heap) (tk : Nat) (more : Array Value), Heap.ExtBut P s.heap h3 → s.heap.objs.size ≤ h3.objs.size → h3.get? P = some { cls := .none, data := .fields (ps ++ more) } → TriplesOk (ps ++ more).toList → Q code { s with heap := h3, toks := tk }) :
    wpAny M A (genexprCode env gpos q scope) Q E s := by
  match hf : codeAmong gpos ps.toList with
  | some cv => exact wpAny_genexprCode_hit hcode (cd.code hP ht) hf (h cv s.heap s.toks #[] (Heap.ExtBut.refl _ _) (Nat.le_refl _) (by rw [Array.append_empty]; exact hP) (by rw [Array.append_empty]; exact ht))
  | none =>
    refine wpAny_genexprCodeX hcode (cd.code hP ht) (cd.tab hP) hf fun c' h' tk hx hge hlt hco _ htab _ => h _ h' tk _ hx (Nat.le_trans hge (Nat.le_of_lt hlt)) htab.2 ?_
    obtain ⟨_, _, _, _, _, _, _, _, _, _, _, _, _, _, _, _, _, _, _, htr, _⟩ := hco
    exact htr
section
variable {X : Cx} {pins : List (Addr × Obj)} {σ : L2.St} {H : Hp} {s : Shared}
open GxR in
theorem gen_range {c P : Addr} {iter : Expr} {x y : Str} {px gpos p1 p2 p3 p4 p5 : Pos} {scope : Scope} {te : TE} {k i : Nat} {Q' : Value → Shared → Prop} {R : List Int → Int → Hp → Prop}
    (hr : Room k X.A) (TB : TabB X.base X.mg c P) (hcode : X.env.code = .ref c) (S : GenS X.env scope x) (hi : PE X iter te) (hy : X.N[i]? = some y) (vy : X.env.kindOf y = some .cell) (fy : (y, NameKind.free) ∈ scope.names) (ly : scope.names.lookup y = some .free)
    (lr : scope.names.lookup ("range" : Str) = some .globalImplicit) (nr : X.mg "range" = none) (dx : (x == ("__debug__" : Str)) = false) (dy : (y == ("__debug__" : Str)) = false) (cy : (y == ("__classdict__" : Str)) = false)
    (hs : ∀ v, genFold iter X.env v = pure v) (I : Inv X pins σ H s) (h : te σ H fun v H1 => ∃ (a : Addr) (ns : List Int) (n : Int), v = .ref a ∧ SqT X.K H1 a (ns.map V.int) ∧ TabG H1 P ∧ σ[i]? = some (some (.int n)) ∧ R ns n H1)
    (hQ : ∀ ns n H1 g s5, R ns n H1 → AllReady X pins σ H1 P (ns.map (inR n)) g s5 → Q' (.ref g) s5) :
    wpAny (model X.prog X.w) X.A (eval (.GeneratorExp (eltR x y p1 p2 p3 p4 p5) [⟨.Name x px, iter, [], 0⟩] scope gpos) X.env) Q' X.xe s := by
  refine wpAny_GeneratorExp_walksQ hr.hd S.co (closure_ok S.free) S.cell S.dot S.loc S.kind (by have := hr.dp; omega) ?_ hs
  refine thn (hi.run pins s σ H _ I h) fun xv s1 ⟨v, H1, I1, r1, a, ns, n, ev, hT, hTab, hn, hR⟩ => ?_
  subst ev
  obtain rfl : xv = Value.ref a := r1
  obtain ⟨its, rv, hTup, hz⟩ := I1.tuple hT
  have tupAt : s1.heap.IsTuple a its.toArray := hTup
  -- the captured int
  obtain ⟨cc, u, hcc, hcell⟩ : ∃ (cc : Addr) (u : Tok), X.env.cells.lookup y = some cc ∧ s1.heap.IsCell cc (some (.int n u)) := by
    obtain ⟨m, _, hl⟩ := I1.loc
    obtain ⟨uv, ru, lk⟩ := hl i y (.int n) hy hn (.inr (.inl vy))
    obtain ⟨u, eu⟩ := ru
    subst eu
    rcases lk with ⟨k1, _⟩ | ⟨_, cc, e1, e2⟩
    · rw [vy] at k1
      cases k1
    · exact ⟨cc, u, e1, e2⟩
  obtain ⟨mb, bb1, bb2⟩ := I1.mod.blt
  have lenI : its.toArray.size = ns.length := by
    have e := rv.length
    rw [List.length_map] at e
    simp only [List.size_toArray]
    omega
  obtain ⟨ps, hP, hps⟩ := hTab
  refine wpAny_pyIter_tuple tupAt ?_
  -- it: the iterator's object
  let it : Obj := { cls := .type "tuple_iterator", data := .fields #[.ref a, .int 0 0] }
  have atP : s1.heap.get? P = some { cls := .none, data := .fields ps } := I1.hok P _ hP
  have ltP : P < s1.heap.objs.size := Heap.lt_size atP
  have limI : (s1.heap.push it).NoLimit := I1.nolimit.push it
  have keepI : ∀ b o, s1.heap.get? b = some o → (s1.heap.push it).get? b = some o := fun b o e => Heap.get?_push_of_some _ e
  have codeI : PySem.W.CodeHd (s1.heap.push it) c P := TB.code.keeps fun b o e => keepI b o (I1.bk b o e)
  have ltS : cStatics < s1.heap.objs.size := let ⟨_, q, _⟩ := I1.nolimit; q.lt
  have neS : cStatics ≠ P := fun e => by
    obtain ⟨_, ⟨o', es, ep, g1, g2, _⟩, _⟩ := I1.nolimit
    rw [e, atP] at g1
    cases g1
    cases g2
  have szI : (s1.heap.push it).objs.size = s1.heap.objs.size + 1 := Heap.size_push ..
  have iterI : (s1.heap.push it).IsTupleIter s1.heap.objs.size a 0 := ⟨_, Heap.get?_push_size _ rfl, rfl, rfl⟩
  have tupI : (s1.heap.push it).IsTuple a its.toArray := by
    obtain ⟨o, e, r⟩ := tupAt
    exact ⟨o, keepI _ _ e, r⟩
  have neIt : a ≠ s1.heap.objs.size := by
    obtain ⟨o, e, _⟩ := tupAt
    exact Nat.ne_of_lt (Heap.lt_size e)
  have neAP : a ≠ P := fun e => by
    obtain ⟨o, g, _, nn, dd⟩ := tupAt
    rw [e, atP] at g
    cases g
    cases dd
  have Wk : ∀ A' : Around, A'.handled = none → Walks X.prog X.w A' s1.heap.objs.size [s1.heap.objs.size, a] [s1.heap.objs.size] its.toArray.size (fun j v => its.toArray[j]? = some v) (fun j hp => hp.IsTupleIter s1.heap.objs.size a j ∧ hp.IsTuple a its.toArray) :=
    fun A' hA => Walks.tuple hA s1.heap.objs.size a neIt its.toArray
  refine ⟨limI, gen_code hcode codeI (keepI _ _ atP) hps fun code h3 tk more hx hge hP3 ht3 => ?_⟩
  have hge2 : s1.heap.objs.size + 1 ≤ h3.objs.size := by
    rw [← szI]
    exact hge
  have keep3 : ∀ b o, b ≠ P → s1.heap.get? b = some o → h3.get? b = some o := fun b o nb e => hx b o nb (keepI b o e)
  obtain ⟨bm, ob, f1, f2, f3, f4, f5, f6, f7, f8⟩ := TB.bm
  have glob3 : h3.Ns X.env.globals X.mg := by
    rw [I1.ok.glob]
    exact ((I1.mod.glob.keeps I1.bk).push it).extBut hx TB.gP
  refine wpAny_builtinsFor (m := X.mg) glob3 f1 f2 (keep3 _ _ f4 (I1.bk _ _ f5)) f6 f7 f8 ?_
  refine ⟨s1.heap.objs.size, [s1.heap.objs.size, a], [s1.heap.objs.size], its.toArray.size, fun j v => its.toArray[j]? = some v, _, fun _ => true, fun j v => ∃ z, ns[j]? = some z ∧ v = .bool (inR n z), rfl, Wk, ?_, ?_, limI.extBut hx neS, ?_, ?_, ?_⟩
  · refine ⟨?_, ?_⟩
    · obtain ⟨o, e, r⟩ := iterI
      exact ⟨o, hx _ _ (Nat.ne_of_gt ltP) e, r⟩
    · obtain ⟨o, e, r⟩ := tupI
      exact ⟨o, hx _ _ neAP e, r⟩
  · intro b hb
    show b < h3.objs.size
    rcases List.mem_cons.mp hb with e | e
    · rw [e]
      exact Nat.lt_of_succ_le hge2
    · have e2 : b = a := by simpa using e
      obtain ⟨o, g, _⟩ := tupAt
      have lta := Heap.lt_size g
      rw [e2]
      exact Nat.lt_of_lt_of_le lta (by omega)
  · intro hmem
    have e : cStatics = s1.heap.objs.size := by simpa using hmem
    rw [e] at ltS
    exact Nat.lt_irrefl _ ltS
  · intro href hhref
    refine ⟨fun A' E' j v s₂ m₂ hA hPv ha2 hb2 hk => ?_, fun A' E' j v s₂ m₂ hA hPv _ ha2 hb2 hk => ?_⟩
    · simp only [List.forIn_nil]
      exact wpAny_pure ⟨rfl, s₂.heap, s₂.toks, rfl, fun _ _ e => e⟩
    · -- what stood ahead of the generator stands
      have old : ∀ b o, b ≠ P → s1.heap.get? b = some o → s₂.heap.get? b = some o := fun b o nb e => by
        refine hk b (List.mem_range.mpr ?_) (fun z => ?_) o (hhref b o (keep3 b o nb e))
        · exact Nat.lt_of_lt_of_le (Heap.lt_size e) (by show s1.heap.objs.size ≤ h3.objs.size; omega)
        · have e2 : b = s1.heap.objs.size := by simpa using z
          exact Nat.ne_of_lt (Heap.lt_size e) e2
      have nPb : ∀ b o, X.base.get? b = some o → b ≠ P := fun b o e z => by
        have q := (I1.bs b o e).2
        rw [z, hP] at q
        cases q
      have hjv : its[j]? = some v := by simpa using hPv
      obtain ⟨zv, ez, rz⟩ : ∃ z, ns[j]? = some z ∧ RelV (.int z) v := by
        have hj : j < ns.length := by
          obtain ⟨h, _⟩ := List.getElem?_eq_some_iff.mp hjv
          simpa [lenI] using (show j < its.toArray.size by simpa using h)
        obtain ⟨uu, g1, g2⟩ := rv.get (i := j) (x := .int ns[j]) (by rw [List.getElem?_map, List.getElem?_eq_getElem hj]; rfl)
        rw [hjv] at g1
        cases g1
        exact ⟨_, List.getElem?_eq_getElem hj, g2⟩
      obtain ⟨tz, rfl⟩ := rz
      have cellS : s₂.heap.IsCell cc (some (.int n u)) := by
        obtain ⟨o, e, d⟩ := hcell
        refine ⟨o, old _ _ (fun z => ?_) e, d⟩
        rw [z, atP] at e
        cases e
        cases d
      have gS : s₂.heap.Ns mainGlobals X.mg := by
        obtain ⟨o, es, ep, e, r⟩ := I1.mod.glob
        exact ⟨o, es, ep, old _ _ (nPb _ _ e) (I1.bk _ _ e), r⟩
      have bS : s₂.heap.Ns builtinsNs mb := by
        obtain ⟨o, es, ep, e, r⟩ := bb1
        exact ⟨o, es, ep, old _ _ (nPb _ _ e) (I1.bk _ _ e), r⟩
      have hclo : (cloFrom X.env.cells scope.names []).lookup y = some cc := clo_one _ _ _ _ (fun p hp hf => by
        obtain ⟨c', ec'⟩ := S.free p hp hf
        rw [ec']
        rfl) hcc (.inl fy)
      refine thn (elt_range (x := x) (y := y) S.kind S.loc ly lr ha2 hb2 hclo cellS (mg := X.mg) (by show s₂.heap.Ns X.env.globals X.mg; rw [I1.ok.glob]; exact gS) nr bS ((bb2 "range" (by decide)).trans (by decide +kernel)) dx dy cy) fun v' s3 hv => ⟨⟨zv, ez, hv.1⟩, hv.2⟩
  · intro g h5 tk5 gs hbare hag hsz5 hk5 W5 hat
    have e0 : passing (fun _ => true) its.toArray.size 0 = List.range its.toArray.size := GxR.passing_true _
    rw [e0] at W5
    rw [List.length_range, lenI] at W5
    have oldA : ∀ b o, s1.heap.get? b = some o → b ∉ h3.objs.size :: [s1.heap.objs.size] := fun b o e hb => by
      have l0 := Heap.lt_size e
      rcases List.mem_cons.mp hb with z | z
      · rw [z] at l0
        exact absurd (Nat.lt_of_lt_of_le l0 (Nat.le_of_succ_le hge2)) (Nat.lt_irrefl _)
      · have z2 : b = s1.heap.objs.size := by simpa using z
        exact Nat.ne_of_lt l0 z2
    have W6 := W5.in4_1
    rw [show ns.length = (ns.map (inR n)).length from (List.length_map _).symm] at W6
    rw [lenI, show ns.length = (ns.map (inR n)).length from (List.length_map _).symm] at hat
    refine hQ ns n H1 g _ hR ⟨_, _, _, _, _, fun j => (ns.map (inR n)).getD j false, W6, hat, ?_, fun j b hb => by show (ns.map (inR n)).getD j false = b; rw [List.getD_eq_getElem?_getD, hb]; rfl, fun s' hm => ?_⟩
    · intro j yv sj Qj Ej hy hQj
      obtain ⟨i', hij, z, hz', rfl⟩ := hy
      obtain ⟨hj, ej⟩ := List.getElem?_eq_some_iff.mp hij
      rw [List.getElem_range] at ej
      subst ej
      refine wpAny_truthy_bool ?_
      have eb : (ns.map (inR n)).getD j false = inR n z := by
        rw [List.getD_eq_getElem?_getD, List.getElem?_map, hz']
        rfl
      have hQj' : Qj ((ns.map (inR n)).getD j false) sj := hQj
      rw [eb] at hQj'
      exact hQj'
    · have J := inv_tab (more := more) (h' := s'.heap) (g' := s'.gens) (d' := s'.drawn) (t' := s'.toks) I1 hP (fun b o nb e => hm.heap b o (oldA b o e) (hk5 b o (keep3 b o nb e))) (hm.heap P _ (oldA P _ atP) (hk5 P _ hP3)) (AllBare.movedS (I1.bare.push hbare) hm)
      rw [sh_eta s1 s' hm.os] at J
      exact ⟨upd H1 P (.tbl (ps ++ more)), ⟨⟨ps ++ more, upd_same, ht3⟩, fun b hb => upd_ne hb⟩, J⟩
/-- all(x in range(y) for x in e): e a tuple of ints, y an int in slot i -/
def tAllR (K : PySem.W.Frag) (P : Addr) (i : Nat) (te : TE) : TE := fun σ H Q => te σ H fun v H1 => ∃ (a : Addr) (ns : List Int) (n : Int), v = .ref a ∧ SqT K H1 a (ns.map V.int) ∧ GxR.TabG H1 P ∧ σ[i]? = some (some (.int n)) ∧
  ∀ H2, GxR.Tabbed P H1 H2 → Q (.bl (ns.all (inR n))) H2
theorem all_tr : ∀ (bs : List Bool) (tr : Nat → Bool), (∀ j b, bs[j]? = some b → tr j = b) → (List.range bs.length).all tr = bs.all id := by
  intro bs tr h
  rw [Bool.eq_iff_iff, List.all_eq_true, List.all_eq_true]
  constructor
  · intro g b hb
    obtain ⟨j, hj, e⟩ := List.getElem_of_mem hb
    have q := g j (List.mem_range.mpr hj)
    rw [h j b (by rw [List.getElem?_eq_getElem hj, e])] at q
    exact q
  · intro g j hj
    have hj' := List.mem_range.mp hj
    rw [h j bs[j] (List.getElem?_eq_getElem hj')]
    exact g _ (List.getElem_mem hj')
theorem pe_allR {c P : Addr} {iter : Expr} {x y : Str} {px p pos gpos p1 p2 p3 p4 p5 : Pos} {scope : Scope} {te : TE} {k i : Nat}
    (hr : Room k X.A) (hg : Gl X "all") (hm : X.mg "all" = none) (TB : GxR.TabB X.base X.mg c P) (hcode : X.env.code = .ref c) (S : GxR.GenS X.env scope x) (hi : PE X iter te) (hy : X.N[i]? = some y) (vy : X.env.kindOf y = some .cell) (fy : (y, NameKind.free) ∈ scope.names) (ly : scope.names.lookup y = some .free)
    (lr : scope.names.lookup ("range" : Str) = some .globalImplicit) (nr : X.mg "range" = none) (dx : (x == ("__debug__" : Str)) = false) (dy : (y == ("__debug__" : Str)) = false) (cy : (y == ("__classdict__" : Str)) = false)
    (hs : ∀ v, genFold iter X.env v = pure v)
    (he : starEach [.GeneratorExp (eltR x y p1 p2 p3 p4 p5) [⟨.Name x px, iter, [], 0⟩] scope gpos] X.env = (false, eval (.GeneratorExp (eltR x y p1 p2 p3 p4 p5) [⟨.Name x px, iter, [], 0⟩] scope gpos) X.env) :: starEach [] X.env := by rfl) :
    PE X (.Call (.Name "all" p) [.GeneratorExp (eltR x y p1 p2 p3 p4 p5) [⟨.Name x px, iter, [], 0⟩] scope gpos] [] pos) (tAllR X.K P i te) := by
  refine ⟨fun pins s σ H Q I h => wpAny_Call_Name_kw (ld_blt I hg hm (by decide +kernel) (PyProof.Rows.callWith_builtin1 (id := "all") ?_ he (by rfl)))⟩
  rw [he]
  show wpAny _ _ (spliced (_ :: backTo pos (starEach [] X.env))) _ _ s
  refine Calls.spliced_cons (gen_range (R := fun ns n H1 => ∀ H2, GxR.Tabbed P H1 H2 → Q (.bl (ns.all (inR n))) H2) hr TB hcode S hi hy vy fy ly lr nr dx dy cy hs I h fun ns n H1 g s5 hR ⟨fp, wr, G, F, St', tr, W, hst, htr, hb, hI⟩ => Calls.spliced_nil ?_)
  refine call_all_walkS (W.self 0 _ _ _ hst ⟨g, fp, wr, G, _, F, St', _, rfl, W, hst, htr, fun s' hmv => ?_⟩)
  obtain ⟨H2, hT, J⟩ := hI s' hmv
  refine ⟨.bl _, H2, J, rfl, ?_⟩
  rw [all_tr _ tr hb, List.all_map]
  exact hR H2 hT
end
/-! ### a def of the text whose code object is known -/
structure FunT (K : PySem.W.Frag) (x qual : Str) (st : Stmt) (f : Addr) (fd : FuncData) (c : Addr) : Prop where
  ex : ∃ (oc : Value) (od : Option Addr) (kV doc pm : Value) (an : Option Addr) (ct : Value) (osl : Array (Option Value)),
    fd = PySem.W.fnOf x qual (defArgs st) (defBody st) (defScope st) .none kV doc pm an (.ref c) ct ∧ K.lookup f = some ⟨oc, od, .func fd, osl⟩ ∧ PySem.W.codeIn K (.ref c) qual = true
  kp : PySem.W.keepIn K (.ref f) = true
/-- x not in range(..) -/
theorem op_notIn_rng {X : Cx} : OpR X (compareOp .NotIn) (fun x y H Q => ∃ i a lo hi, x = V.int i ∧ y = V.ref a ∧ H a = some (.rng lo hi) ∧ Q (.bl (!decide (lo ≤ i ∧ i < hi))) H) := by
  intro pins s σ H x y v u Q I rx ry ⟨i, a, lo, hi, ex, ey, ha, q⟩
  subst ex ey
  obtain ⟨k, rfl⟩ := rx
  have e2 : u = Value.ref a := ry
  subst e2
  obtain ⟨t1, t2, t3, ho⟩ := I.hok a _ ha
  show wpAny _ _ (do return Value.bool (!(← contains (Value.ref a) (Value.int i k)))) _ _ s
  refine wpAny_bind (wpAny_contains_slot (T := "range") ⟨_, ho, rfl⟩ F.slot_range_contains (call_meets F.slot_range_contains ⟨_, ho, rfl⟩ F.entry_range_contains (F.args_range_contains_2 _ _) (q_contains a lo hi i t1 t2 t3 k) ⟨ho, wpAny_truthy_bool ?_⟩))
  refine wpAny_pure ⟨.bl _, H, I, rfl, ?_⟩
  rw [place1]
  exact q
section
variable {P : Program} {w : World} {K : PySem.W.Frag} {mg : Str → Option Value} {base : Heap}
/-! ### _is_move -/
theorem scIsMove : FnScope ["many", "move", "weight", "whither"] ["many", "move"] (defScope sIsMove) := ⟨rfl, rfl, rfl, by decide +kernel, rfl, by decide +kernel, by decide +kernel⟩
def isMv (many : Int) (m : Mv) : Bool := decide (1 ≤ m.1 ∧ m.1 < 100) && decide ((m.2.length : Int) = many) && m.2.all (inR many)
def spIsMove (T : Addr) : Sp := fun vs H Q _ => ∃ (many : Int) (v : V) (m : Mv), vs = [.int many, v] ∧ MoveAt H v m ∧ GxR.TabG H T ∧ ∀ H', Gr T H H' → GxR.TabG H' T → Q (.bl (isMv many m)) H'
/-- the program's names that a chain leans on -/
structure ChTxt (K : PySem.W.Frag) (mg : Str → Option Value) (fM cM tM : Addr) (fdM : FuncData) (C fI : Addr) (fdI : FuncData) : Prop where
  FM : FunT K "_is_move" "_is_move" sIsMove fM fdM cM
  bM : Binds K fdM ["many", "move"] []
  gM : mg "_is_move" = some (.ref fM)
  FI : Fun K "__init__" "Chain.__init__" (inClass cChain 0) fI fdI
  bI : Binds K fdI ["self", "many", "moves"] []
  mC : Mk K C fI
  cl : Cls K C
  nM : NoAttr K C "_many"
  nV : NoAttr K C "_moves"
  gC : mg "Chain" = some (.ref C)
  gP : ∃ t, mg "MOST_PLACES" = some (.int 6 t)
  gV : ∃ t, mg "MOST_MOVES" = some (.int 8 t)
  gW : ∃ t, mg "MOST_WEIGHT" = some (.int 99 t)
  ml : mg "len" = none
  mi : mg "isinstance" = none
  mt : mg "tuple" = none
  mr : mg "range" = none
  ma : mg "all" = none
  me : mg "enumerate" = none
  mL : mg "list" = none
section
variable {fM cM tM : Addr} {fdM : FuncData} {C fI : Addr} {fdI : FuncData}
theorem genS_move {L f : Addr} {cdv : Value} {scope : Scope} (hs : scope.names = [((".0" : Str), .local), (("place" : Str), .local), (("many" : Str), .free), (("range" : Str), .globalImplicit)]) (hk : scope.kind = .function) (hc : scope.isCoroutine = false) (ha : (envOfC "_is_move" (defScope sIsMove) L f cdv).cells.lookup ("many" : Str) ≠ none) :
    GxR.GenS (envOfC "_is_move" (defScope sIsMove) L f cdv) scope "place" := by
  refine ⟨hk, hc, ?_, ?_, ?_, ?_⟩
  · rw [hs]
    decide +kernel
  · rw [hs]
    decide +kernel
  · rw [hs]
    decide +kernel
  · intro y hy hf
    rw [hs] at hy
    have e : y.1 = ("many" : Str) := by
      rcases List.mem_cons.mp hy with e | hy
      · rw [e] at hf
        cases hf
      rcases List.mem_cons.mp hy with e | hy
      · rw [e] at hf
        cases hf
      rcases List.mem_cons.mp hy with e | hy
      · rw [e]
      rcases List.mem_cons.mp hy with e | hy
      · rw [e] at hf
        cases hf
      · cases hy
    rw [e]
    cases q : (envOfC "_is_move" (defScope sIsMove) L f cdv).cells.lookup ("many" : Str) with
    | none => exact absurd q ha
    | some c => exact ⟨c, rfl⟩
theorem ok_ismove (T : ChTxt K mg fM cM tM fdM C fI fdI) (TB : GxR.TabB base mg cM tM) : FnOk P w K mg base CX0 1 fM fdM ["many", "move"] (spIsMove tM) := by
  obtain ⟨oc, od, kV, doc, pm, an, ct, osl, efd, lk, hcd⟩ := T.FM.ex
  subst efd
  obtain ⟨tw, gW⟩ := T.gW
  refine fn_of (N := ["many", "move", "weight", "whither"]) lk hcd scIsMove (fun vs H Q E h => ?_) (fun A outer s H vs Q E hr h => ?_)
  · obtain ⟨many, v, m, rfl, _⟩ := h
    rfl
  · obtain ⟨many, v, m, rfl, ⟨a, b, rfl, ha, hb⟩, hTab, q⟩ := h
    refine ⟨_, pss_cons (ps_if (PW.pt (pw_or (pt_not (pt_val (pe_callB RZ.call_isTy (by rfl) T.mi (by decide +kernel) (pa_cons (pv 1) (pa_cons (pe_bltn (v := .ty "tuple") (by rfl) T.mt (by decide +kernel) rfl) pa_nil)))))
          (pw_or1 (pt_cmpR op_ne (pe_callB call_len_seq (by rfl) T.ml PySem.boot_len (pa_cons (pv 1) pa_nil)) pe_int (nomark _))))) (pss_one (ps_ret pe_bl)) pss_nil)
      (pss_cons (ps_asg (pv 1) (pg_tup rfl (pgs_cons (pg_name (i := 2) scIsMove.nd rfl (.inl rfl)) (pgs_cons (pg_name (i := 3) scIsMove.nd rfl (.inl rfl)) pgs_nil))))
      (pss_cons (ps_if (pt_cmpR op_notIn_rng (pv 2) (pe_callTy cr_range2 (by rfl) T.mr (by decide +kernel) (pa_cons pe_int (pa_cons (pe_op op_add (pe_glob (v := .int 99) (by rfl) gW ⟨_, rfl⟩) pe_int) pa_nil))) rfl) (pss_one (ps_ret pe_bl)) pss_nil)
      (pss_cons (ps_if (PW.pt (pw_or (pt_not (pt_val (pe_callB RZ.call_isTy (by rfl) T.mi (by decide +kernel) (pa_cons (pv 3) (pa_cons (pe_bltn (v := .ty "tuple") (by rfl) T.mt (by decide +kernel) rfl) pa_nil)))))
          (pw_or1 (pt_cmpR op_ne (pe_callB call_len_seq (by rfl) T.ml PySem.boot_len (pa_cons (pv 3) pa_nil)) (pv 0) (nomark _))))) (pss_one (ps_ret pe_bl)) pss_nil)
      (pss_one (ps_ret (pe_allR (k := 0) (x := "place") (y := "many") (i := 0) hr (by rfl) T.ma TB rfl (genS_move (by rfl) rfl rfl ?hcell) (pv 3) rfl rfl (by decide +kernel) (by decide +kernel) (by decide +kernel) T.mr (by decide) (by decide) (by decide) (fun _ => rfl) (by rfl))))))), ?_⟩
    case hcell =>
      intro z
      have q : ((envOfC "_is_move" (defScope sIsMove) s.heap.objs.size fM (.ref cM)).cells.lookup ("many" : Str)).isSome = true := PySem.W.cellsFrom_some _ _ _ (.inl (by decide +kernel))
      rw [z] at q
      cases q
    have neT : ∀ {p : Addr}, H p = none → p ≠ tM := fun np z => by
      obtain ⟨ps, e, _⟩ := hTab
      rw [z, e] at np
      cases np
    refine ⟨.ref a, rfl, .ref a, "tuple", rfl, .tup ha, true, rfl, ?_⟩
    refine ⟨.ref a, rfl, a, _, rfl, .inr (SqT.of ha), rfl, _, rfl, iteNS rfl ?_⟩
    refine ⟨.ref a, rfl, a, _, rfl, SqT.of ha, rfl, .int m.1, [.ref b], rfl, .ref b, [], rfl, rfl, ?_⟩
    refine ⟨.int m.1, rfl, 99, 1, rfl, rfl, 1, 100, rfl, fun r nr => ⟨m.1, r, 1, 100, rfl, rfl, upd_same, _, rfl, ?_⟩⟩
    have g1 : Same H (upd H r (.rng 1 100)) := same_new nr
    have tab1 : GxR.TabG (upd H r (.rng 1 100)) tM := by
      obtain ⟨ps, e, t⟩ := hTab
      exact ⟨ps, g1 _ _ e, t⟩
    have hb1 := g1 _ _ hb
    by_cases h1 : 1 ≤ m.1 ∧ m.1 < 100
    · refine iteNS h1 ?_
      refine ⟨.ref b, rfl, .ref b, "tuple", rfl, .tup hb1, true, rfl, ?_⟩
      refine ⟨.ref b, rfl, b, _, rfl, .inr (SqT.of hb1), .int many, rfl, rfl, _, rfl, ?_⟩
      by_cases h2 : (((m.2.map V.int).length : Nat) : Int) = many
      · refine iteNS (congrArg V.int h2) ?_
        refine ⟨.ref b, rfl, b, m.2, many, rfl, SqT.of hb1, tab1, rfl, fun H2 ⟨t2, k2⟩ => ?_⟩
        have e : isMv many m = m.2.all (inR many) := by
          unfold isMv
          rw [List.length_map] at h2
          rw [decide_eq_true h1, decide_eq_true h2, Bool.true_and, Bool.true_and]
        have q2 := q H2 (fun x o nx ex => by rw [k2 x nx]; exact g1 _ _ ex) t2
        rw [e] at q2
        exact q2
      · have e : isMv many m = false := by
          unfold isMv
          rw [List.length_map] at h2
          rw [decide_eq_false h2, Bool.and_false, Bool.false_and]
        have q2 := q _ (Gr.of_same g1) tab1
        rw [e] at q2
        have h3 : ¬ V.int (((m.2.map V.int).length : Nat) : Int) = V.int many := fun z => h2 (V.int.inj z)
        show if (!decide (V.int (((m.2.map V.int).length : Nat) : Int) = V.int many)) = true then _ else _
        rw [decide_eq_false h3]
        exact q2
    · have e : isMv many m = false := by
        unfold isMv
        rw [decide_eq_false h1, Bool.false_and, Bool.false_and]
      have q2 := q _ (Gr.of_same g1) tab1
      rw [e] at q2
      rw [decide_eq_false h1]
      exact q2
end
end
def rLenSq (K : PySem.W.Frag) : List V → Hp → VK → Prop := fun xs H Q => ∃ p ys, xs = [V.ref p] ∧ (SqL K H p ys ∨ SqT K H p ys) ∧ Q (.int ((ys.length : Nat) : Int)) H
section
variable {P : Program} {w : World} {K : PySem.W.Frag} {mg : Str → Option Value} {base : Heap}
variable {fM cM tM : Addr} {fdM : FuncData} {C fI : Addr} {fdI : FuncData}
/-! ### class Chain -/
theorem scInit : FnScope ["self", "many", "moves", "number", "move"] ["self", "many", "moves"] (defScope (inClass cChain 0)) := ⟨rfl, rfl, rfl, by decide +kernel, rfl, by decide +kernel, by decide +kernel⟩
def chF (many : Int) (a : Addr) : List (Str × V) := putF "_moves" (.ref a) (putF "_many" (.int many) [])
theorem ne_mm : ¬ (("_many" : Str) = "_moves") := by decide +kernel
theorem chF_many (many : Int) (a : Addr) : (chF many a).lookup ("_many" : Str) = some (.int many) := by
  unfold chF
  rw [lookup_putF, if_neg ne_mm, lookup_putF, if_pos rfl]
theorem chF_moves (many : Int) (a : Addr) : (chF many a).lookup ("_moves" : Str) = some (.ref a) := by
  unfold chF
  rw [lookup_putF, if_pos rfl]
theorem chF_no (many : Int) (a : Addr) {m : Str} (h1 : ¬ m = "_many") (h2 : ¬ m = "_moves") : (chF many a).lookup m = none := by
  unfold chF
  rw [lookup_putF, if_neg h2, lookup_putF, if_neg h1]
  all_goals rfl
def ChainAt (C : Addr) (H : Hp) (x : Addr) (many : Nat) (ms : List Mv) : Prop := ∃ dx a ws, H x = some (.ins C dx (chF (many : Int) a)) ∧ H a = some (.lst ws) ∧ MovesAt H ws ms
theorem ChainAt.same {C : Addr} {H H' : Hp} {x : Addr} {many : Nat} {ms : List Mv} (s : Same H H') (h : ChainAt C H x many ms) : ChainAt C H' x many ms := by
  obtain ⟨dx, a, ws, h1, h2, h3⟩ := h
  exact ⟨dx, a, ws, s _ _ h1, s _ _ h2, h3.same (Same.tups s)⟩
theorem moves_no_dl {H : Hp} {ws : List V} {ms : List Mv} (h : MovesAt H ws ms) (s0 : Int) (l : Addr) (k big : Int) : HO.lst ws ≠ .lst (dl s0 l k big) := by
  intro z
  injection z with z
  subst z
  cases h with
  | cons a _ =>
    obtain ⟨_, _, e, _⟩ := a
    cases e
theorem ChainAt.gr {C d l : Addr} {ns : List Int} {H H' : Hp} {x : Addr} {many : Nat} {ms : List Mv} (hd : Dc K l ns H d) (s : Gr d H H') (h : ChainAt C H x many ms) : ChainAt C H' x many ms := by
  obtain ⟨dx, a, ws, h1, h2, h3⟩ := h
  exact ⟨dx, a, ws, s _ _ (hd.ne_of h1 fun _ _ _ _ z => nomatch z) h1, s _ _ (hd.ne_of h2 (moves_no_dl h3)) h2, h3.same (s.tups hd)⟩
/-- all that is tracked, but at x and t, is as it was -/
def Gr2 (x t : Addr) (H H' : Hp) : Prop := ∀ b o, b ≠ x → b ≠ t → H b = some o → H' b = some o
/-- a chain that has just been made: its list of moves is its own -/
def ChainNew (C : Addr) (H H' : Hp) (x : Addr) (many : Nat) (ms : List Mv) : Prop := ∃ dx a ws, H' x = some (.ins C dx (chF (many : Int) a)) ∧ H' a = some (.lst ws) ∧ MovesAt H' ws ms ∧ H a = none
theorem ChainNew.at {C : Addr} {H H' : Hp} {x : Addr} {many : Nat} {ms : List Mv} (h : ChainNew C H H' x many ms) : ChainAt C H' x many ms := by
  obtain ⟨dx, a, ws, h1, h2, h3, _⟩ := h
  exact ⟨dx, a, ws, h1, h2, h3⟩
def spInitG (C T : Addr) : Sp := fun vs H Q _ => ∃ (x dx l : Addr) (many : Nat) (ws : List V) (ms : List Mv), vs = [.ref x, .int (many : Int), .ref l] ∧ H x = some (.ins C dx []) ∧ H l = some (.lst ws) ∧ MovesAt H ws ms ∧ Good many ms ∧ GxR.TabG H T ∧
  ∀ H', ChainNew C H H' x many ms → Gr2 x T H H' → GxR.TabG H' T → Q .non H'
theorem isMv_good {many : Nat} {m : Mv} (h : GoodMv many m) : isMv (many : Int) m = true := by
  obtain ⟨h1, h2, h3, h4⟩ := h
  unfold isMv
  rw [decide_eq_true (show 1 ≤ m.1 ∧ m.1 < 100 from ⟨h1, by omega⟩), decide_eq_true (show (m.2.length : Int) = (many : Int) by rw [h3]), Bool.true_and, Bool.true_and, List.all_eq_true]
  intro x hx
  unfold inR
  exact decide_eq_true (h4 x hx)
theorem ok_initG (T : ChTxt K mg fM cM tM fdM C fI fdI) (TB : GxR.TabB base mg cM tM) : FnOk P w K mg base CX0 2 fI fdI ["self", "many", "moves"] (spInitG C tM) := by
  have GM : FnOk P w K mg base CX0 1 fM fdM ["many", "move"] (spIsMove tM) := ok_ismove T TB
  obtain ⟨tp, gP⟩ := T.gP
  obtain ⟨tv, gV⟩ := T.gV
  refine T.FI.ok scInit (fun vs H Q E h => ?_) (fun cdv A outer s H vs Q E hr h => ?_)
  · obtain ⟨x, dx, l, many, ws, ms, rfl, _⟩ := h
    rfl
  · obtain ⟨x, dx, l, many, ws, ms, rfl, hx, hl, hM, G, hTab, q⟩ := h
    have lenW := hM.length
    refine ⟨_, pss_cons (ps_if (pt_not (pt_chain op_le op_le pe_int (pv 1) (pe_glob (v := .int 6) (by rfl) gP ⟨_, rfl⟩))) pss_never pss_nil)
      (pss_cons (ps_if (pt_not (pt_chain op_le op_le pe_int (pe_callB call_len_seq (by rfl) T.ml PySem.boot_len (pa_cons (pv 2) pa_nil)) (pe_glob (v := .int 8) (by rfl) gV ⟨_, rfl⟩))) pss_never pss_nil)
      (pss_cons (ps_for PassesOwn.never rfl (pi_enum (by rfl) T.me (pa_cons (pv 2) pa_nil)) (pg_tup rfl (pgs_cons (pg_name (i := 3) scInit.nd rfl (.inl rfl)) (pgs_cons (pg_name (i := 4) scInit.nd rfl (.inl rfl)) pgs_nil)))
          (pss_one (ps_if (pt_not (pt_val (pe_call GM hr (by rfl) T.gM T.FM.kp T.bM .nil pass0 (pa_cons (pv 1) (pa_cons (pv 4) pa_nil))))) pss_never pss_nil)))
      (pss_cons (ps_fld (pv 0) (pv 1) rfl)
      (pss_one (ps_fld (pv 0) (pe_callTy call_list_of (by rfl) T.mL (by decide +kernel) (pa_cons (pv 2) pa_nil)) rfl))))), ?_⟩
    have G1 := G.m1
    have G2 := G.m6
    have G3 := G.l1
    have G4 := G.l8
    refine ⟨.int (many : Int), rfl, 1, (many : Int), rfl, rfl, _, rfl, ifD (by omega) ⟨_, _, rfl, rfl, _, rfl, iteNS (by omega) ?_⟩⟩
    have hS : SqL K H l ws := SqL.of hl
    refine ⟨.ref l, rfl, l, ws, rfl, .inl hS, 1, _, rfl, rfl, _, rfl, ifD (by omega) ⟨_, _, rfl, rfl, _, rfl, iteNS (by omega) ?_⟩⟩
    -- for number, move in enumerate(moves)
    have nxT : x ≠ tM := fun z => by
      obtain ⟨ps, e, _⟩ := hTab
      rw [z, e] at hx
      cases hx
    have nlT : l ≠ tM := fun z => by
      obtain ⟨ps, e, _⟩ := hTab
      rw [z, e] at hl
      cases hl
    have nxl : x ≠ l := ne_of hx hl (fun z => nomatch z)
    have tupK : ∀ {H'}, Gr tM H H' → ∀ b xs, H b = some (.tup xs) → H' b = some (.tup xs) := fun {H'} g b xs e => g b _ (fun z => by
      obtain ⟨ps, e2, _⟩ := hTab
      rw [z, e2] at e
      cases e) e
    refine ⟨.ref l, rfl, l, ws, rfl, hS, for_it (walk_enum (K := K) (a := l) (xs := ws)) (fun i σ H' => ∃ y3 y4, σ = [some (.ref x), some (.int (many : Int)), some (.ref l), y3, y4] ∧ Gr tM H H' ∧ GxR.TabG H' tM)
      ⟨none, none, rfl, Gr.refl _ _, hTab⟩ (fun i σ H' hi ⟨y3, y4, e, g, t⟩ => SqL.of (g l _ nlT hl)) ?_ ?_⟩
    · rintro i z σ H1 H2 hi ⟨y3, y4, rfl, g1, t1⟩ ⟨Tp, u, v, rfl, nT, rfl, eu, ev⟩
      have g2 : Gr tM H (upd H1 Tp (.tup [u, v])) := g1.new nT
      have t2 : GxR.TabG (upd H1 Tp (.tup [u, v])) tM := by
        obtain ⟨ps, e, t⟩ := t1
        exact ⟨ps, (same_new nT) _ _ e, t⟩
      refine ⟨Tp, [u, v], rfl, SqT.of upd_same, rfl, u, [v], rfl, v, [], rfl, rfl, ?_⟩
      obtain ⟨m, em, hm⟩ := hM.get' ev
      have hgood := G.mv m (List.mem_of_getElem? em)
      have hm2 : MoveAt (upd H1 Tp (.tup [u, v])) v m := hm.same (tupK g2)
      refine ⟨.int (many : Int), rfl, v, rfl, (many : Int), v, m, rfl, hm2, t2, fun H3 g3 t3 => ?_⟩
      rw [isMv_good hgood]
      refine ⟨true, rfl, ?_⟩
      exact ⟨some u, some v, rfl, g2.trans g3, t3⟩
    · rintro σ H1 ⟨y3, y4, rfl, g1, t1⟩
      have hx1 := g1 x _ nxT hx
      have hl1 := g1 l _ nlT hl
      refine ⟨.int (many : Int), rfl, .ref x, rfl, x, C, dx, [], rfl, hx1, T.cl, T.nM, (by show 0 < 1000; decide), ?_⟩
      have hx2 : (upd H1 x (.ins C dx (putF "_many" (.int (many : Int)) []))) x = some (.ins C dx (putF "_many" (.int (many : Int)) [])) := upd_same
      have hl2 : (upd H1 x (.ins C dx (putF "_many" (.int (many : Int)) []))) l = some (.lst ws) := by
        rw [upd_ne (Ne.symm nxl)]
        exact hl1
      refine ⟨.ref l, rfl, l, ws, rfl, .inl (SqL.of hl2), fun a na => ?_⟩
      have nxa : x ≠ a := ne_of_none hx2 na
      refine ⟨.ref x, rfl, x, C, dx, _, rfl, (by rw [upd_ne nxa]; exact hx2), T.cl, T.nV, (by show 1 < 1000; decide), ?_⟩
      have naH1 : H1 a = none := by
        rw [upd_ne (Ne.symm nxa)] at na
        exact na
      have keepT : ∀ b o, b ≠ x → H1 b = some o → (upd (upd (upd H1 x (.ins C dx (putF "_many" (.int (many : Int)) []))) a (.lst ws)) x (.ins C dx (chF (many : Int) a))) b = some o := fun b o nb e => by
        rw [upd_ne nb, upd_ne (ne_of_none e naH1), upd_ne nb]
        exact e
      have ntx : ∀ xs, H1 x ≠ some (.tup xs) := fun xs z => by
        rw [hx1] at z
        cases z
      have naH : H a = none := by
        cases h : H a with
        | none => rfl
        | some o =>
          have nat : a ≠ tM := fun z => by
            obtain ⟨ps, e, _⟩ := t1
            rw [z, e] at naH1
            cases naH1
          rw [g1 a o nat h] at naH1
          cases naH1
      refine q _ ⟨dx, a, ws, upd_same, ?_, hM.same (fun b xs e => ?_), naH⟩ (fun b o nb nt e => keepT b o nb (g1 b o nt e)) ?_
      · rw [upd_ne (Ne.symm nxa)]
        exact upd_same
      · have e1 := tupK g1 b xs e
        refine keepT b _ (fun z => ?_) e1
        rw [z] at e1
        exact ntx xs e1
      · obtain ⟨ps, e, t⟩ := t1
        exact ⟨ps, keepT _ _ (Ne.symm nxT) e, t⟩
/-! ### places, told -/
theorem scPlaces : FnScope ["self"] ["self"] (defScope (inClass cChain 1)) := ⟨rfl, rfl, rfl, by decide +kernel, rfl, by decide +kernel, by decide +kernel⟩
theorem scTold : FnScope ["self"] ["self"] (defScope (inClass cChain 2)) := ⟨rfl, rfl, rfl, by decide +kernel, rfl, by decide +kernel, by decide +kernel⟩
def spPlaces (C : Addr) : Sp := fun vs H Q _ => ∃ (x : Addr) (many : Nat) (ms : List Mv), vs = [.ref x] ∧ ChainAt C H x many ms ∧ Q (.int (many : Int)) H
def spTold (C : Addr) : Sp := fun vs H Q _ => ∃ (x : Addr) (many : Nat) (ms : List Mv), vs = [.ref x] ∧ ChainAt C H x many ms ∧ ∀ (l : Addr) (ws : List V), H l = none → MovesAt (upd H l (.lst ws)) ws ms → Q (.ref l) (upd H l (.lst ws))
theorem ok_places {f : Addr} {fd : FuncData} {k : Nat} (F : Fun K "places" "Chain.places" (inClass cChain 1) f fd) (cl : Cls K C) (nM : NoAttr K C "_many") : FnOk P w K mg base CX0 (k + 1) f fd ["self"] (spPlaces C) := by
  refine F.ok scPlaces (fun vs H Q E h => ?_) (fun cdv A outer s H vs Q E hr h => ?_)
  · obtain ⟨x, many, ms, rfl, _⟩ := h
    rfl
  · obtain ⟨x, many, ms, rfl, ⟨dx, a, ws, h1, h2, h3⟩, q⟩ := h
    exact ⟨_, pss_one (ps_ret (pe_fld (pv 0) rfl)), .ref x, rfl, x, C, dx, _, _, rfl, h1, cl, nM, chF_many _ _, q⟩
theorem ok_told {f : Addr} {fd : FuncData} {k : Nat} (F : Fun K "told" "Chain.told" (inClass cChain 2) f fd) (cl : Cls K C) (nV : NoAttr K C "_moves") (mL : mg "list" = none) : FnOk P w K mg base CX0 (k + 1) f fd ["self"] (spTold C) := by
  refine F.ok scTold (fun vs H Q E h => ?_) (fun cdv A outer s H vs Q E hr h => ?_)
  · obtain ⟨x, many, ms, rfl, _⟩ := h
    rfl
  · obtain ⟨x, many, ms, rfl, ⟨dx, a, ws, h1, h2, h3⟩, q⟩ := h
    exact ⟨_, pss_one (ps_ret (pe_callTy call_list_of (by rfl) mL (by decide +kernel) (pa_cons (pe_fld (pv 0) rfl) pa_nil))), .ref x, rfl, x, C, dx, _, _, rfl, h1, cl, nV, chF_moves _ _, a, ws, rfl, .inl (SqL.of h2), fun l nl => q l ws nl (h3.same (Same.tups (same_new nl)))⟩
end
/-- a def of the module, named -/
structure Df (K : PySem.W.Frag) (mg : Str → Option Value) (x : Str) (st : Stmt) (ps : List Str) (f : Addr) (fd : FuncData) : Prop where
  F : Fun K x x st f fd
  b : Binds K fd ps []
  g : mg x = some (.ref f)
def spLaw (K : PySem.W.Frag) (T : Addr) : Sp := fun vs H Q _ => ∃ (a : Addr) (ns : List Int), vs = [.ref a] ∧ SqL K H a (ns.map V.int) ∧ ns.length ≤ 63 ∧ GxR.TabG H T ∧ ∀ H', Q (.bl true) H'
theorem Same.put {H H1 : Hp} {p : Addr} {o : HO} (s : Same H H1) (n : H p = none) : Same H (upd H1 p o) := fun b u e => by
  rw [upd_ne (ne_of_none e n)]
  exact s b u e
theorem ToldAt.same {H H' : Hp} {t m : Addr} {many : Nat} {ws : List V} {ms : List Mv} (s : Same H H') (h : ToldAt H t m many ws ms) : ToldAt H' t m many ws ms := ⟨s _ _ h.1, s _ _ h.2.1, h.2.2.same (Same.tups s)⟩
theorem ToldAt.gr {K : PySem.W.Frag} {d l : Addr} {ns : List Int} {H H' : Hp} {t m : Addr} {many : Nat} {ws : List V} {ms : List Mv} (hd : Dc K l ns H d) (g : Gr d H H') (h : ToldAt H t m many ws ms) : ToldAt H' t m many ws ms :=
  ⟨g.tups hd _ _ h.1, g _ _ (hd.ne_of h.2.1 (moves_no_dl h.2.2)) h.2.1, h.2.2.same (g.tups hd)⟩
/-- a table stands while the dice turns -/
theorem tab_gr {K : PySem.W.Frag} {d l : Addr} {ns : List Int} {H H' : Hp} {T : Addr} (hd : Dc K l ns H d) (g : Gr d H H') (h : GxR.TabG H T) : GxR.TabG H' T := by
  obtain ⟨ps, e, t⟩ := h
  exact ⟨ps, g _ _ (hd.ne_of e fun _ _ _ _ z => nomatch z) e, t⟩
theorem tab_same {H H' : Hp} {T : Addr} (s : Same H H') (h : GxR.TabG H T) : GxR.TabG H' T := by
  obtain ⟨ps, e, t⟩ := h
  exact ⟨ps, s _ _ e, t⟩
/-- what is no table stands while the table grows -/
theorem Gr.tab {T p : Addr} {H H' : Hp} {o : HO} (hT : GxR.TabG H T) (g : Gr T H H') (n : ∀ qs, o ≠ .tbl qs) (h : H p = some o) : H' p = some o := g p o (fun z => by
  obtain ⟨ps, e, _⟩ := hT
  rw [z, e] at h
  exact n ps (Option.some.inj h).symm) h
theorem ToldAt.tab {T t m : Addr} {H H' : Hp} {many : Nat} {ws : List V} {ms : List Mv} (hT : GxR.TabG H T) (g : Gr T H H') (h : ToldAt H t m many ws ms) : ToldAt H' t m many ws ms :=
  ⟨g.tab hT (fun _ z => nomatch z) h.1, g.tab hT (fun _ z => nomatch z) h.2.1, h.2.2.same fun _ _ e => g.tab hT (fun _ z => nomatch z) e⟩
theorem Dc.tabT {K : PySem.W.Frag} {T d l : Addr} {ns : List Int} {H H' : Hp} (hT : GxR.TabG H T) (g : Gr T H H') (h : Dc K l ns H d) : Dc K l ns H' d := by
  obtain ⟨s0, k, big, h1, h2, h3⟩ := h
  refine ⟨s0, k, big, g.tab hT (fun _ z => nomatch z) h1, ?_, h3⟩
  rcases h2 with (h | ⟨o, h⟩) | h
  · exact .inl (.inl (g.tab hT (fun _ z => nomatch z) h))
  · exact .inl (.inr ⟨o, g.tab hT (fun _ z => nomatch z) h⟩)
  · exact .inr h
theorem Gr.put {d : Addr} {H H1 : Hp} {p : Addr} {o : HO} (a : Gr d H H1) (h : H p = none) : Gr d H (upd H1 p o) := fun b u n e => by
  rw [upd_ne (ne_of_none e h)]
  exact a b u n e
theorem Gr.free {d : Addr} {H H1 : Hp} {p : Addr} (a : Gr d H H1) (n : H1 p = none) (h : p ≠ d) : H p = none := by
  cases e : H p with
  | none => rfl
  | some o =>
    rw [a p o h e] at n
    cases n
theorem paired_drop {α β : Type} {F : α → β → Prop} : ∀ {l₁ : List α} {l₂ : List β} (n : Nat), Paired F l₁ l₂ → Paired F (l₁.drop n) (l₂.drop n)
  | _, _, 0, h => h
  | _, _, _ + 1, .nil => .nil
  | _, _, n + 1, .cons _ t => paired_drop n t
theorem paired_take {α β : Type} {F : α → β → Prop} : ∀ {l₁ : List α} {l₂ : List β} (n : Nat), Paired F l₁ l₂ → Paired F (l₁.take n) (l₂.take n)
  | _, _, 0, _ => .nil
  | _, _, _ + 1, .nil => .nil
  | _, _, n + 1, .cons h t => .cons h (paired_take n t)
theorem paired_app {α β : Type} {F : α → β → Prop} : ∀ {l₁ : List α} {l₂ : List β} {k₁ : List α} {k₂ : List β}, Paired F l₁ l₂ → Paired F k₁ k₂ → Paired F (l₁ ++ k₁) (l₂ ++ k₂)
  | _, _, _, _, .nil, h => h
  | _, _, _, _, .cons q t, h => .cons q (paired_app t h)
theorem paired_rep {α β : Type} {F : α → β → Prop} {a : α} {b : β} (h : F a b) : ∀ n, Paired F (List.replicate n a) (List.replicate n b)
  | 0 => .nil
  | n + 1 => .cons h (paired_rep h n)
theorem filter_snoc {l : List Int} {i : Nat} {x : Int} {F : Int → Bool} (h : l[i]? = some x) : (l.take (i + 1)).filter F = (l.take i).filter F ++ (if F x = true then [x] else []) := by
  rw [List.take_add_one, h, List.filter_append]
  cases hk : F x with
  | true => simp [hk]
  | false => simp [hk]
theorem paired_get {α β : Type} {F : α → β → Prop} : ∀ {l₁ : List α} {l₂ : List β} {i : Nat} {b : β}, Paired F l₁ l₂ → l₂[i]? = some b → ∃ a, l₁[i]? = some a ∧ F a b
  | _, _, _, _, .nil, e => by simp at e
  | _, _, 0, _, .cons h _, e => by
    simp at e
    subst e
    exact ⟨_, rfl, h⟩
  | _, _, i + 1, b, .cons _ t, e => by
    obtain ⟨a, h1, h2⟩ := paired_get (i := i) (b := b) t (by simpa using e)
    exact ⟨a, by simpa using h1, h2⟩
theorem paired_end {α β : Type} {F : α → β → Prop} {a : α} {b : β} (h : F a b) : ∀ {l₁ : List α} {l₂ : List β}, Paired F l₁ l₂ → Paired F (l₁ ++ [a]) (l₂ ++ [b])
  | _, _, .nil => .cons h .nil
  | _, _, .cons q t => .cons q (paired_end h t)
theorem take_snoc {α : Type} {l : List α} {i : Nat} {x : α} (h : l[i]? = some x) : l.take (i + 1) = l.take i ++ [x] := by
  rw [List.take_add_one, h]
  rfl
theorem small1k {n : Nat} (h : n ≤ 1001) : n < sizeLine := Nat.lt_of_le_of_lt h (by decide)
section
variable {P : Program} {w : World} {K : PySem.W.Frag} {mg : Str → Option Value} {base : Heap} {C : Addr}
/-- range(n) as a value -/
theorem cr_range1 {X : Cx} : CallR X (.type "range") (fun vs H Q => ∃ n, vs = [V.int n] ∧ ∀ p, H p = none → Q (.ref p) (upd H p (.rng 0 n))) := by
  intro pins s σ H vs us Q I r ⟨n, ev, q⟩
  subst ev
  cases r with
  | cons rn rr =>
    cases rr
    obtain ⟨t, rfl⟩ := rn
    refine call_range_1 ⟨.ref s.heap.objs.size, upd H s.heap.objs.size (.rng 0 n), I.laid (t' := s.toks + 1 + 1) (fun b o e => Heap.get?_push_of_some _ e) (Nat.le_refl _) ?_, rfl, q _ (I.hok.fresh (Nat.le_refl _))⟩
    exact ⟨s.toks, t, s.toks + 1, Heap.get?_push_size _ rfl⟩
/-! ### steps_of -/
structure ChM (K : PySem.W.Frag) (C fP fT : Addr) (fdP fdT : FuncData) : Prop where
  FP : Fun K "places" "Chain.places" (inClass cChain 1) fP fdP
  bP : Binds K fdP ["self"] []
  hP : Meth K C "places" fP
  FT : Fun K "told" "Chain.told" (inClass cChain 2) fT fdT
  bT : Binds K fdT ["self"] []
  hT : Meth K C "told" fT
  cl : Cls K C
  nM : NoAttr K C "_many"
  nV : NoAttr K C "_moves"
theorem ch_no {many : Int} {a : Addr} : (chF many a).lookup ("places" : Str) = none := chF_no _ _ (by decide +kernel) (by decide +kernel)
theorem ch_noT {many : Int} {a : Addr} : (chF many a).lookup ("told" : Str) = none := chF_no _ _ (by decide +kernel) (by decide +kernel)
theorem rg_ends (n : Nat) : rgV 0 (n : Int) = ((List.range n).map fun (i : Nat) => (i : Int)).map V.int := by
  unfold rgV
  rw [List.map_map]
  have e : ((n : Int) - 0).toNat = n := by omega
  rw [e]
  refine List.map_congr_left fun i _ => ?_
  show V.int (0 + (i : Int)) = V.int (i : Int)
  rw [Int.zero_add]
end
/-! ### data that are compared -/
def Sh (n : Nat) (d : PyData) : Prop := d.canLay0 = true ∧ d.depth ≤ n
theorem canAll : ∀ {ds : List PyData}, (∀ d ∈ ds, d.canLay0 = true) → PyData.canLayAll0 ds = true
  | [], _ => rfl
  | d :: ds, h => by
    show (d.canLay0 && PyData.canLayAll0 ds) = true
    rw [h d List.mem_cons_self, canAll fun z hz => h z (List.mem_cons_of_mem _ hz)]
    rfl
theorem depAll {n : Nat} : ∀ {ds : List PyData}, (∀ d ∈ ds, d.depth ≤ n) → PyData.depthAll ds ≤ n
  | [], _ => Nat.zero_le _
  | d :: ds, h => by
    show max d.depth (PyData.depthAll ds) ≤ n
    exact Nat.max_le.mpr ⟨h d List.mem_cons_self, depAll fun z hz => h z (List.mem_cons_of_mem _ hz)⟩
theorem Sh.int {n : Nat} (i : Int) : Sh n (.int i) := ⟨rfl, Nat.zero_le _⟩
theorem Sh.bool {n : Nat} (b : Bool) : Sh n (.bool b) := ⟨rfl, Nat.zero_le _⟩
theorem Sh.none {n : Nat} : Sh n .none := ⟨rfl, Nat.zero_le _⟩
theorem Sh.tuple {n : Nat} {ds : List PyData} (h : ∀ d ∈ ds, Sh n d) : Sh (n + 1) (.tuple ds) := ⟨canAll fun d hd => (h d hd).1, Nat.succ_le_succ (depAll fun d hd => (h d hd).2)⟩
theorem Sh.list {n : Nat} {ds : List PyData} (h : ∀ d ∈ ds, Sh n d) : Sh (n + 1) (.list ds) := ⟨canAll fun d hd => (h d hd).1, Nat.succ_le_succ (depAll fun d hd => (h d hd).2)⟩
theorem Sh.mono {n m : Nat} {d : PyData} (h : Sh n d) (le : n ≤ m) : Sh m d := ⟨h.1, Nat.le_trans h.2 le⟩
theorem Sh.shaped {n : Nat} {d : PyData} (h : Sh n d) (le : n ≤ 64) : SeqAt.shaped d = true := by
  unfold SeqAt.shaped
  rw [h.1, decide_eq_true (Nat.le_trans h.2 le)]
  rfl
theorem Sh.refl {n : Nat} {d : PyData} (h : Sh n d) : PyData.eqv d d = true := SeqAt.eqv_refl d h.1
theorem Sh.ints {n : Nat} (ns : List Int) : ∀ d ∈ ns.map PyData.int, Sh n d := fun d hd => by
  obtain ⟨i, _, rfl⟩ := List.mem_map.mp hd
  exact .int i
def mvD (m : Mv) : PyData := .tuple [.int m.1, .tuple (m.2.map PyData.int)]
theorem Sh.mv (m : Mv) : Sh 2 (mvD m) := Sh.tuple fun d hd => by
  rcases List.mem_cons.mp hd with rfl | hd
  · exact .int _
  rcases List.mem_cons.mp hd with rfl | hd
  · exact Sh.tuple (Sh.ints _)
  · cases hd
theorem Sh.mvs (ms : List Mv) : Sh 3 (.list (ms.map mvD)) := Sh.list fun d hd => by
  obtain ⟨m, _, rfl⟩ := List.mem_map.mp hd
  exact .mv m
theorem dp_ints (K : PySem.W.Frag) (H : Hp) : ∀ ns : List Int, DpAll K H (ns.map V.int) (ns.map PyData.int)
  | [] => .nil
  | n :: ns => .cons (.int n) (dp_ints K H ns)
theorem dp_lst {K : PySem.W.Frag} {H : Hp} {a : Addr} {ns : List Int} (h : H a = some (.lst (ns.map V.int))) : Dp K H (.ref a) (.list (ns.map PyData.int)) := .lst (SqL.of h) (dp_ints K H ns)
theorem dp_tup {K : PySem.W.Frag} {H : Hp} {a : Addr} {ns : List Int} (h : H a = some (.tup (ns.map V.int))) : Dp K H (.ref a) (.tuple (ns.map PyData.int)) := .tup (SqT.of h) (dp_ints K H ns)
theorem dp_mv {K : PySem.W.Frag} {H : Hp} {v : V} {m : Mv} (h : MoveAt H v m) : Dp K H v (mvD m) := by
  obtain ⟨a, q, rfl, ha, hq⟩ := h
  exact .tup (SqT.of ha) (.cons (.int _) (.cons (dp_tup hq) .nil))
theorem dp_mvAll {K : PySem.W.Frag} {H : Hp} : ∀ {ws : List V} {ms : List Mv}, MovesAt H ws ms → DpAll K H ws (ms.map mvD)
  | _, _, .nil => .nil
  | _, _, .cons h t => .cons (dp_mv h) (dp_mvAll t)
theorem dp_mvs {K : PySem.W.Frag} {H : Hp} {a : Addr} {ws : List V} {ms : List Mv} (h : H a = some (.lst ws)) (hM : MovesAt H ws ms) : Dp K H (.ref a) (.list (ms.map mvD)) := .lst (SqL.of h) (dp_mvAll hM)
theorem hu64 {A : Around} {k : Nat} (hr : Room k A) : A.units + 64 < cLine := by
  have := hr.un
  omega
/-- d != d is False, d == d is True -/
theorem ne_same {K : PySem.W.Frag} {x y : V} {d : PyData} {n : Nat} {H : Hp} {Q : VK} (hx : Dp K H x d) (hy : Dp K H y d) (h : Sh n d) (le : n ≤ 64) (q : Q (.bl false) H) : rNeD K x y H Q := by
  refine ⟨d, d, hx, hy, h.shaped le, h.shaped le, ?_⟩
  rw [h.refl]
  exact q
theorem eq_same {K : PySem.W.Frag} {x y : V} {d : PyData} {n : Nat} {H : Hp} {Q : VK} (hx : Dp K H x d) (hy : Dp K H y d) (h : Sh n d) (le : n ≤ 64) (q : Q (.bl true) H) : rEqD K x y H Q := by
  refine ⟨d, d, hx, hy, h.shaped le, h.shaped le, ?_⟩
  rw [h.refl]
  exact q
theorem Same.seqt {K : PySem.W.Frag} {H H' : Hp} {a : Addr} {xs : List V} (s : Same H H') (h : SqT K H a xs) : SqT K H' a xs := by
  rcases h with (h | ⟨o, h⟩) | h
  · exact .inl (.inl (s _ _ h))
  · exact .inl (.inr ⟨o, s _ _ h⟩)
  · exact .inr h
/-! ### t + u, t[i:j] of tracked tuples, whatever they are -/
theorem catA_of {K : PySem.W.Frag} {H : Hp} {a b : Addr} {xs ys : List V} {Q : VK} (ha : H a = some (.tup xs)) (hb : H b = some (.tup ys)) (hz : xs.length + ys.length ≤ sizeLine) (h : ∀ p H', Same H H' → H' p = some (.tup (xs ++ ys)) → Q (.ref p) H') : rCatA K (.ref a) (.ref b) H Q := by
  refine ⟨a, b, xs, ys, rfl, rfl, SqT.of ha, SqT.of hb, hz, fun e => ?_, fun _ e => ?_, fun _ _ p np => h p _ (same_new np) upd_same⟩
  · subst e
    exact h b H (Same.refl _) hb
  · subst e
    exact h a H (Same.refl _) (by rw [List.append_nil]; exact ha)
theorem slA_of {K : PySem.W.Frag} {H : Hp} {a : Addr} {xs : List V} {lo hi : Option Int} {Q : VK} (ha : H a = some (.tup xs)) (h : ∀ p H', Same H H' → H' p = some (.tup (cutV xs lo hi)) → Q (.ref p) H') : rSlA K (.ref a) lo hi H Q := by
  refine ⟨a, xs, rfl, SqT.of ha, fun e => ?_, fun _ p np => h p _ (same_new np) upd_same⟩
  refine h a H (Same.refl _) ?_
  unfold cutV
  rw [e.1, e.2, List.drop_zero, Nat.sub_zero, List.take_length]
  exact ha
theorem slA_no {K : PySem.W.Frag} {σ : L2.St} {H : Hp} {a : Addr} {xs : List V} {lo : Option Int} {Q : VK} (ha : H a = some (.tup xs)) (h : ∀ p H', Same H H' → H' p = some (.tup (cutV xs lo none)) → Q (.ref p) H') : tNoPart σ H fun u H3 => rSlA K (.ref a) lo u H3 Q := slA_of ha h
theorem cut_from (xs : List V) (k : Nat) (hk : k ≤ xs.length) : cutV xs (some (k : Int)) none = xs.drop k := by
  unfold cutV
  rw [HT.sIx_nat, HT.sIx_none, Nat.min_eq_left hk]
  exact List.take_of_length_le (by rw [List.length_drop]; exact Nat.le_refl _)
theorem cut_to (xs : List V) (k : Nat) (hk : k ≤ xs.length) : cutV xs none (some (k : Int)) = xs.take k := by
  unfold cutV
  rw [HT.sIx_nat, HT.sIx_none, Nat.min_eq_left hk, Nat.sub_zero, List.drop_zero]
theorem le1k {n : Nat} (h : n ≤ 1000) : n ≤ sizeLine := Nat.le_trans h (by decide)
theorem lt1k {n : Nat} (h : n ≤ 1000) : n < sizeLine := Nat.lt_of_le_of_lt h (by decide)
def BadTold (many : Int) (ms : List Mv) : Prop := ¬ (1 ≤ many ∧ many ≤ 6) ∨ ¬ (1 ≤ ms.length ∧ ms.length ≤ 8) ∨ ∃ m ∈ ms, isMv many m = false
theorem take_snoc' {α : Type} {l : List α} {i : Nat} {x : α} (h : l[i]? = some x) : l.take (i + 1) = l.take i ++ [x] := by
  rw [List.take_add_one, h]
  rfl
section
variable {P : Program} {w : World} {K : PySem.W.Frag} {mg : Str → Option Value} {base : Heap}
variable {fM cM tM : Addr} {fdM : FuncData} {C fI CB : Addr} {fdI : FuncData}
def spInitX (C CB T : Addr) : Sp := fun vs H _ E => ∃ (x dx l : Addr) (many : Int) (ws : List V) (ms : List Mv), vs = [.ref x, .int many, .ref l] ∧ H x = some (.ins C dx []) ∧ H l = some (.lst ws) ∧ MovesAt H ws ms ∧ BadTold many ms ∧ many.natAbs ≤ 1000 ∧ ms.length ≤ 1000 ∧ GxR.TabG H T ∧
  ∀ H', Gr T H H' → GxR.TabG H' T → E (.ref CB) none H'
theorem ok_initX (T : ChTxt K mg fM cM tM fdM C fI fdI) (N : OwnE K mg "BadChain" CB) (TB : GxR.TabB base mg cM tM) : FnOk P w K mg base (L2.CX P w) 2 fI fdI ["self", "many", "moves"] (spInitX C CB tM) := by
  have GM : FnOk P w K mg base CX0 1 fM fdM ["many", "move"] (spIsMove tM) := ok_ismove T TB
  obtain ⟨tp, gP⟩ := T.gP
  obtain ⟨tv, gV⟩ := T.gV
  refine T.FI.okX scInit (fun vs H Q E h => ?_) (fun cdv A outer s H vs Q E hr h => ?_)
  · obtain ⟨x, dx, l, many, ws, ms, rfl, _⟩ := h
    rfl
  · obtain ⟨x, dx, l, many, ws, ms, rfl, hx, hl, hM, hbad, hs1, hs2, hTab, q⟩ := h
    have lenW := hM.length
    refine ⟨_, pss_cons (ps_if (pt_not (pt_chain op_le op_le pe_int (pv 1) (pe_glob (v := .int 6) (by rfl) gP ⟨_, rfl⟩)))
          (pss_one (ps_raise rfl (takes_of rfl rfl rfl rfl) (SkE.pmk_own1 PySem.F.excBase_ValueError N.x N.g N.k (raises_own N.b N.t) (by exact rfl) (pe_joined (.cons pe_str (.cons (pe_fmt (pe_glob (v := .int 6) (by rfl) gP ⟨_, rfl⟩)) (.cons pe_str (.cons (pe_fmt (pv 1)) .nil)))))))) pss_nil)
      (pss_cons (ps_if (pt_not (pt_chain op_le op_le pe_int (pe_callB call_len_seq (by rfl) T.ml PySem.boot_len (pa_cons (pv 2) pa_nil)) (pe_glob (v := .int 8) (by rfl) gV ⟨_, rfl⟩)))
          (pss_one (ps_raise rfl (takes_of rfl rfl rfl rfl) (SkE.pmk_own1 PySem.F.excBase_ValueError N.x N.g N.k (raises_own N.b N.t) (by exact rfl) (pe_joined (.cons pe_str (.cons (pe_fmt (pe_glob (v := .int 8) (by rfl) gV ⟨_, rfl⟩)) (.cons pe_str (.cons (pe_fmt (pe_callB call_len_seq (by rfl) T.ml PySem.boot_len (pa_cons (pv 2) pa_nil))) .nil)))))))) pss_nil)
      (pss_cons (ps_for (passes_of rfl) rfl (pi_enum (by rfl) T.me (pa_cons (pv 2) pa_nil)) (pg_tup rfl (pgs_cons (pg_name (i := 3) scInit.nd rfl (.inl rfl)) (pgs_cons (pg_name (i := 4) scInit.nd rfl (.inl rfl)) pgs_nil)))
          (pss_one (ps_if (pt_not (pt_val (pe_call GM hr (by rfl) T.gM T.FM.kp T.bM .nil pass0 (pa_cons (pv 1) (pa_cons (pv 4) pa_nil)))))
            (pss_one (ps_raise rfl (takes_of rfl rfl rfl rfl) (SkE.pmk_own1 PySem.F.excBase_ValueError N.x N.g N.k (raises_own N.b N.t) (by exact rfl) (pe_joined (.cons pe_str (.cons (pe_fmt (pv 3)) (.cons pe_str (.cons (pe_fmt (pv 1)) (.cons pe_str .nil))))))))) pss_nil)))
      pss_never)), ?_⟩
    have hg : many.natAbs.log2 < 1920 := log_small (by omega)
    have l6 : ((6 : Int).natAbs).log2 < 1920 := log_small (by decide)
    have l8 : ((8 : Int).natAbs).log2 < 1920 := log_small (by decide)
    refine ⟨.int many, rfl, 1, many, rfl, rfl, _, rfl, ite2 (fun c1 => ?_) (fun c1 => ?_)⟩
    case refine_2 =>
      refine ⟨false, rfl, iteT ?_⟩
      exact ⟨_, rfl, by decide, .inr ⟨6, rfl, l6, _, rfl, fitA (m := 100) (by decide) (int_len l6) (by decide), _, rfl, fitA (app_le (m := 100) (by decide) (int_len l6)) (n := 100) (by decide) (by decide), .int many, rfl, .inr ⟨many, rfl, hg, _, rfl, fitA (app_le (app_le (m := 100) (by decide) (int_len l6)) (n := 100) (by decide)) (int_len hg) (by decide), q H (Gr.refl _ _) hTab⟩⟩⟩
    refine ⟨_, _, rfl, rfl, _, rfl, ite2 (fun c2 => ?_) (fun c2 => ?_)⟩
    · exact ⟨_, rfl, by decide, .inr ⟨6, rfl, l6, _, rfl, fitA (m := 100) (by decide) (int_len l6) (by decide), _, rfl, fitA (app_le (m := 100) (by decide) (int_len l6)) (n := 100) (by decide) (by decide), .int many, rfl, .inr ⟨many, rfl, hg, _, rfl, fitA (app_le (app_le (m := 100) (by decide) (int_len l6)) (n := 100) (by decide)) (int_len hg) (by decide), q H (Gr.refl _ _) hTab⟩⟩⟩
    have many1 : 1 ≤ many := of_decide_eq_true c1
    have many6 : many ≤ 6 := by
      rcases Int.lt_or_le 6 many with h | h
      · exact absurd (by rw [decide_eq_false (show ¬ many ≤ 6 by omega)]; rfl) c2
      · exact h
    have hS : SqL K H l ws := SqL.of hl
    have msg2 : ∀ H1, SqL K H1 l ws → Gr tM H H1 → GxR.TabG H1 tM → tJs [tC (V.str (Str.ofString "a chain has 1 to ")), tFmt (tC (.int 8)), tC (V.str (Str.ofString " moves, not ")), tFmt (tCB (rLenSq K) (tCons (tVar 2) tNil))] Str.empty [some (.ref x), some (.int many), some (.ref l), none, none] H1 (fun out H2 => E (.ref CB) none H2) := by
      intro H1 hS1 g t
      have hgl : (((ws.length : Nat) : Int)).natAbs.log2 < 1920 := log_small (by omega)
      exact ⟨_, rfl, by decide, .inr ⟨8, rfl, l8, _, rfl, fitA (m := 100) (by decide) (int_len l8) (by decide), _, rfl, fitA (app_le (m := 100) (by decide) (int_len l8)) (n := 100) (by decide) (by decide), .ref l, rfl, l, ws, rfl, .inl hS1, .inr ⟨_, rfl, hgl, _, rfl, fitA (app_le (app_le (m := 100) (by decide) (int_len l8)) (n := 100) (by decide)) (int_len hgl) (by decide), q H1 g t⟩⟩⟩
    refine ⟨.ref l, rfl, l, ws, rfl, .inl hS, 1, _, rfl, rfl, _, rfl, ite2 (fun c3 => ?_) (fun c3 => ?_)⟩
    case refine_2 => exact ⟨false, rfl, iteT (msg2 H hS (Gr.refl _ _) hTab)⟩
    refine ⟨_, _, rfl, rfl, _, rfl, ite2 (fun c4 => ?_) (fun c4 => ?_)⟩
    · exact msg2 H hS (Gr.refl _ _) hTab
    have len1 : 1 ≤ ms.length := by
      have : (1 : Int) ≤ ((ws.length : Nat) : Int) := of_decide_eq_true c3
      omega
    have len8 : ms.length ≤ 8 := by
      rcases Int.lt_or_le 8 ((ws.length : Nat) : Int) with h | h
      · exact absurd (by rw [decide_eq_false (show ¬ ((ws.length : Nat) : Int) ≤ 8 by omega)]; rfl) c4
      · omega
    obtain ⟨mb, hmb, hmf⟩ : ∃ m ∈ ms, isMv many m = false := by
      rcases hbad with h | h | h
      · exact absurd ⟨many1, many6⟩ h
      · exact absurd ⟨len1, len8⟩ h
      · exact h
    -- for number, move in enumerate(moves)
    have nlT : l ≠ tM := fun z => by
      obtain ⟨ps, e, _⟩ := hTab
      rw [z, e] at hl
      cases hl
    have tupK : ∀ {H'}, Gr tM H H' → ∀ b xs, H b = some (.tup xs) → H' b = some (.tup xs) := fun {H'} g b xs e => g b _ (fun z => by
      obtain ⟨ps, e2, _⟩ := hTab
      rw [z, e2] at e
      cases e) e
    refine ⟨.ref l, rfl, l, ws, rfl, hS, for_it (walk_enum (K := K) (a := l) (xs := ws)) (fun i σ H' => ∃ y3 y4, σ = [some (.ref x), some (.int many), some (.ref l), y3, y4] ∧ Gr tM H H' ∧ GxR.TabG H' tM ∧ ∀ m ∈ ms.take i, isMv many m = true)
      ⟨none, none, rfl, Gr.refl _ _, hTab, fun m hm => by simp at hm⟩ (fun i σ H' hi ⟨y3, y4, e, g, t, _⟩ => SqL.of (g l _ nlT hl)) ?_ ?_⟩
    · rintro i z σ H1 H2 hi ⟨y3, y4, rfl, g1, t1, hbef⟩ ⟨Tp, u, v, rfl, nT, rfl, eu, ev⟩
      have g2 : Gr tM H (upd H1 Tp (.tup [u, v])) := g1.new nT
      have t2 : GxR.TabG (upd H1 Tp (.tup [u, v])) tM := by
        obtain ⟨ps, e, t⟩ := t1
        exact ⟨ps, (same_new nT) _ _ e, t⟩
      refine ⟨Tp, [u, v], rfl, SqT.of upd_same, rfl, u, [v], rfl, v, [], rfl, rfl, ?_⟩
      obtain ⟨m, em, hm⟩ := hM.get' ev
      have hm2 : MoveAt (upd H1 Tp (.tup [u, v])) v m := hm.same (tupK g2)
      refine ⟨.int many, rfl, v, rfl, many, v, m, rfl, hm2, t2, fun H3 g3 t3 => ?_⟩
      cases hb : isMv many m with
      | true =>
        refine ⟨true, rfl, ?_⟩
        refine ⟨some u, some v, rfl, g2.trans g3, t3, fun m' hm' => ?_⟩
        rw [take_snoc' em] at hm'
        rcases List.mem_append.mp hm' with hm' | hm'
        · exact hbef m' hm'
        · rw [List.mem_singleton.mp hm']
          exact hb
      | false =>
        refine ⟨false, rfl, iteT ?_⟩
        have hi2 : i < ws.length := by
          obtain ⟨h1, _⟩ := List.getElem?_eq_some_iff.mp ev
          exact h1
        have hgi : ((((0 : Nat) : Int) + (i : Int))).natAbs.log2 < 1920 := log_small (by omega)
        have eu' : u = .int (i : Int) := (Option.some.inj eu).symm
        subst eu'
        have hgi' : ((i : Int)).natAbs.log2 < 1920 := log_small (by omega)
        have k1 := fun (s : Str) (h : s.length ≤ 100) => app_le h (int_len hgi')
        exact ⟨_, rfl, by decide, .int (i : Int), rfl, .inr ⟨_, rfl, hgi', _, rfl, fitA (m := 100) (by decide) (int_len hgi') (by decide), _, rfl, fitA (app_le (m := 100) (by decide) (int_len hgi')) (n := 100) (by decide) (by decide), .int many, rfl,
          .inr ⟨_, rfl, hg, _, rfl, fitA (app_le (app_le (m := 100) (by decide) (int_len hgi')) (n := 100) (by decide)) (int_len hg) (by decide), _, rfl, fitA (app_le (app_le (app_le (m := 100) (by decide) (int_len hgi')) (n := 100) (by decide)) (int_len hg)) (n := 100) (by decide) (by decide), q _ (g2.trans g3) t3⟩⟩⟩
    · rintro σ H1 ⟨y3, y4, rfl, g1, t1, hbef⟩
      have hlw : ws.length = ms.length := lenW
      rw [hlw, List.take_length] at hbef
      rw [hbef mb hmb] at hmf
      cases hmf
end
section
open TL
variable {P : Program} {w : World} {K : PySem.W.Frag} {mg : Str → Option Value} {base : Heap} {C : Addr}
def optV : Option Int → V
  | none => .non
  | some i => .int i
def rStrI : List V → Hp → VK → Prop := fun xs H Q => ∃ i, xs = [.int i] ∧ i.natAbs.log2 < 1920 ∧ Q (.str (nS i)) H
theorem log_100 {i : Int} (h0 : 0 ≤ i) (h : i < 1000000) : i.natAbs.log2 < 1920 := by
  by_cases c : i.natAbs = 0
  · rw [c]; decide
  · exact Nat.lt_trans ((Nat.log2_lt c).mpr (show i.natAbs < 2 ^ 20 by omega)) (by decide)
theorem scNb : FnScope ["word", "number"] ["word"] (defScope sNumber) := ⟨rfl, rfl, rfl, by decide +kernel, rfl, by decide +kernel, by decide +kernel⟩
def spNb : Sp := fun vs H Q _ => ∃ s : Str, vs = [.str s] ∧ Q (optV (numOf s)) H
theorem ok_number {k : Nat} {f : Addr} {fd : FuncData} (F : Fun K "_number" "_number" sNumber f fd) (mr : mg "range" = none) (mS : mg "str" = none) : FnOk P w K mg base CX0 (k + 1) f fd ["word"] spNb := by
  refine F.ok scNb (fun vs H Q E h => ?_) (fun cdv A outer s H vs Q E hr h => ?_)
  · obtain ⟨s, rfl, _⟩ := h
    rfl
  · obtain ⟨s, rfl, q⟩ := h
    refine ⟨_, (pss_cons (ps_for PassesOwn.never rfl (pi_range1 (by rfl) mr (pa_cons pe_int pa_nil)) (pg_name (i := 1) scNb.nd rfl (.inl rfl)) (pss_one (ps_if (pt_cmpR op_eq (pv 0) (pe_callTy call_str_int (by rfl) mS (by decide +kernel) (pa_cons (pv 1) pa_nil)) (nomark _)) (pss_one (ps_ret (pv 1))) pss_nil)))
      (pss_one (ps_ret pe_non))), ?_⟩
    refine ⟨100, rfl, by decide, by decide, ?_⟩
    refine for_range (lo := 0) (n := ((100 : Int)).toNat) (fun i σ H' => ∃ y1, σ = [some (.str s), y1] ∧ H' = H ∧ ∀ j : Nat, j < i → s ≠ nS (j : Int)) ⟨none, rfl, rfl, fun j hj => absurd hj (Nat.not_lt_zero _)⟩ ?_ ?_
    · rintro i σ H1 hi ⟨y1, rfl, rfl, hbef⟩
      have hi' : i < 100 := hi
      refine ⟨.str s, rfl, .int (0 + (i : Int)), rfl, _, rfl, log_100 (by omega) (by omega), rfl, _, rfl, ite2 (fun c => ?_) (fun c => ?_)⟩
      · have e : s = nS (0 + (i : Int)) := by
          have := of_decide_eq_true c
          injection this
        have e2 : numOf s = some (0 + (i : Int)) := by
          rw [e]
          exact numOf_int (by omega) (by omega)
        rw [e2] at q
        exact ⟨.int (0 + (i : Int)), rfl, q⟩
      · refine ⟨_, rfl, rfl, fun j hj e => ?_⟩
        by_cases h : j < i
        · exact hbef j h e
        · have ej : j = i := by omega
          refine c (decide_eq_true ?_)
          rw [e, ej]
          show V.str (nS (i : Int)) = V.str (nS (0 + (i : Int)))
          rw [Int.zero_add]
    · rintro σ H1 ⟨y1, rfl, rfl, hbef⟩
      have e : numOf s = none := numOf_none.mpr fun n hn => hbef n hn
      rw [e] at q
      exact q
theorem scMy : FnScope ["row", "words"] ["row"] (defScope sMany) := ⟨rfl, rfl, rfl, by decide +kernel, rfl, by decide +kernel, by decide +kernel⟩
def spMy : Sp := fun vs H Q _ => ∃ s : Str, vs = [.str s] ∧ s.length + 2 ≤ sizeLine ∧ ∀ H', Same H H' → Q (optV (manyOf s)) H'
theorem ok_many {f fN : Addr} {fd fdN : FuncData} (F : Fun K "_many" "_many" sMany f fd) (DN : Df K mg "_number" sNumber ["word"] fN fdN) (ml : mg "len" = none) (mr : mg "range" = none) (mS : mg "str" = none) : FnOk P w K mg base CX0 2 f fd ["row"] spMy := by
  have GN : FnOk P w K mg base CX0 1 fN fdN ["word"] spNb := ok_number DN.F mr mS
  refine F.ok scMy (fun vs H Q E h => ?_) (fun cdv A outer s H vs Q E hr h => ?_)
  · obtain ⟨s, rfl, _⟩ := h
    rfl
  · obtain ⟨t, rfl, hl, q⟩ := h
    have r1 : Room 1 _ := hr.mono (by decide)
    refine ⟨_, (pss_cons (ps_set (i := 1) scMy.nd rfl (.inl rfl) (pe_split (pv 0) pe_str))
      (pss_cons (ps_if (PW.pt (pw_or (pt_cmpR op_ne (pe_callB call_len_seq (by rfl) ml PySem.boot_len (pa_cons (pv 1) pa_nil)) pe_int (nomark _)) (pw_or1 (pt_cmpR op_ne (pe_ix ix_list (pv 1) pe_int (fun _ _ => rfl)) pe_str (nomark _))))) (pss_one (ps_ret pe_non)) pss_nil)
      (pss_one (ps_ret (pe_call GN r1 (by rfl) DN.g DN.F.kp DN.b .nil pass0 (pa_cons (pe_ix ix_list (pv 1) pe_int (fun _ _ => rfl)) pa_nil)))))), ?_⟩
    refine ⟨.str t, rfl, ⟨_, rfl⟩, _, _, rfl, rfl, by decide +kernel, hl, fun p np => ?_⟩
    have s1 := same_new (o := .lst ((Txt.split t spS).map V.str)) np
    have hp : (upd H p (.lst ((Txt.split t spS).map V.str))) p = some (.lst ((Txt.split t spS).map V.str)) := upd_same
    have q1 := q _ s1
    show gName 1 (V.ref p) _ (upd H p (.lst ((Txt.split t spS).map V.str))) _
    generalize upd H p (.lst ((Txt.split t spS).map V.str)) = H1 at s1 hp q1 ⊢
    refine ⟨.ref p, rfl, p, _, rfl, .inl (SqL.of hp), rfl, _, rfl, ?_⟩
    unfold manyOf at q1
    rw [List.length_map]
    generalize Txt.split t spS = ws at hp q1 ⊢
    match ws, hp, q1 with
    | [], hp, q1 => exact iteT q1
    | [a], hp, q1 => exact iteT q1
    | a :: b :: c :: r, hp, q1 =>
      refine ite2 (fun _ => q1) fun h => absurd (decide_eq_false ?_) (by simpa using h)
      intro z
      injection z with z
      have z2 : r.length + 1 + 1 + 1 = 2 := by exact_mod_cast z
      omega
    | [a, b], hp, q1 =>
      refine iteF ⟨.ref p, rfl, p, _, 0, _, rfl, rfl, SqL.of hp, atI_nat (j := 0) rfl, rfl, _, rfl, ite2 (fun h => ?_) (fun h => ?_)⟩
      · have hn : a ≠ plS := fun e => by
          rw [e] at h
          revert h
          show ¬ ((!decide (V.str plS = V.str plS)) = true)
          simp
        have q2 : Q (optV (if a = plS then numOf b else none)) H1 := q1
        rw [if_neg hn] at q2
        exact q2
      · have he : a = plS := by
          by_cases e : V.str a = V.str plS
          · injection e
          · exact absurd (show (!decide (V.str a = V.str plS)) = true by rw [decide_eq_false e]; rfl) h
        have q2 : Q (optV (if a = plS then numOf b else none)) H1 := q1
        rw [if_pos he] at q2
        exact ⟨.ref p, rfl, p, _, 1, _, rfl, rfl, SqL.of hp, atI_nat (j := 1) rfl, b, rfl, q2⟩
def MoveOr (H : Hp) (v : V) : Option (Int × List Int) → Prop
  | none => v = .non
  | some m => MoveAt H v m
theorem flat_opts : ∀ os : List (Option Int), (os.map optV).all flatV = true
  | [] => rfl
  | none :: os => flat_opts os
  | some _ :: os => flat_opts os
theorem in_opts : ∀ os : List (Option Int), inV .non (os.map optV) = decide (none ∈ os)
  | [] => rfl
  | none :: os => by
    rw [decide_eq_true List.mem_cons_self]
    rfl
  | some z :: os => by
    have ih := in_opts os
    have e : decide (none ∈ some z :: os) = decide (none ∈ os) := decide_eq_decide.mpr (by simp)
    rw [e, ← ih]
    rfl
theorem scMo : FnScope ["row", "words", "weight", "whither", "word"] ["row"] (defScope sMove) := ⟨rfl, rfl, rfl, by decide +kernel, rfl, by decide +kernel, by decide +kernel⟩
def spMo : Sp := fun vs H Q _ => ∃ s : Str, vs = [.str s] ∧ s.length + 2 ≤ sizeLine ∧ ∀ v H', Same H H' → MoveOr H' v (moveOf s) → Q v H'
theorem ok_move {f fN : Addr} {fd fdN : FuncData} (F : Fun K "_move" "_move" sMove f fd) (DN : Df K mg "_number" sNumber ["word"] fN fdN) (ml : mg "len" = none) (mr : mg "range" = none) (mS : mg "str" = none) (mt : mg "tuple" = none) : FnOk P w K mg base CX0 2 f fd ["row"] spMo := by
  have GN : FnOk P w K mg base CX0 1 fN fdN ["word"] spNb := ok_number DN.F mr mS
  refine F.ok scMo (fun vs H Q E h => ?_) (fun cdv A outer s H vs Q E hr h => ?_)
  · obtain ⟨s, rfl, _⟩ := h
    rfl
  · obtain ⟨t, rfl, hl, q⟩ := h
    have r1 : Room 1 _ := hr.mono (by decide)
    refine ⟨_, (pss_cons (ps_set (i := 1) scMo.nd rfl (.inl rfl) (pe_split (pv 0) pe_str))
      (pss_cons (ps_if (PW.pt (pw_or (pt_cmpR op_lt (pe_callB call_len_seq (by rfl) ml PySem.boot_len (pa_cons (pv 1) pa_nil)) pe_int (nomark _)) (pw_or (pt_cmpR op_ne (pe_ix ix_list (pv 1) pe_int (fun _ _ => rfl)) pe_str (nomark _)) (pw_or1 (pt_not (pt_val (pe_m1 PySem.F.slot_str_endswith PySem.F.type_str_endswith mt_endswith (pe_ix ix_list (pv 1) pe_int (fun _ _ => rfl)) pe_str))))))) (pss_one (ps_ret pe_non)) pss_nil)
      (pss_cons (ps_set (i := 2) scMo.nd rfl (.inl rfl) (pe_call GN r1 (by rfl) DN.g DN.F.kp DN.b .nil pass0 (pa_cons (pe_slice sl_str (pe_ix ix_list (pv 1) pe_int (fun _ _ => rfl)) po_none (po_some (pe_un un_neg pe_int))) pa_nil)))
      (pss_cons (ps_set (i := 3) scMo.nd rfl (.inl rfl) (pe_callTy call_tuple_of (by rfl) mt (by decide +kernel) (pa_cons (pe_lc (own := [("word", 4)]) (g := gName 4) (tt := tYes) (te := (tCall spNb [] E0 (tCons (tVar 4) tNil))) rfl scMo.nd (pi_list (pe_slice sl_list (pv 1) (po_some pe_int) po_none)) (blkOk_by (N := ["row", "words", "weight", "whither", "word"]) (sc := defScope sMove) (by decide +kernel)) (fun _ _ _ _ _ => by exact (pg_name (i := 4) scMo.nd rfl (.inl rfl))) (fun _ _ _ _ _ => pts_nil) (fun _ _ _ _ _ => by exact (pe_call GN r1 (by rfl) DN.g DN.F.kp DN.b .nil pass0 (pa_cons (pv 4) pa_nil)))) pa_nil)))
      (pss_cons (ps_if (PW.pt (pw_or (pt_cmpR op_isN (pv 2) pe_non (nomark _)) (pw_or1 (pt_cmpR op_in_seq pe_non (pv 3) (by with_unfolding_all rfl))))) (pss_one (ps_ret pe_non)) pss_nil)
      (pss_one (ps_ret (pe_tup (pa_cons (pv 2) (pa_cons (pv 3) pa_nil)))))))))), ?_⟩
    refine ⟨.str t, rfl, ⟨_, rfl⟩, _, _, rfl, rfl, by decide +kernel, hl, fun p np => ?_⟩
    have s1 := same_new (o := .lst ((Txt.split t spS).map V.str)) np
    have hp : (upd H p (.lst ((Txt.split t spS).map V.str))) p = some (.lst ((Txt.split t spS).map V.str)) := upd_same
    have hsl := PyProof.Rows.split_le t spS
    have hpl : ∀ x ∈ Txt.split t spS, x.length ≤ t.length := fun x hx => part_len hx
    have q1 : ∀ v H', Same (upd H p (.lst ((Txt.split t spS).map V.str))) H' → MoveOr H' v (moveOf t) → Q v H' := fun v H' s2 h => q v H' (s1.trans s2) h
    show gName 1 (V.ref p) _ (upd H p (.lst ((Txt.split t spS).map V.str))) _
    generalize upd H p (.lst ((Txt.split t spS).map V.str)) = H1 at s1 hp q1 ⊢
    refine ⟨.ref p, rfl, p, _, rfl, .inl (SqL.of hp), _, _, rfl, rfl, _, rfl, ?_⟩
    unfold moveOf at q1
    rw [List.length_map]
    generalize Txt.split t spS = ws at hp q1 hsl hpl ⊢
    match ws, hp, q1, hsl, hpl with
    | [], hp, q1, _, _ => exact iteT (q1 _ _ (Same.refl _) rfl)
    | [a], hp, q1, _, _ => exact iteT (q1 _ _ (Same.refl _) rfl)
    | [a, b], hp, q1, _, _ => exact iteT (q1 _ _ (Same.refl _) rfl)
    | a :: b :: c :: r, hp, q1, hsl, hpl =>
      refine ite2 (fun h => ?_) fun _ => ?_
      · have h2 := of_decide_eq_true h
        rw [List.length_cons, List.length_cons, List.length_cons] at h2
        omega
      refine ⟨.ref p, rfl, p, _, 0, _, rfl, rfl, SqL.of hp, atI_nat (j := 0) rfl, rfl, _, rfl, ite2 (fun h => ?_) (fun h => ?_)⟩
      · have hn : a ≠ mvS := fun e => by
          rw [e] at h
          revert h
          show ¬ ((!decide (V.str mvS = V.str mvS)) = true)
          simp
        refine q1 _ _ (Same.refl _) ?_
        show MoveOr H1 _ (if a = mvS ∧ Txt.endswith b coS = true then _ else none)
        rw [if_neg fun z => hn z.1]
        rfl
      have ha : a = mvS := by
        by_cases e : V.str a = V.str mvS
        · injection e
        · exact absurd (show (!decide (V.str a = V.str mvS)) = true by rw [decide_eq_false e]; rfl) h
      refine ⟨.ref p, rfl, p, _, 1, _, rfl, rfl, SqL.of hp, atI_nat (j := 1) rfl, ⟨_, rfl⟩, _, _, rfl, rfl, _, rfl, ?_⟩
      have q2 : ∀ v H', Same H1 H' → MoveOr H' v (if a = mvS ∧ Txt.endswith b coS = true then pairO (numOf (cutS b none (some (-1)))) (numsOf (c :: r)) else none) → Q v H' := q1
      show if (!Txt.endswith b coS) = true then _ else _
      cases he : Txt.endswith b coS with
      | false =>
        rw [if_neg fun z => by rw [he] at z; cases z.2] at q2
        exact iteT (q2 _ _ (Same.refl _) rfl)
      | true =>
        rw [if_pos ⟨ha, he⟩] at q2
        refine iteF ?_
        have bl : b.length ≤ sizeLine := by
          have := hpl b (List.mem_cons_of_mem _ List.mem_cons_self)
          omega
        refine ⟨.ref p, rfl, p, _, 1, _, rfl, rfl, SqL.of hp, atI_nat (j := 1) rfl, 1, rfl, -1, rfl, b, rfl, bl, _, rfl, ?_⟩
        -- whither
        refine ⟨.ref p, rfl, 2, rfl, p, _, rfl, SqL.of hp, fun p2 np2 => ?_⟩
        have ec : cutV ((a :: b :: c :: r).map V.str) (some 2) none = (c :: r).map V.str := cut_from _ 2 (by rw [List.length_map, List.length_cons, List.length_cons]; omega)
        rw [ec]
        have s2 := same_new (o := .lst ((c :: r).map V.str)) np2
        have hp2 : (upd H1 p2 (.lst ((c :: r).map V.str))) p2 = some (.lst ((c :: r).map V.str)) := upd_same
        generalize upd H1 p2 (.lst ((c :: r).map V.str)) = H2 at s2 hp2 ⊢
        refine ⟨p2, rfl, ⟨_, SqL.of hp2⟩, fun D nD => ?_⟩
        refine lc_list (K := K) (a := p2) (xs := (c :: r).map V.str) (fun e H' => Same H2 H' ∧ H' D = some (.lst ((((c :: r).map numOf).take e).map optV))) ⟨same_new nD, upd_same⟩ (fun e H' _ h => SqL.of (h.1 _ _ hp2)) ?_ ?_
        · rintro e v H3 hv ⟨s3, hD⟩
          rw [List.getElem?_map] at hv
          obtain ⟨x, hx, rfl⟩ := Option.map_eq_some_iff.mp hv
          refine ⟨rfl, .str x, rfl, x, rfl, _, hD, ?_, fun b u eb => by rw [upd_ne (ne_of_none eb nD)]; exact s3 _ _ eb, ?_⟩
          · rw [List.length_map, List.length_take, List.length_map]
            rw [List.length_cons, List.length_cons, List.length_cons] at hsl
            have := (List.getElem?_eq_some_iff.mp hx).1
            rw [List.length_cons] at this
            omega
          · rw [upd_same, take_snoc (by rw [List.getElem?_map, hx]; rfl), List.map_append]
            rfl
        · rintro H3 ⟨s3, hD⟩
          rw [List.length_map, List.take_of_length_le (by rw [List.length_map]; exact Nat.le_refl _)] at hD
          refine ⟨D, _, rfl, .inl ⟨SqL.of hD, fun T nT => ?_⟩⟩
          have s4 := same_new (o := .tup (((c :: r).map numOf).map optV)) nT
          have hT : (upd H3 T (.tup (((c :: r).map numOf).map optV))) T = some (.tup (((c :: r).map numOf).map optV)) := upd_same
          generalize upd H3 T (.tup (((c :: r).map numOf).map optV)) = H4 at s4 hT ⊢
          have s14 := (s2.trans s3).trans s4
          cases hw : numOf (cutS b none (some (-1))) with
          | none =>
            rw [hw] at q2
            exact ⟨.non, rfl, rfl, true, by simp, iteT (q2 _ _ s14 rfl)⟩
          | some wt =>
            rw [hw] at q2
            refine ⟨.int wt, rfl, rfl, false, by simp, iteF ?_⟩
            refine ⟨.ref T, rfl, T, _, rfl, .inr (SqT.of hT), rfl, flat_opts _, _, rfl, ?_⟩
            show if inV .non (((c :: r).map numOf).map optV) = true then _ else _
            rw [in_opts]
            cases hz : numsOf (c :: r) with
            | none =>
              rw [hz] at q2
              rw [decide_eq_true (numsOf_none.mp hz)]
              exact iteT (q2 _ _ s14 rfl)
            | some zs =>
              rw [hz] at q2
              have hn : ¬ (none ∈ (c :: r).map numOf) := fun h => by
                rw [numsOf_none.mpr h] at hz
                cases hz
              rw [decide_eq_false hn]
              refine iteF ⟨.int wt, rfl, .ref T, rfl, (by show 2 ≤ sizeLine; decide), fun T2 nT2 => ?_⟩
              have s5 := same_new (o := .tup [V.int wt, V.ref T]) nT2
              refine q2 _ _ (s14.trans s5) ⟨T2, T, rfl, upd_same, ?_⟩
              have := s5 _ _ hT
              rw [numsOf_some hz] at this
              rw [this, List.map_map]
              rfl
/-! ### written -/
theorem Good.small {many : Nat} {ms : List Mv} (G : Good many ms) : ∀ m ∈ ms, Small m := fun m hm => by
  obtain ⟨h1, h2, h3, h4⟩ := G.mv m hm
  have m1 := G.m1
  have m6 := G.m6
  refine ⟨by omega, by omega, fun z => ?_, fun z hz => ?_⟩
  · rw [z] at h3
    have : (0 : Nat) = many := h3
    omega
  · have := h4 z hz
    omega
theorem write_len {many : Nat} {ms : List Mv} (G : Good many ms) : (writeS (many : Int) ms).length ≤ 1000 := by
  have m6 := G.m6
  have l8 := G.l8
  have h2 := sum_le (l := (headS (many : Int) :: ms.map rowS).map (·.length)) (b := 100) fun x hx => by
    obtain ⟨p, hp, rfl⟩ := List.mem_map.mp hx
    rcases List.mem_cons.mp hp with e | hp
    · rw [e]
      have := headS_len (many := (many : Int)) (by omega) (by omega)
      omega
    · obtain ⟨m', hm', rfl⟩ := List.mem_map.mp hp
      have := rowS_len (G.small m' hm')
      have := (G.mv m' hm').2.2.1
      omega
  have l1 : nlS.length = 1 := by decide +kernel
  have l2 : (headS (many : Int) :: ms.map rowS).length = ms.length + 1 := by rw [List.length_cons, List.length_map]
  have h := join_len nlS (headS (many : Int) :: ms.map rowS)
  rw [List.length_map, l2] at h2
  rw [l1, l2] at h
  unfold writeS
  omega
theorem scWt : FnScope ["chain", "rows", "weight", "whither", "place"] ["chain"] (defScope sWritten) := ⟨rfl, rfl, rfl, by decide +kernel, rfl, by decide +kernel, by decide +kernel⟩
def spWt (C : Addr) : Sp := fun vs H Q _ => ∃ (x : Addr) (many : Nat) (ms : List Mv), vs = [.ref x] ∧ ChainAt C H x many ms ∧ Good many ms ∧ ∀ H', Same H H' → Q (.str (writeS (many : Int) ms)) H'
theorem ok_written {f fP fT : Addr} {fd fdP fdT : FuncData} (F : Fun K "written" "written" sWritten f fd) (T : ChM K C fP fT fdP fdT) (mL : mg "list" = none) (mS : mg "str" = none) : FnOk P w K mg base CX0 2 f fd ["chain"] (spWt C) := by
  have GP : FnOk P w K mg base CX0 1 fP fdP ["self"] (spPlaces C) := ok_places T.FP T.cl T.nM
  have GT : FnOk P w K mg base CX0 1 fT fdT ["self"] (spTold C) := ok_told T.FT T.cl T.nV mL
  refine F.ok scWt (fun vs H Q E h => ?_) (fun cdv A outer s H vs Q E hr h => ?_)
  · obtain ⟨x, many, ms, rfl, _⟩ := h
    rfl
  · obtain ⟨x, many, ms, rfl, hC, G, q⟩ := h
    have r1 : Room 1 _ := hr.mono (by decide)
    have m6 := G.m6
    have l8 := G.l8
    have sm := G.small
    have two : (2 : Nat) ≤ sizeLine := by decide
    refine ⟨_, (pss_cons (ps_set (i := 1) scWt.nd rfl (.inl rfl) (pe_lst (pa_cons (pe_joined (.cons pe_str (.cons (pe_fmt (pe_meth0 (pv 0) T.cl T.hP GP r1 T.bP .nil pass0)) .nil))) pa_nil)))
      (pss_cons (ps_for PassesOwn.never rfl (pi_list (pe_meth0 (pv 0) T.cl T.hT GT r1 T.bT .nil pass0)) (pg_tup rfl (pgs_cons (pg_name (i := 2) scWt.nd rfl (.inl rfl)) (pgs_cons (pg_name (i := 3) scWt.nd rfl (.inl rfl)) pgs_nil))) (pss_one (ps_expr (pe_bm PySem.F.plainAttrs_list PySem.F.slot_list_append PySem.F.type_list_append mt_append (pv 1) (pa_cons (pe_join pe_str (pe_op op_cat (pe_lst (pa_cons pe_str (pa_cons (pe_joined (.cons (pe_fmt (pv 2)) (.cons pe_str .nil))) pa_nil))) (pe_lc (own := [("place", 4)]) (g := gName 4) (tt := tYes) (te := (tCB rStrI (tCons (tVar 4) tNil))) rfl scWt.nd (pi_tup (pv 3)) (blkOk_by (N := ["chain", "rows", "weight", "whither", "place"]) (sc := defScope sWritten) (by decide +kernel)) (fun _ _ _ _ _ => by exact (pg_name (i := 4) scWt.nd rfl (.inl rfl))) (fun _ _ _ _ _ => pts_nil) (fun _ _ _ _ _ => by exact (pe_callTy call_str_int (by rfl) mS (by decide +kernel) (pa_cons (pv 4) pa_nil)))))) pa_nil)))))
      (pss_one (ps_ret (pe_join pe_str (pv 1)))))), ?_⟩
    obtain ⟨dx, a0, ws0, h1, h2, h3⟩ := id hC
    have em : (Str.empty ++ Str.ofString "places " ++ Str.ofString (toString (many : Int))) = headS (many : Int) := by
      rw [headS_told]
      apply ext_tl
      rw [tl_append, tl_append, tl_append]
      rfl
    have hlen : (headS (many : Int)).length ≤ sizeLine := Nat.le_trans (headS_len (by omega) (by omega)) (by decide)
    refine ⟨_, rfl, by decide, .ref x, rfl, x, dx, _, rfl, h1, ch_no, x, many, ms, rfl, hC, .inr ⟨_, rfl, log_100 (by omega) (by omega), _, rfl, by rw [em]; exact hlen, ?_⟩⟩
    refine ⟨(by show 1 ≤ sizeLine; decide), fun R nR => ?_⟩
    rw [em]
    have s1 := same_new (o := .lst [V.str (headS (many : Int))]) nR
    have hR : (upd H R (.lst [V.str (headS (many : Int))])) R = some (.lst [V.str (headS (many : Int))]) := upd_same
    have hC1 := hC.same s1
    generalize upd H R (.lst [V.str (headS (many : Int))]) = H1 at s1 hR hC1 ⊢
    obtain ⟨dx, a0, ws0, h1, h2, h3⟩ := id hC1
    refine ⟨.ref x, rfl, x, dx, _, rfl, h1, ch_noT, x, many, ms, rfl, hC1, fun m ws nm hM => ?_⟩
    have s2 := same_new (o := .lst ws) nm
    have hm : (upd H1 m (.lst ws)) m = some (.lst ws) := upd_same
    have hR2 := s2 _ _ hR
    generalize upd H1 m (.lst ws) = H2 at s2 hm hM hR2 ⊢
    refine ⟨m, rfl, ⟨_, SqL.of hm⟩, ?_⟩
    refine for_list (K := K) (a := m) (xs := ws) (fun i σ H' => ∃ y2 y3, σ = [some (.ref x), some (.ref R), y2, y3, none] ∧ (∀ b o, b ≠ R → H2 b = some o → H' b = some o) ∧ H' R = some (.lst ((headS (many : Int) :: (ms.take i).map rowS).map V.str)))
      ⟨none, none, rfl, fun _ _ _ e => e, by rw [List.take_zero]; exact hR2⟩ (fun i σ H' _ ⟨_, _, _, k, _⟩ => SqL.of (k _ _ (ne_of_none hR nm).symm hm)) ?_ ?_
    · rintro i v σ H3 hv ⟨y2, y3, rfl, k3, hR3⟩
      obtain ⟨mv, emv, ta, tb, rfl, hta, htb⟩ := hM.get' hv
      have gm := G.mv mv (List.mem_of_getElem? emv)
      have hta3 := k3 _ _ (fun z => by rw [z, hR2] at hta; cases hta) hta
      have htb3 := k3 _ _ (fun z => by rw [z, hR2] at htb; cases htb) htb
      have sv := sm mv (List.mem_of_getElem? emv)
      have l5 : (nS mv.1).length ≤ 2 := nS_len sv.1 sv.2.1
      have ew : Str.empty ++ Str.ofString (toString mv.1) ++ Str.ofString ":" = nS mv.1 ++ coS := by
        apply ext_tl
        rw [tl_append, tl_append, tl_append]
        rfl
      refine ⟨ta, _, rfl, SqT.of hta3, rfl, _, _, rfl, _, _, rfl, rfl, ?_⟩
      refine ⟨.ref R, rfl, .inl ⟨rfl, _, SqL.of hR3⟩, ⟨_, rfl⟩, .int mv.1, rfl, .inr ⟨_, rfl, log_100 sv.1 (by have := sv.2.1; omega), _, rfl, ?_, _, rfl, ?_, ?_⟩⟩
      · rw [len_tl, tl_append, List.length_append, ← len_tl, ← len_tl]
        show 0 + (nS mv.1).length ≤ sizeLine
        exact le1k (by omega)
      · rw [ew, len_tl, tl_append, List.length_append, ← len_tl, ← len_tl, show coS.length = 1 by rw [len_tl, tl_coS]; rfl]
        exact le1k (by omega)
      rw [ew]
      refine ⟨two, fun L nL => ?_⟩
      have s4 := same_new (o := .lst [V.str mvS, V.str (nS mv.1 ++ coS)]) nL
      have hL : (upd H3 L (.lst [V.str mvS, V.str (nS mv.1 ++ coS)])) L = some (.lst [V.str mvS, V.str (nS mv.1 ++ coS)]) := upd_same
      show tLc _ _ _ _ _ _ (upd H3 L (.lst [V.str mvS, V.str (nS mv.1 ++ coS)])) _
      generalize upd H3 L (.lst [V.str mvS, V.str (nS mv.1 ++ coS)]) = H4 at s4 hL ⊢
      have htb4 := s4 _ _ htb3
      refine ⟨.ref tb, rfl, tb, rfl, ⟨_, SqT.of htb4⟩, fun D nD => ?_⟩
      refine lc_tup (K := K) (a := tb) (xs := mv.2.map V.int) (fun e H' => Same H4 H' ∧ H' D = some (.lst (((mv.2.map nS).take e).map V.str))) ⟨same_new nD, upd_same⟩ (fun e H' _ h => SqT.of (h.1 _ _ htb4)) ?_ ?_
      · rintro e v H5 hv ⟨s5, hD⟩
        rw [List.getElem?_map] at hv
        obtain ⟨z, hz, rfl⟩ := Option.map_eq_some_iff.mp hv
        have hzm := sv.2.2.2 z (List.mem_of_getElem? hz)
        refine ⟨rfl, .int z, rfl, z, rfl, log_100 hzm.1 (by omega), _, hD, ?_, fun b u eb => by rw [upd_ne (ne_of_none eb nD)]; exact s5 _ _ eb, ?_⟩
        · rw [List.length_map, List.length_take, List.length_map, gm.2.2.1]
          exact lt1k (by omega)
        · rw [upd_same, take_snoc (by rw [List.getElem?_map, hz]; rfl), List.map_append]
          rfl
      · rintro H5 ⟨s5, hD⟩
        rw [List.length_map, List.take_of_length_le (by rw [List.length_map]; exact Nat.le_refl _)] at hD
        have ll : (mv.2.map nS).length = many := by rw [List.length_map, gm.2.2.1]
        refine ⟨L, D, _, _, rfl, rfl, s5 _ _ hL, hD, ?_, fun p2 np2 => ?_⟩
        · rw [List.length_map, ll]
          exact le1k (by show 2 + many ≤ 1000; omega)
        have s6 := same_new (o := .lst ([V.str mvS, V.str (nS mv.1 ++ coS)] ++ (mv.2.map nS).map V.str)) np2
        refine ⟨_, p2, mvS :: (nS mv.1 ++ coS) :: mv.2.map nS, rfl, rfl, .inl (SqL.of upd_same), ?_, ?_⟩
        · have h2 := sum_le (l := (mvS :: (nS mv.1 ++ coS) :: mv.2.map nS).map (·.length)) (b := 4) fun x hx => by
            obtain ⟨p, hp, rfl⟩ := List.mem_map.mp hx
            exact rowS_parts sv p hp
          have l1 : (Str.ofString " ").length = 1 := by decide +kernel
          have l2 : (mvS :: (nS mv.1 ++ coS) :: mv.2.map nS).length = many + 2 := by rw [List.length_cons, List.length_cons, ll]
          rw [List.length_map, l2] at h2
          rw [l1, l2]
          omega
        have s46 := (s4.trans s5).trans s6
        refine ⟨R, _, _, rfl, rfl, s46 _ _ hR3, ?_, ?_⟩
        · rw [List.length_map, List.length_cons, List.length_map, List.length_take]
          exact lt1k (by omega)
        · refine ⟨_, _, rfl, fun b o nb e => ?_, ?_⟩
          · rw [upd_ne nb]
            exact s46 _ _ (k3 b o nb e)
          · rw [upd_same, take_snoc emv, List.map_append, List.map_cons, List.map_cons, List.map_append]
            rfl
    · rintro σ H3 ⟨y2, y3, rfl, k3, hR3⟩
      rw [hM.length, List.take_length] at hR3
      refine ⟨⟨_, rfl⟩, .ref R, rfl, _, R, headS (many : Int) :: ms.map rowS, rfl, rfl, .inl (SqL.of hR3), ?_, ?_⟩
      · have h2 := sum_le (l := (headS (many : Int) :: ms.map rowS).map (·.length)) (b := 100) fun x hx => by
          obtain ⟨p, hp, rfl⟩ := List.mem_map.mp hx
          rcases List.mem_cons.mp hp with e | hp
          · rw [e]
            have := headS_len (many := (many : Int)) (by omega) (by omega)
            omega
          · obtain ⟨m', hm', rfl⟩ := List.mem_map.mp hp
            have := rowS_len (sm m' hm')
            have := (G.mv m' hm').2.2.1
            omega
        have l1 : (Str.ofString "\n").length = 1 := by decide +kernel
        have l2 : (headS (many : Int) :: ms.map rowS).length = ms.length + 1 := by rw [List.length_cons, List.length_map]
        rw [List.length_map, l2] at h2
        rw [l1, l2]
        omega
      · refine q H3 fun b o e => ?_
        have e1 := s1 _ _ e
        exact k3 b o (ne_of_none e nR) (s2 _ _ e1)
/-! ### read, of what is a chain's -/
variable {fM cM tM : Addr} {fdM : FuncData} {fI : Addr} {fdI : FuncData}
theorem movesOf_spec : ∀ {rs : List Str} {k : Nat} {ms : List (Int × List Int)}, movesOf rs k = .inr ms → rs.map moveOf = ms.map some
  | [], _, ms, h => by cases h; rfl
  | r :: rs, k, ms, h => by
    unfold movesOf at h
    cases h1 : moveOf r with
    | none => rw [h1] at h; cases h
    | some m =>
      rw [h1] at h
      cases h2 : movesOf rs (k + 1) with
      | inl j => rw [h2] at h; cases h
      | inr ms' =>
        rw [h2] at h
        cases h
        rw [List.map_cons, List.map_cons, h1, movesOf_spec h2]
theorem readOf_told {t : Str} {many : Int} {ms : List (Int × List Int)} (h : readOf t = .told many ms) : ∃ r rs, Txt.split t nlS = r :: rs ∧ manyOf r = some many ∧ movesOf rs 1 = .inr ms := by
  unfold readOf at h
  cases hs : Txt.split t nlS with
  | nil => rw [hs] at h; cases h
  | cons r rs =>
    rw [hs] at h
    replace h : (match manyOf r with | none => ReadR.bad 0 | some many => match movesOf rs 1 with | .inl k => .bad k | .inr ms => .told many ms) = .told many ms := h
    cases h1 : manyOf r with
    | none => rw [h1] at h; cases h
    | some m =>
      rw [h1] at h
      replace h : (match movesOf rs 1 with | .inl k => ReadR.bad k | .inr ms => .told m ms) = .told many ms := h
      cases h2 : movesOf rs 1 with
      | inl k => rw [h2] at h; cases h
      | inr ms' =>
        rw [h2] at h
        cases h
        exact ⟨r, rs, rfl, h1, h2⟩
theorem moves_or {H : Hp} : ∀ {vs : List V} {ms : List Mv}, Paired (MoveOr H) vs (ms.map some) → MovesAt H vs ms
  | _, [], h => by cases h; exact .nil
  | _, m :: ms, h => by
    cases h with
    | cons h r => exact .cons h (moves_or r)
theorem MoveOr.same {H H' : Hp} (s : ∀ b xs, H b = some (.tup xs) → H' b = some (.tup xs)) {v : V} {o : Option Mv} (h : MoveOr H v o) : MoveOr H' v o := by
  cases o with
  | none => exact h
  | some m => exact MoveAt.same s h
theorem scRd : FnScope ["text", "rows", "many", "moves", "row"] ["text"] (defScope sRead) := ⟨rfl, rfl, rfl, by decide +kernel, rfl, by decide +kernel, by decide +kernel⟩
def spRd (C T : Addr) : Sp := fun vs H Q _ => ∃ (t : Str) (many : Nat) (ms : List Mv), vs = [.str t] ∧ t.length + 2 ≤ sizeLine ∧ readOf t = .told (many : Int) ms ∧ Good many ms ∧ GxR.TabG H T ∧ ∀ H' x, ChainAt C H' x many ms → H x = none → Gr T H H' → GxR.TabG H' T → Q (.ref x) H'
theorem ok_read {f fY fO : Addr} {fd fdY fdO : FuncData} (F : Fun K "read" "read" sRead f fd) (DMy : Df K mg "_many" sMany ["row"] fY fdY) (GMy : FnOk P w K mg base CX0 2 fY fdY ["row"] spMy) (DMo : Df K mg "_move" sMove ["row"] fO fdO) (GMo : FnOk P w K mg base CX0 2 fO fdO ["row"] spMo)
    (CH : ChTxt K mg fM cM tM fdM C fI fdI) (TB : GxR.TabB base mg cM tM) : FnOk P w K mg base CX0 4 f fd ["text"] (spRd C tM) := by
  have GI : FnOk P w K mg base CX0 2 fI fdI ["self", "many", "moves"] (spInitG C tM) := ok_initG CH TB
  refine F.ok scRd (fun vs H Q E h => ?_) (fun cdv A outer s H vs Q E hr h => ?_)
  · obtain ⟨t, many, ms, rfl, _⟩ := h
    rfl
  · obtain ⟨t, many, ms, rfl, hl, hrd, G, hTab, q⟩ := h
    have r2 : Room 2 _ := hr.mono (by decide)
    have hu5 : (A.deeper (envOfC "read" (defScope sRead) s.heap.objs.size f cdv)).units + 65 < cLine := by
      have := hr.un
      omega
    refine ⟨_, (pss_cons (ps_set (i := 1) scRd.nd rfl (.inl rfl) (pe_split (pv 0) pe_str))
      (pss_cons (ps_set (i := 2) scRd.nd rfl (.inl rfl) (pe_call GMy r2 (by rfl) DMy.g DMy.F.kp DMy.b .nil pass0 (pa_cons (pe_ix ix_list (pv 1) pe_int (fun _ _ => rfl)) pa_nil)))
      (pss_cons (ps_if (pt_cmpR op_isN (pv 2) pe_non (nomark _)) pss_never pss_nil)
      (pss_cons (ps_setLc (i := 3) (own := [("row", 4)]) (g := gName 4) (tt := tYes) (te := (tCall spMo [] E0 (tCons (tVar 4) tNil))) rfl scRd.nd rfl rfl (sw_true rfl rfl rfl (by decide +kernel)) (pi_list (pe_slice sl_list (pv 1) (po_some pe_int) po_none)) (blkOk_by (N := ["text", "rows", "many", "moves", "row"]) (sc := defScope sRead) (by decide +kernel)) (fun _ _ _ _ _ => by exact (pg_name (i := 4) scRd.nd rfl (.inl rfl))) (fun _ _ _ _ _ => pts_nil) (fun _ _ _ _ _ => by exact (pe_call GMo r2 (by rfl) DMo.g DMo.F.kp DMo.b .nil pass0 (pa_cons (pv 4) pa_nil))))
      (pss_cons (ps_if (pt_cmpR (op_inD hu5) pe_non (pv 3) (by with_unfolding_all rfl)) pss_never pss_nil)
      (pss_one (ps_ret (pe_make CH.mC GI hr (by rfl) CH.gC CH.bI .nil pass0 (pa_cons (pv 2) (pa_cons (pv 3) pa_nil)))))))))), ?_⟩
    refine ⟨.str t, rfl, ⟨_, rfl⟩, _, _, rfl, rfl, by decide +kernel, hl, fun p np => ?_⟩
    have hsl := PyProof.Rows.split_le t nlS
    have hpl : ∀ x ∈ Txt.split t nlS, x.length ≤ t.length := fun x hx => part_len hx
    obtain ⟨r, rs, es, hm, hms⟩ := readOf_told hrd
    have s1 := same_new (o := .lst ((Txt.split t nlS).map V.str)) np
    have hp : (upd H p (.lst ((Txt.split t nlS).map V.str))) p = some (.lst ((Txt.split t nlS).map V.str)) := upd_same
    show gName 1 (V.ref p) _ (upd H p (.lst ((Txt.split t nlS).map V.str))) _
    generalize upd H p (.lst ((Txt.split t nlS).map V.str)) = H1 at s1 hp ⊢
    rw [es] at hp hsl hpl
    refine ⟨.ref p, rfl, p, _, 0, _, rfl, rfl, SqL.of hp, atI_nat (j := 0) rfl, r, rfl, by have := hpl r List.mem_cons_self; omega, fun H2 s2 => ?_⟩
    rw [hm]
    refine ⟨.int (many : Int), rfl, rfl, false, by simp, iteF ?_⟩
    -- moves
    have hp2 := s2 _ _ hp
    refine ⟨.ref p, rfl, 1, rfl, p, _, rfl, SqL.of hp2, fun p2 np2 => ?_⟩
    have ec : cutV ((r :: rs).map V.str) (some 1) none = rs.map V.str := cut_from _ 1 (by rw [List.length_map, List.length_cons]; omega)
    rw [ec]
    have s3 := same_new (o := .lst (rs.map V.str)) np2
    have hp3 : (upd H2 p2 (.lst (rs.map V.str))) p2 = some (.lst (rs.map V.str)) := upd_same
    generalize upd H2 p2 (.lst (rs.map V.str)) = H3 at s3 hp3 ⊢
    refine ⟨p2, rfl, ⟨_, SqL.of hp3⟩, fun D nD => ?_⟩
    refine lc_list (K := K) (a := p2) (xs := rs.map V.str) (fun e H' => (∀ b o, b ≠ D → H3 b = some o → H' b = some o) ∧ ∃ vs, H' D = some (.lst vs) ∧ Paired (MoveOr H') vs ((rs.map moveOf).take e))
      ⟨fun b o nb e => by rw [upd_ne nb]; exact e, [], upd_same, by rw [List.take_zero]; exact .nil⟩ (fun e H' _ h => SqL.of (h.1 _ _ (ne_of_none hp3 nD) hp3)) ?_ ?_
    · rintro e v H4 hv ⟨k4, vs, hD, pv⟩
      rw [List.getElem?_map] at hv
      obtain ⟨x, hx, rfl⟩ := Option.map_eq_some_iff.mp hv
      have hx' := List.mem_of_getElem? hx
      have hxl := hpl x (List.mem_cons_of_mem _ hx')
      refine ⟨rfl, .str x, rfl, x, rfl, by omega, fun v H5 s5 hv5 => ?_⟩
      have hD5 := s5 _ _ hD
      have tk : ∀ b xs, H5 b = some (.tup xs) → (upd H5 D (.lst (vs ++ [v]))) b = some (.tup xs) := fun b xs e1 => by
        rw [upd_ne (fun z => by rw [z, hD5] at e1; cases e1)]
        exact e1
      refine ⟨vs, hD5, ?_, fun b o nb e1 => by rw [upd_ne nb]; exact s5 _ _ (k4 b o nb e1), vs ++ [v], upd_same, ?_⟩
      · have h1 := pv.length
        rw [List.length_take, List.length_map] at h1
        rw [List.length_cons] at hsl
        have := (List.getElem?_eq_some_iff.mp hx).1
        omega
      · rw [take_snoc (by rw [List.getElem?_map, hx]; rfl)]
        exact paired_end (hv5.same tk) (L2.Paired.mapP pv fun _ _ h => h.same fun b xs e1 => tk b xs (s5 _ _ e1))
    · rintro H4 ⟨k4, vs, hD, pv⟩
      rw [List.length_map, List.take_of_length_le (by rw [List.length_map]; exact Nat.le_refl _), movesOf_spec hms] at pv
      have hM := moves_or pv
      have k14 : Same H H4 := fun b o e => by
        have e3 := s3 _ _ (s2 _ _ (s1 _ _ e))
        exact k4 b o (ne_of_none e3 nD) e3
      refine ⟨.ref D, rfl, ?_⟩
      refine ⟨.none, _, .non, dp_mvs hD hM, rfl, (Sh.mvs ms).shaped (by decide), _, rfl, ?_⟩
      have e0 : ((ms.map mvD).any fun z => PyData.eqv z .none) = false := by
        rw [List.any_eq_false]
        intro d hd
        obtain ⟨m, _, rfl⟩ := List.mem_map.mp hd
        exact Bool.false_ne_true
      rw [e0]
      refine iteF ⟨_, rfl, .ref D, rfl, fun x dx nx ndx nxd => ?_⟩
      have s2' : Same H4 (upd H4 dx (.own x)) := same_new ndx
      have nx' : (upd H4 dx (.own x)) x = none := by
        rw [upd_ne (Ne.symm nxd)]
        exact nx
      have s3' := same_new (o := .ins C dx []) nx'
      have s := s2'.trans s3'
      have hTab4 := tab_same k14 hTab
      obtain ⟨ps, hT, htr⟩ := hTab4
      refine ⟨x, dx, D, many, vs, ms, rfl, upd_same, s _ _ hD, hM.same (Same.tups s), G, ⟨ps, s _ _ hT, htr⟩, fun H' hc g t' => ⟨rfl, ?_⟩⟩
      exact q H' x hc.at (k14.free nx) (fun b o nb e => g b o (ne_of_none (k14 _ _ e) nx) nb (s _ _ (k14 _ _ e))) t'
end
section
open PySem.W NdefX TL
variable {P : Program} {w : World} {K : PySem.W.Frag} {mg : Str → Option Value} {base : Heap}
/-! ### BadText.__init__ -/
theorem scBT : NScope ["self", "row", "__class__"] ["self", "row"] ["__class__"] (defScope (inClass cBadText 0)) := nscope_by (by decide +kernel)
def spBT (K : PySem.W.Frag) (C : Addr) : Sp := fun vs H Q _ => ∃ (x : Addr) (n : Int), vs = [.ref x, .int n] ∧ H x = some (exo x C none) ∧ n.natAbs ≤ 2000000 ∧ OexC K C ∧ PySem.W.findIn K (.ref C) "row" = some none ∧
  ∀ d H', (∀ b o, b ≠ x → H b = some o → H' b = some o) → H' x = some (exo x C (some d)) → H' d = some (exd d [("row", .int n)]) → H d = none → Q .non H'
theorem ok_bt {f C cc cda : Addr} {dV kV doc pm ct oc : Value} {an od : Option Addr} {osl : Array (Option Value)} (T : SupE P K C cc cda)
    (lk : K.lookup f = some ⟨oc, od, .func (fnX "__init__" "BadText.__init__" (defArgs (inClass cBadText 0)) (defBody (inClass cBadText 0)) (defScope (inClass cBadText 0)) [("__class__", cc)] dV kV doc pm an (.ref cda) ct), osl⟩) (hcd : codeIn K (.ref cda) "BadText.__init__" = true) :
    FnOk P w K mg base CX0 1 f (fnX "__init__" "BadText.__init__" (defArgs (inClass cBadText 0)) (defBody (inClass cBadText 0)) (defScope (inClass cBadText 0)) [("__class__", cc)] dV kV doc pm an (.ref cda) ct) ["self", "row"] (spBT K C) := by
  refine fn_sup T lk hcd scBT rfl rfl (by decide +kernel) (by decide +kernel) (fun env he => rfl) (fun env => rfl) (fun env => rfl) (fun env he => ?_) (fun env he => ?_) (fun vs H Q E h => ?_) (fun A outer s H vs Q E hr h => ?_)
  · unfold interactive
    rw [he]
    rfl
  · rfl
  · obtain ⟨x, n, rfl, _⟩ := h
    rfl
  · obtain ⟨x, n, rfl, hx, hn, TX, hno, q⟩ := h
    refine ⟨x, _, _, rfl, hx, pa_cons (pe_joined (.cons pe_str (.cons (pe_fmt (pv 1)) (.cons pe_str .nil)))) pa_nil, pss_one (ps_ost (pv 0) (pv 1)), ?_⟩
    have hg : n.natAbs.log2 < 1920 := log_small hn
    refine ⟨_, rfl, by decide, .int n, rfl, .inr ⟨_, rfl, hg, _, rfl, fitA (m := 100) (by decide) (int_len hg) (by decide), _, rfl, fitA (app_le (m := 100) (by decide) (int_len hg)) (n := 100) (by decide) (by decide), ?_⟩⟩
    refine ⟨by simp, hx, .int n, rfl, .ref x, rfl, x, C, rfl, TX, hno, .inl ⟨hx, fun dx ndx nxx => ?_⟩⟩
    refine q dx _ (fun b o nb e => ?_) upd_same (by rw [upd_ne nxx]; exact upd_same) ndx
    rw [upd_ne nb, upd_ne (ne_of_none e ndx)]
    exact e
end
section
open TL
variable {P : Program} {w : World} {K : PySem.W.Frag} {mg : Str → Option Value} {base : Heap} {C : Addr}
/-- an own error with an __init__ of its own, its field f -/
structure OwnI (K : PySem.W.Frag) (mg : Str → Option Value) (x : Str) (CE fI : Addr) (fd : FuncData) (ps : List Str) (fld : Str) : Prop where
  g : mg x = some (.ref CE)
  T : OexC K CE
  iC : PySem.W.findIn K (.ref CE) "__init__" = some (some (.ref fI))
  tI : PySem.W.typeIn K (.ref fI) = some (.type "function")
  no : PySem.W.findIn K (.ref CE) fld = some none
  b : Binds K fd ps []
theorem movesOf_bad : ∀ {rs : List Str} {k j : Nat}, movesOf rs k = .inl j → ∃ i, j = k + i ∧ (rs.map moveOf)[i]? = some none ∧ ∀ e, e < i → ∃ m, (rs.map moveOf)[e]? = some (some m)
  | [], _, _, h => by cases h
  | r :: rs, k, j, h => by
    unfold movesOf at h
    cases h1 : moveOf r with
    | none =>
      rw [h1] at h
      cases h
      exact ⟨0, rfl, by rw [List.map_cons, h1]; rfl, fun e he => absurd he (Nat.not_lt_zero _)⟩
    | some m =>
      rw [h1] at h
      cases h2 : movesOf rs (k + 1) with
      | inr ms => rw [h2] at h; cases h
      | inl j' =>
        rw [h2] at h
        cases h
        obtain ⟨i, e1, e2, e3⟩ := movesOf_bad h2
        refine ⟨i + 1, by omega, by rw [List.map_cons]; exact e2, fun e he => ?_⟩
        cases e with
        | zero => exact ⟨m, by rw [List.map_cons, h1]; rfl⟩
        | succ e =>
          rw [List.map_cons]
          exact e3 e (by omega)
theorem readOf_bad {t : Str} {k : Nat} (h : readOf t = .bad k) (ne : Txt.split t nlS ≠ []) : ∃ r rs, Txt.split t nlS = r :: rs ∧ ((manyOf r = none ∧ k = 0) ∨ ∃ many, manyOf r = some many ∧ movesOf rs 1 = .inl k) := by
  unfold readOf at h
  cases hs : Txt.split t nlS with
  | nil => exact absurd hs ne
  | cons r rs =>
    rw [hs] at h
    replace h : (match manyOf r with | none => ReadR.bad 0 | some many => match movesOf rs 1 with | .inl k => .bad k | .inr ms => .told many ms) = .bad k := h
    refine ⟨r, rs, rfl, ?_⟩
    cases h1 : manyOf r with
    | none => rw [h1] at h; cases h; exact .inl ⟨rfl, rfl⟩
    | some m =>
      rw [h1] at h
      replace h : (match movesOf rs 1 with | .inl k => ReadR.bad k | .inr ms => .told m ms) = .bad k := h
      cases h2 : movesOf rs 1 with
      | inr ms' => rw [h2] at h; cases h
      | inl j =>
        rw [h2] at h
        cases h
        exact .inr ⟨m, rfl, rfl⟩
def optD : Option Mv → PyData
  | none => .none
  | some m => mvD m
theorem dp_opts {K : PySem.W.Frag} {H : Hp} : ∀ {vs : List V} {os : List (Option Mv)}, Paired (MoveOr H) vs os → DpAll K H vs (os.map optD)
  | _, _, .nil => .nil
  | _, none :: _, .cons h r => .cons (by cases h; exact .non) (dp_opts r)
  | _, some m :: _, .cons h r => .cons (dp_mv h) (dp_opts r)
theorem Sh.opts (os : List (Option Mv)) : Sh 3 (.list (os.map optD)) := Sh.list fun d hd => by
  obtain ⟨o, _, rfl⟩ := List.mem_map.mp hd
  cases o with
  | none => exact Sh.none
  | some m => exact Sh.mv m
theorem spl_ne {S : List Nat} : ∀ (l acc : List Nat), spl S 0 acc l ≠ []
  | [], acc => by rw [spl_nil]; exact List.cons_ne_nil _ _
  | c :: r, acc => by
    cases h : pre S (c :: r) with
    | true => rw [spl_hit h]; exact List.cons_ne_nil _ _
    | false => rw [spl_miss h]; exact spl_ne r _
theorem split_ne (t : Str) : Txt.split t nlS ≠ [] := by
  intro h
  have := split_spl t nlS (by rw [tl_nlS]; exact List.cons_ne_nil _ _) (kind_ok (by decide +kernel))
  rw [h] at this
  exact spl_ne _ _ this.symm
/-- the refusal, as both rows of the text raise it -/
theorem raise_bt {H H1 : Hp} {CE : Addr} {k : Int} {E : XK} (s1 : Same H H1) (hk : k.natAbs ≤ 2000000) (T : OexC K CE) (no : PySem.W.findIn K (.ref CE) "row" = some none) (q : ∀ d H', Same H H' → H' d = some (.xd [("row", .int k)]) → E (.ref CE) (some d) H') :
    ∀ a, H1 a = none → spBT K CE [.ref a, .int k] (upd H1 a (exo a CE none)) (fun x H' => x = .non ∧ ∃ d fs, H' a = some (exo a CE (some d)) ∧ H' d = some (exd d fs) ∧ H1 d = none ∧ E (.ref CE) (some d) (upd (del H' a) d (.xd fs))) (fun _ _ _ => False) := by
  intro a na
  refine ⟨a, _, rfl, upd_same, hk, T, no, fun d H' kp hx hd nd => ?_⟩
  have nda : d ≠ a := fun z => by rw [z, upd_same] at nd; cases nd
  have nd1 : H1 d = none := by rw [upd_ne nda] at nd; exact nd
  refine ⟨rfl, d, _, hx, hd, nd1, ?_⟩
  refine q d _ (fun b o' e => ?_) upd_same
  have e1 := s1 _ _ e
  have nba : b ≠ a := ne_of_none e1 na
  rw [upd_ne (ne_of_none e1 nd1), del_ne nba]
  exact kp b o' nba (by rw [upd_ne nba]; exact e1)
/-- a row that can't be -/
def spRdT (CE : Addr) : Sp := fun vs H _ E => ∃ (t : Str) (k : Nat), vs = [.str t] ∧ t.length + 2 ≤ 1000000 ∧ readOf t = .bad k ∧ ∀ d H', Same H H' → H' d = some (.xd [("row", .int (k : Int))]) → E (.ref CE) (some d) H'
theorem ok_readT {f fY fO fB CE : Addr} {fd fdY fdO fdB : FuncData} (F : Fun K "read" "read" sRead f fd) (DMy : Df K mg "_many" sMany ["row"] fY fdY) (GMy : FnOk P w K mg base CX0 2 fY fdY ["row"] spMy) (DMo : Df K mg "_move" sMove ["row"] fO fdO) (GMo : FnOk P w K mg base CX0 2 fO fdO ["row"] spMo)
    (N : OwnI K mg "BadText" CE fB fdB ["self", "row"] "row") (GB : FnOk P w K mg base CX0 1 fB fdB ["self", "row"] (spBT K CE)) : FnOk P w K mg base (L2.CX P w) 4 f fd ["text"] (spRdT CE) := by
  refine F.okX scRd (fun vs H Q E h => ?_) (fun cdv A outer s H vs Q E hr h => ?_)
  · obtain ⟨t, k, rfl, _⟩ := h
    rfl
  · obtain ⟨t, k, rfl, hl, hrd, q⟩ := h
    have r2 : Room 2 _ := hr.mono (by decide)
    have hu5 : (A.deeper (envOfC "read" (defScope sRead) s.heap.objs.size f cdv)).units + 65 < cLine := by
      have := hr.un
      omega
    have hl' : t.length + 2 ≤ sizeLine := Nat.le_trans hl (by decide)
    obtain ⟨r, rs, es, hcase⟩ := readOf_bad hrd (split_ne t)
    have hsl := PyProof.Rows.split_le t nlS
    have hpl : ∀ x ∈ Txt.split t nlS, x.length ≤ t.length := fun x hx => part_len hx
    refine ⟨_, (pss_cons (ps_set (i := 1) scRd.nd rfl (.inl rfl) (pe_split (pv 0) pe_str))
      (pss_cons (ps_set (i := 2) scRd.nd rfl (.inl rfl) (pe_call GMy r2 (by rfl) DMy.g DMy.F.kp DMy.b .nil pass0 (pa_cons (pe_ix ix_list (pv 1) pe_int (fun _ _ => rfl)) pa_nil)))
      (pss_cons (ps_if (pt_cmpR op_isN (pv 2) pe_non (nomark _)) (pss_one (ps_raise rfl (takes_of rfl rfl rfl rfl) (pmk_oex N.T N.iC N.tI GB (hr.mono (by decide)) N.b .nil pass0 (by rfl) N.g (pa_cons pe_int pa_nil)))) pss_nil)
      (pss_cons (ps_setLc (i := 3) (own := [("row", 4)]) (g := gName 4) (tt := tYes) (te := (tCall spMo [] E0 (tCons (tVar 4) tNil))) rfl scRd.nd rfl rfl (sw_true rfl rfl rfl (by decide +kernel)) (pi_list (pe_slice sl_list (pv 1) (po_some pe_int) po_none)) (blkOk_by (N := ["text", "rows", "many", "moves", "row"]) (sc := defScope sRead) (by decide +kernel)) (fun _ _ _ _ _ => by exact (pg_name (i := 4) scRd.nd rfl (.inl rfl))) (fun _ _ _ _ _ => pts_nil) (fun _ _ _ _ _ => by exact (pe_call GMo r2 (by rfl) DMo.g DMo.F.kp DMo.b .nil pass0 (pa_cons (pv 4) pa_nil))))
      (pss_cons (ps_if (pt_cmpR (op_inD hu5) pe_non (pv 3) (by with_unfolding_all rfl)) (pss_one (ps_raise rfl (takes_of rfl rfl rfl rfl) (pmk_oex N.T N.iC N.tI GB (hr.mono (by decide)) N.b .nil pass0 (by rfl) N.g (pa_cons (pe_op op_add pe_int (pe_bm PySem.F.plainAttrs_list PySem.F.slot_list_index PySem.F.type_list_index (mt_indexD hu5) (pv 3) (pa_cons pe_non pa_nil))) pa_nil)))) pss_nil)
      pss_never))))), ?_⟩
    refine ⟨.str t, rfl, ⟨_, rfl⟩, _, _, rfl, rfl, by decide +kernel, hl', fun p np => ?_⟩
    have s1 := same_new (o := .lst ((Txt.split t nlS).map V.str)) np
    have hp : (upd H p (.lst ((Txt.split t nlS).map V.str))) p = some (.lst ((Txt.split t nlS).map V.str)) := upd_same
    show gName 1 (V.ref p) _ (upd H p (.lst ((Txt.split t nlS).map V.str))) _
    generalize upd H p (.lst ((Txt.split t nlS).map V.str)) = H1 at s1 hp ⊢
    rw [es] at hp hsl hpl
    refine ⟨.ref p, rfl, p, _, 0, _, rfl, rfl, SqL.of hp, atI_nat (j := 0) rfl, r, rfl, by have := hpl r List.mem_cons_self; omega, fun H2 s2 => ?_⟩
    rcases hcase with ⟨hm, rfl⟩ | ⟨many, hm, hms⟩
    · rw [hm]
      refine ⟨.non, rfl, rfl, true, by simp, iteT ?_⟩
      refine ⟨by show 1 ≤ 1000; decide, fun a na => ?_⟩
      exact raise_bt (s1.trans s2) (by decide) N.T N.no q a na
    rw [hm]
    refine ⟨.int many, rfl, rfl, false, by simp, iteF ?_⟩
    have hp2 := s2 _ _ hp
    refine ⟨.ref p, rfl, 1, rfl, p, _, rfl, SqL.of hp2, fun p2 np2 => ?_⟩
    have ec : cutV ((r :: rs).map V.str) (some 1) none = rs.map V.str := cut_from _ 1 (by rw [List.length_map, List.length_cons]; omega)
    rw [ec]
    have s3 := same_new (o := .lst (rs.map V.str)) np2
    have hp3 : (upd H2 p2 (.lst (rs.map V.str))) p2 = some (.lst (rs.map V.str)) := upd_same
    generalize upd H2 p2 (.lst (rs.map V.str)) = H3 at s3 hp3 ⊢
    refine ⟨p2, rfl, ⟨_, SqL.of hp3⟩, fun D nD => ?_⟩
    refine lc_list (K := K) (a := p2) (xs := rs.map V.str) (fun e H' => (∀ b o, b ≠ D → H3 b = some o → H' b = some o) ∧ ∃ vs, H' D = some (.lst vs) ∧ Paired (MoveOr H') vs ((rs.map moveOf).take e))
      ⟨fun b o nb e => by rw [upd_ne nb]; exact e, [], upd_same, by rw [List.take_zero]; exact .nil⟩ (fun e H' _ h => SqL.of (h.1 _ _ (ne_of_none hp3 nD) hp3)) ?_ ?_
    · rintro e v H4 hv ⟨k4, vs, hD, pv⟩
      rw [List.getElem?_map] at hv
      obtain ⟨x, hx, rfl⟩ := Option.map_eq_some_iff.mp hv
      have hx' := List.mem_of_getElem? hx
      have hxl := hpl x (List.mem_cons_of_mem _ hx')
      refine ⟨rfl, .str x, rfl, x, rfl, by omega, fun v H5 s5 hv5 => ?_⟩
      have hD5 := s5 _ _ hD
      have tk : ∀ b xs, H5 b = some (.tup xs) → (upd H5 D (.lst (vs ++ [v]))) b = some (.tup xs) := fun b xs e1 => by
        rw [upd_ne (fun z => by rw [z, hD5] at e1; cases e1)]
        exact e1
      refine ⟨vs, hD5, ?_, fun b o nb e1 => by rw [upd_ne nb]; exact s5 _ _ (k4 b o nb e1), vs ++ [v], upd_same, ?_⟩
      · have h1 := pv.length
        rw [List.length_take, List.length_map] at h1
        rw [List.length_cons] at hsl
        have := (List.getElem?_eq_some_iff.mp hx).1
        omega
      · rw [take_snoc (by rw [List.getElem?_map, hx]; rfl)]
        exact paired_end (hv5.same tk) (L2.Paired.mapP pv fun _ _ h => h.same fun b xs e1 => tk b xs (s5 _ _ e1))
    · rintro H4 ⟨k4, vs, hD, pv⟩
      rw [List.length_map, List.take_of_length_le (by rw [List.length_map]; exact Nat.le_refl _)] at pv
      have k14 : Same H H4 := fun b o e => by
        have e3 := s3 _ _ (s2 _ _ (s1 _ _ e))
        exact k4 b o (ne_of_none e3 nD) e3
      obtain ⟨j, ej, hj, hbef⟩ := movesOf_bad hms
      have hdj : ((rs.map moveOf).map optD)[j]? = some .none := by rw [List.getElem?_map, hj]; rfl
      refine ⟨.ref D, rfl, ?_⟩
      refine ⟨.none, _, .non, .lst (SqL.of hD) (dp_opts pv), rfl, (Sh.opts _).shaped (by decide), _, rfl, ?_⟩
      have e0 : (((rs.map moveOf).map optD).any fun z => PyData.eqv z .none) = true := List.any_eq_true.mpr ⟨_, List.mem_of_getElem? hdj, rfl⟩
      rw [e0]
      refine iteT ?_
      refine ⟨.ref D, rfl, .inl ⟨rfl, _, SqL.of hD⟩, D, .non, .none, _, j, .none, rfl, rfl, .lst (SqL.of hD) (dp_opts pv), .non, (Sh.opts _).shaped (by decide), rfl, hdj, rfl, fun m z' hm hz => ?_, ?_⟩
      · obtain ⟨mv, em⟩ := hbef m hm
        rw [List.getElem?_map, em] at hz
        cases hz
        rfl
      refine ⟨_, _, rfl, rfl, by show 1 ≤ 1000; decide, fun a na => ?_⟩
      have ek : (1 : Int) + (j : Int) = (k : Int) := by omega
      show spBT K CE [V.ref a, V.int ((1 : Int) + (j : Int))] _ _ _
      rw [ek]
      have hjl := (List.getElem?_eq_some_iff.mp hj).1
      rw [List.length_map] at hjl
      rw [List.length_cons] at hsl
      exact raise_bt k14 (by omega) N.T N.no q a na
/-- rows that are good, but no chain -/
theorem BadTold.of {many : Int} {ms : List Mv} (h : ∀ n : Nat, many = (n : Int) → ¬ Good n ms) (h0 : 0 ≤ many) : BadTold many ms := by
  unfold BadTold
  by_cases c1 : 1 ≤ many ∧ many ≤ 6
  · by_cases c2 : 1 ≤ ms.length ∧ ms.length ≤ 8
    · refine .inr (.inr (Classical.byContradiction fun c => h many.toNat (by omega) ⟨by omega, by omega, c2.1, c2.2, fun m hm => ?_⟩))
      have hi : isMv many m = true := by
        cases e : isMv many m with
        | true => rfl
        | false => exact absurd ⟨m, hm, e⟩ c
      unfold isMv inR at hi
      rw [Bool.and_eq_true, Bool.and_eq_true, decide_eq_true_iff, decide_eq_true_iff, List.all_eq_true] at hi
      refine ⟨hi.1.1.1, by have := hi.1.1.2; omega, by have := hi.1.2; omega, fun z hz => ?_⟩
      have := of_decide_eq_true (hi.2 z hz)
      omega
    · exact .inr (.inl c2)
  · exact .inl c1
variable {fM cM tM : Addr} {fdM : FuncData} {fI CB : Addr} {fdI : FuncData}
def spRdC (CB T : Addr) : Sp := fun vs H _ E => ∃ (t : Str) (many : Int) (ms : List Mv), vs = [.str t] ∧ t.length + 2 ≤ 1000000 ∧ readOf t = .told many ms ∧ BadTold many ms ∧ ms.length ≤ 1000 ∧ GxR.TabG H T ∧ ∀ H', Gr T H H' → GxR.TabG H' T → E (.ref CB) none H'
theorem many_rng {r : Str} {many : Int} (h : manyOf r = some many) : 0 ≤ many ∧ many < 100 := by
  unfold manyOf at h
  split at h
  · split at h
    · exact numOf_rng h
    · cases h
  · cases h
theorem ok_readC {f fY fO : Addr} {fd fdY fdO : FuncData} (F : Fun K "read" "read" sRead f fd) (DMy : Df K mg "_many" sMany ["row"] fY fdY) (GMy : FnOk P w K mg base CX0 2 fY fdY ["row"] spMy) (DMo : Df K mg "_move" sMove ["row"] fO fdO) (GMo : FnOk P w K mg base CX0 2 fO fdO ["row"] spMo)
    (CH : ChTxt K mg fM cM tM fdM C fI fdI) (NB : OwnE K mg "BadChain" CB) (TB : GxR.TabB base mg cM tM) : FnOk P w K mg base (L2.CX P w) 4 f fd ["text"] (spRdC CB tM) := by
  have GI : FnOk P w K mg base (L2.CX P w) 2 fI fdI ["self", "many", "moves"] (spInitX C CB tM) := ok_initX CH NB TB
  refine F.okX scRd (fun vs H Q E h => ?_) (fun cdv A outer s H vs Q E hr h => ?_)
  · obtain ⟨t, many, ms, rfl, _⟩ := h
    rfl
  · obtain ⟨t, many, ms, rfl, hl0, hrd, hbad, hml, hTab, q⟩ := h
    have r2 : Room 2 _ := hr.mono (by decide)
    have hu5 : (A.deeper (envOfC "read" (defScope sRead) s.heap.objs.size f cdv)).units + 65 < cLine := by
      have := hr.un
      omega
    have hl : t.length + 2 ≤ sizeLine := Nat.le_trans hl0 (by decide)
    refine ⟨_, (pss_cons (ps_set (i := 1) scRd.nd rfl (.inl rfl) (pe_split (pv 0) pe_str))
      (pss_cons (ps_set (i := 2) scRd.nd rfl (.inl rfl) (pe_call GMy r2 (by rfl) DMy.g DMy.F.kp DMy.b .nil pass0 (pa_cons (pe_ix ix_list (pv 1) pe_int (fun _ _ => rfl)) pa_nil)))
      (pss_cons (ps_if (pt_cmpR op_isN (pv 2) pe_non (nomark _)) pss_never pss_nil)
      (pss_cons (ps_setLc (i := 3) (own := [("row", 4)]) (g := gName 4) (tt := tYes) (te := (tCall spMo [] E0 (tCons (tVar 4) tNil))) rfl scRd.nd rfl rfl (sw_true rfl rfl rfl (by decide +kernel)) (pi_list (pe_slice sl_list (pv 1) (po_some pe_int) po_none)) (blkOk_by (N := ["text", "rows", "many", "moves", "row"]) (sc := defScope sRead) (by decide +kernel)) (fun _ _ _ _ _ => by exact (pg_name (i := 4) scRd.nd rfl (.inl rfl))) (fun _ _ _ _ _ => pts_nil) (fun _ _ _ _ _ => by exact (pe_call GMo r2 (by rfl) DMo.g DMo.F.kp DMo.b .nil pass0 (pa_cons (pv 4) pa_nil))))
      (pss_cons (ps_if (pt_cmpR (op_inD hu5) pe_non (pv 3) (by with_unfolding_all rfl)) pss_never pss_nil)
      (pss_one (ps_ret (pe_make CH.mC GI hr (by rfl) CH.gC CH.bI .nil (passes_call (takes_of rfl rfl rfl rfl) (fun _ _ _ _ h => h)) (pa_cons (pv 2) (pa_cons (pv 3) pa_nil)))))))))), ?_⟩
    refine ⟨.str t, rfl, ⟨_, rfl⟩, _, _, rfl, rfl, by decide +kernel, hl, fun p np => ?_⟩
    have hsl := PyProof.Rows.split_le t nlS
    have hpl : ∀ x ∈ Txt.split t nlS, x.length ≤ t.length := fun x hx => part_len hx
    obtain ⟨r, rs, es, hm, hms⟩ := readOf_told hrd
    have hmr := many_rng hm
    have s1 := same_new (o := .lst ((Txt.split t nlS).map V.str)) np
    have hp : (upd H p (.lst ((Txt.split t nlS).map V.str))) p = some (.lst ((Txt.split t nlS).map V.str)) := upd_same
    show gName 1 (V.ref p) _ (upd H p (.lst ((Txt.split t nlS).map V.str))) _
    generalize upd H p (.lst ((Txt.split t nlS).map V.str)) = H1 at s1 hp ⊢
    rw [es] at hp hsl hpl
    refine ⟨.ref p, rfl, p, _, 0, _, rfl, rfl, SqL.of hp, atI_nat (j := 0) rfl, r, rfl, by have := hpl r List.mem_cons_self; omega, fun H2 s2 => ?_⟩
    rw [hm]
    refine ⟨.int many, rfl, rfl, false, by simp, iteF ?_⟩
    -- moves
    have hp2 := s2 _ _ hp
    refine ⟨.ref p, rfl, 1, rfl, p, _, rfl, SqL.of hp2, fun p2 np2 => ?_⟩
    have ec : cutV ((r :: rs).map V.str) (some 1) none = rs.map V.str := cut_from _ 1 (by rw [List.length_map, List.length_cons]; omega)
    rw [ec]
    have s3 := same_new (o := .lst (rs.map V.str)) np2
    have hp3 : (upd H2 p2 (.lst (rs.map V.str))) p2 = some (.lst (rs.map V.str)) := upd_same
    generalize upd H2 p2 (.lst (rs.map V.str)) = H3 at s3 hp3 ⊢
    refine ⟨p2, rfl, ⟨_, SqL.of hp3⟩, fun D nD => ?_⟩
    refine lc_list (K := K) (a := p2) (xs := rs.map V.str) (fun e H' => (∀ b o, b ≠ D → H3 b = some o → H' b = some o) ∧ ∃ vs, H' D = some (.lst vs) ∧ Paired (MoveOr H') vs ((rs.map moveOf).take e))
      ⟨fun b o nb e => by rw [upd_ne nb]; exact e, [], upd_same, by rw [List.take_zero]; exact .nil⟩ (fun e H' _ h => SqL.of (h.1 _ _ (ne_of_none hp3 nD) hp3)) ?_ ?_
    · rintro e v H4 hv ⟨k4, vs, hD, pv⟩
      rw [List.getElem?_map] at hv
      obtain ⟨x, hx, rfl⟩ := Option.map_eq_some_iff.mp hv
      have hx' := List.mem_of_getElem? hx
      have hxl := hpl x (List.mem_cons_of_mem _ hx')
      refine ⟨rfl, .str x, rfl, x, rfl, by omega, fun v H5 s5 hv5 => ?_⟩
      have hD5 := s5 _ _ hD
      have tk : ∀ b xs, H5 b = some (.tup xs) → (upd H5 D (.lst (vs ++ [v]))) b = some (.tup xs) := fun b xs e1 => by
        rw [upd_ne (fun z => by rw [z, hD5] at e1; cases e1)]
        exact e1
      refine ⟨vs, hD5, ?_, fun b o nb e1 => by rw [upd_ne nb]; exact s5 _ _ (k4 b o nb e1), vs ++ [v], upd_same, ?_⟩
      · have h1 := pv.length
        rw [List.length_take, List.length_map] at h1
        rw [List.length_cons] at hsl
        have := (List.getElem?_eq_some_iff.mp hx).1
        omega
      · rw [take_snoc (by rw [List.getElem?_map, hx]; rfl)]
        exact paired_end (hv5.same tk) (L2.Paired.mapP pv fun _ _ h => h.same fun b xs e1 => tk b xs (s5 _ _ e1))
    · rintro H4 ⟨k4, vs, hD, pv⟩
      rw [List.length_map, List.take_of_length_le (by rw [List.length_map]; exact Nat.le_refl _), movesOf_spec hms] at pv
      have hM := moves_or pv
      have k14 : Same H H4 := fun b o e => by
        have e3 := s3 _ _ (s2 _ _ (s1 _ _ e))
        exact k4 b o (ne_of_none e3 nD) e3
      refine ⟨.ref D, rfl, ?_⟩
      refine ⟨.none, _, .non, dp_mvs hD hM, rfl, (Sh.mvs ms).shaped (by decide), _, rfl, ?_⟩
      have e0 : ((ms.map mvD).any fun z => PyData.eqv z .none) = false := by
        rw [List.any_eq_false]
        intro d hd
        obtain ⟨m, _, rfl⟩ := List.mem_map.mp hd
        exact Bool.false_ne_true
      rw [e0]
      refine iteF ⟨_, rfl, .ref D, rfl, fun x dx nx ndx nxd => ?_⟩
      have s2' : Same H4 (upd H4 dx (.own x)) := same_new ndx
      have nx' : (upd H4 dx (.own x)) x = none := by
        rw [upd_ne (Ne.symm nxd)]
        exact nx
      have s3' := same_new (o := .ins C dx []) nx'
      have s := s2'.trans s3'
      have hTab4 := tab_same k14 hTab
      obtain ⟨ps, hT, htr⟩ := hTab4
      exact ⟨x, dx, D, many, vs, ms, rfl, upd_same, s _ _ hD, hM.same (Same.tups s), hbad, by omega, hml, ⟨ps, s _ _ hT, htr⟩, fun H' g t' => q H' (fun b o nb e => g b o nb (s _ _ (k14 _ _ e))) t'⟩
end
section
open TL
variable {P : Program} {w : World} {K : PySem.W.Frag} {mg : Str → Option Value} {base : Heap} {C : Addr}
/-! ### the two refusals of a text, caught -/
structure RefT (K : PySem.W.Frag) (mg : Str → Option Value) (CL CT CB c1 c2 c3 c4 c5 : Addr) : Prop where
  gL : mg "LongError" = some (.ref CL)
  exT : PySem.W.exmOne K (.ref CT) (.ref CL) = some true
  exC : PySem.W.exmOne K (.ref CB) (.ref CL) = some true
  gT : mg "BadText" = some (.ref CT)
  gC : mg "BadChain" = some (.ref CB)
  ET : ExcC K CT
  EC : ExcC K CB
  g1 : mg "NeverOne" = some (.ref c1)
  g2 : mg "NoSuch" = some (.ref c2)
  g3 : mg "NotOne" = some (.ref c3)
  g4 : mg "NotOrdered" = some (.ref c4)
  g5 : mg "TooMany" = some (.ref c5)
  noT : PySem.W.kitAny K (.ref CT) [.ref c1, .ref c2, .ref c3, .ref c4, .ref c5] = some false
  noC : PySem.W.kitAny K (.ref CB) [.ref c1, .ref c2, .ref c3, .ref c4, .ref c5] = some false
  valT : PySem.W.kitOne K (.ref CT) (.type "ValueError") = some true
  valC : PySem.W.kitOne K (.ref CB) (.type "ValueError") = some true
  tt : PySem.W.kitOne K (.ref CT) (.ref CT) = some true
  tc : PySem.W.kitOne K (.ref CT) (.ref CB) = some false
  cc : PySem.W.kitOne K (.ref CB) (.ref CB) = some true
  ct : PySem.W.kitOne K (.ref CB) (.ref CT) = some false
  fld : PySem.W.findIn K (.ref CT) "row" = some none
  mi : mg "isinstance" = none
  mv : mg "ValueError" = none
  mb : mg "bool" = none
  mI : mg "int" = none
theorem excXf {K : PySem.W.Frag} {D : Addr} (E : ExcC K D) : XfC K D := ⟨E.hg, E.hk, E.hs, E.hd⟩
theorem pss_or {X : Cx} {ss : List Stmt} {t1 t2 : TS} {p1 p2 : Prop} (h1 : p1 → PSs X ss t1) (h2 : p2 → PSs X ss t2) : PSs X ss (fun D σ H => (p1 ∧ t1 D σ H) ∨ (p2 ∧ t2 D σ H)) := ⟨fun pins s σ H D I hh => by
  rcases hh with hh | hh
  · exact (h1 hh.1).run pins s σ H D I hh.2
  · exact (h2 hh.1).run pins s σ H D I hh.2⟩
def tpl5 (c1 c2 c3 c4 c5 : Addr) : TE := tTup (tCons (tC (.ref c1)) (tCons (tC (.ref c2)) (tCons (tC (.ref c3)) (tCons (tC (.ref c4)) (tCons (tC (.ref c5)) tNil)))))
end
section
open TL
variable {P : Program} {w : World} {K : PySem.W.Frag} {mg : Str → Option Value} {base : Heap} {C : Addr}
/-! ### plain texts -/
def Plain (t : Str) : Prop := ∀ c ∈ tl t, c < 128
theorem Plain.app {a b : Str} (ha : Plain a) (hb : Plain b) : Plain (a ++ b) := fun c hc => by
  rw [tl_append] at hc
  exact (List.mem_append.mp hc).elim (ha c) (hb c)
theorem Plain.cut {a : Str} (ha : Plain a) (lo hi : Option Int) : Plain (cutS a lo hi) := fun c hc => by
  unfold cutS at hc
  rw [tl_mk] at hc
  exact ha c (List.mem_of_mem_drop (List.mem_of_mem_take hc))
theorem joinL_mem {S : List Nat} {c : Nat} : ∀ {ps : List (List Nat)}, c ∈ joinL S ps → c ∈ S ∨ ∃ p ∈ ps, c ∈ p
  | [], h => nomatch h
  | [p], h => .inr ⟨p, List.mem_cons_self, h⟩
  | p :: q :: r, h => by
    have h' : c ∈ p ++ (S ++ joinL S (q :: r)) := h
    rcases List.mem_append.mp h' with h1 | h1
    · exact .inr ⟨p, List.mem_cons_self, h1⟩
    · rcases List.mem_append.mp h1 with h2 | h2
      · exact .inl h2
      · rcases joinL_mem h2 with h3 | ⟨z, hz, h3⟩
        · exact .inl h3
        · exact .inr ⟨z, List.mem_cons_of_mem _ hz, h3⟩
theorem joinL_part {S : List Nat} {c : Nat} {p : List Nat} (hc : c ∈ p) : ∀ {ps : List (List Nat)}, p ∈ ps → c ∈ joinL S ps
  | [], h => nomatch h
  | [q], h => by rw [← List.mem_singleton.mp h]; exact hc
  | a :: q :: r, h => by
    show c ∈ a ++ (S ++ joinL S (q :: r))
    rcases List.mem_cons.mp h with e | h
    · rw [← e]; exact List.mem_append_left _ hc
    · exact List.mem_append_right _ (List.mem_append_right _ (joinL_part hc h))
theorem Plain.join {y : Str} {ps : List Str} (hy : Plain y) (h : ∀ p ∈ ps, Plain p) : Plain (Txt.join y ps) := fun c hc => by
  rw [join_eq, tl_join] at hc
  rcases joinL_mem hc with h1 | ⟨p, hp, h1⟩
  · exact hy c h1
  · obtain ⟨q, hq, rfl⟩ := List.mem_map.mp hp
    exact h q hq c h1
theorem Plain.part {t y : Str} (ht : Plain t) : ∀ p ∈ Txt.split t y, Plain p := fun p hp c hc => by
  refine ht c ?_
  rw [← StrLaws.join_split t y, tl_join]
  exact joinL_part hc (List.mem_map.mpr ⟨p, hp, rfl⟩)
/-! ### _law_figure -/
def rNiS : V → V → Hp → VK → Prop := fun x y H Q => ∃ (c : Nat) (z : Str), x = .str ⟨#[c]⟩ ∧ y = .str z ∧ Q (.bl (!decide (c ∈ z.cps.toList))) H
theorem digits_in (c : Nat) : (c ∈ (Str.ofString "0123456789").cps.toList) ↔ (48 ≤ c ∧ c ≤ 57) := by
  have e : (Str.ofString "0123456789").cps.toList = [48, 49, 50, 51, 52, 53, 54, 55, 56, 57] := by decide +kernel
  rw [e]
  simp only [List.mem_cons, List.not_mem_nil, or_false]
  omega
def badD (c : Nat) : Bool := !decide (48 ≤ c ∧ c ≤ 57)
def sgnS (c : Nat) : Str := ⟨#[c]⟩
theorem dp_sgns (K : PySem.W.Frag) (H : Hp) : ∀ l : List Nat, DpAll K H (l.map fun c => V.str (sgnS c)) (l.map fun c => PyData.str (sgnS c))
  | [] => .nil
  | c :: l => .cons (.str _) (dp_sgns K H l)
theorem Sh.sgn (c : Nat) (h : c < 128) {n : Nat} : Sh n (.str (sgnS c)) := by
  refine ⟨?_, Nat.zero_le _⟩
  unfold sgnS
  simp [PyData.canLay0, PyData.strOk]
  omega
theorem filter_snocB {α : Type} {l : List α} {i : Nat} {x : α} {F : α → Bool} (h : l[i]? = some x) : (l.take (i + 1)).filter F = (l.take i).filter F ++ (if F x = true then [x] else []) := by
  rw [List.take_add_one, h, List.filter_append]
  cases hk : F x with
  | true => simp [hk]
  | false => simp [hk]
theorem int_nS : ∀ z, z < 100 → PySem.intText? (nS ((z : Nat) : Int)) = some (z : Int) := by decide +kernel
theorem scFg : FnScope ["_law_word_here", "_law_sign"] ["_law_word_here"] (defScope sLawFigure) := ⟨rfl, rfl, rfl, by decide +kernel, rfl, by decide +kernel, by decide +kernel⟩
def spFg : Sp := fun vs H Q _ => ∃ s : Str, vs = [.str s] ∧ s.length ≤ 1000000 ∧ Plain s ∧ ∀ H', Same H H' → Q (optV (numOf s)) H'
theorem ok_figure {k : Nat} {f : Addr} {fd : FuncData} (F : Fun K "_law_figure" "_law_figure" sLawFigure f fd) (ml : mg "len" = none) (mI : mg "int" = none) (mS : mg "str" = none) : FnOk P w K mg base CX0 (k + 1) f fd ["_law_word_here"] spFg := by
  refine F.ok scFg (fun vs H Q E h => ?_) (fun cdv A outer s H vs Q E hr h => ?_)
  · obtain ⟨s, rfl, _⟩ := h
    rfl
  · obtain ⟨t, rfl, hl, hp, q⟩ := h
    have hu := hu64 hr
    refine ⟨_, (pss_cons (ps_if (PW.pt (pw_or (pt_not (pt_chain op_lt op_lt pe_int (pe_callB call_len_str (by rfl) ml PySem.boot_len (pa_cons (pv 0) pa_nil)) pe_int)) (pw_or1 (pt_cmpR (op_neD hu) (pe_lc (own := [("_law_sign", 1)]) (g := gName 1) (tt := (tTest (tOp rNiS (tVar 1) (tC (.str "0123456789"))))) (te := (tVar 1)) rfl scFg.nd (pi_str (pv 0)) (blkOk_by (N := ["_law_word_here", "_law_sign"]) (sc := defScope sLawFigure) (by decide +kernel)) (fun _ _ _ _ _ => by exact (pg_name (i := 1) scFg.nd rfl (.inl rfl))) (fun _ _ _ _ _ => by exact (pts_one (pt_cmpR op_notIn_sign (pv 1) pe_str (by with_unfolding_all rfl)))) (fun _ _ _ _ _ => by exact (pv 1))) (pe_lst pa_nil) (nomark _))))) (pss_one (ps_ret pe_non)) pss_nil)
      (pss_one (ps_ret (pe_ifExp (pt_cmpR op_eq (pe_callTy call_str_int (by rfl) mS (by decide +kernel) (pa_cons (pe_callTy call_int_str (by rfl) mI (by decide +kernel) (pa_cons (pv 0) pa_nil)) pa_nil)) (pv 0) (nomark _)) (pe_callTy call_int_str (by rfl) mI (by decide +kernel) (pa_cons (pv 0) pa_nil)) pe_non)))), ?_⟩
    have hz : t.length ≤ sizeLine := Nat.le_trans hl (by decide)
    have hsz : t.cps.size = (tl t).length := len_tl t
    have bad : ¬ (0 < t.length ∧ t.length < 3 ∧ ∀ c ∈ tl t, 48 ≤ c ∧ c ≤ 57) → Q .non = Q (optV (numOf t)) := fun h => by
      cases e : numOf t with
      | none => rfl
      | some z => exact absurd (numOf_shape e) h
    refine ⟨.str t, rfl, t, rfl, hz, 0, _, rfl, rfl, _, rfl, ?_⟩
    by_cases c0 : (0 : Int) < (t.length : Int)
    case neg =>
      rw [decide_eq_false c0]
      refine iteF ⟨_, rfl, iteT (iteT ?_)⟩
      show Q .non H
      rw [bad fun z => c0 (by have := z.1; omega)]
      exact q H (Same.refl _)
    rw [decide_eq_true c0]
    refine iteT ⟨_, _, rfl, rfl, ?_⟩
    by_cases c3 : (t.length : Int) < 3
    case neg =>
      refine ⟨false, congrArg V.bl (decide_eq_false c3), iteT (iteT ?_)⟩
      show Q .non H
      rw [bad fun z => c3 (by have := z.2.1; omega)]
      exact q H (Same.refl _)
    refine ⟨true, congrArg V.bl (decide_eq_true c3), iteF ?_⟩
    refine ⟨.str t, rfl, t, rfl, fun D nD => ?_⟩
    refine lc_it walk_str (fun e H' => Same H H' ∧ H' D = some (.lst (((((tl t).take e).filter badD)).map fun c => V.str (sgnS c)))) ⟨same_new nD, by rw [upd_same]; rfl⟩ (fun _ _ _ _ => trivial) ?_ ?_
    · rintro e x H1 H2 he ⟨s1, hD⟩ ⟨rfl, c, hc, rfl⟩
      have hc' : (tl t)[e]? = some c := by
        unfold tl
        rw [Array.getElem?_toList]
        exact hc
      refine ⟨rfl, .str ⟨#[c]⟩, rfl, c, _, rfl, rfl, _, rfl, ?_⟩
      have eb : (!decide (c ∈ (Str.ofString "0123456789").cps.toList)) = badD c := by
        unfold badD
        rw [decide_eq_decide.mpr (digits_in c)]
      rw [eb, filter_snocB hc']
      refine ite2 (fun h => ?_) (fun h => ?_)
      · rw [if_pos h]
        refine ⟨.str ⟨#[c]⟩, rfl, _, hD, ?_, fun b o e1 => by rw [upd_ne (ne_of_none e1 nD)]; exact s1 _ _ e1, ?_⟩
        · rw [List.length_map]
          have h1 : ((List.take e (tl t)).filter badD).length ≤ (List.take e (tl t)).length := List.length_filter_le _ _
          rw [List.length_take, ← len_tl] at h1
          exact Nat.lt_of_le_of_lt (show _ ≤ 3 by omega) (by decide)
        · rw [upd_same, List.map_append]
          rfl
      · rw [if_neg h, List.append_nil]
        exact ⟨s1, hD⟩
    · rintro H1 ⟨s1, hD⟩
      rw [hsz, List.take_length] at hD
      refine ⟨by show 0 ≤ sizeLine; decide, fun e ne => ?_⟩
      have s2 := same_new (o := .lst []) ne
      have he : (upd H1 e (.lst [])) e = some (.lst []) := upd_same
      have hD2 := s2 _ _ hD
      have s12 := s1.trans s2
      show rNeD _ _ _ (upd H1 e (.lst [])) _
      generalize upd H1 e (.lst []) = H2 at s2 he hD2 s12 ⊢
      have sh : Sh 1 (.list (((tl t).filter badD).map fun c => PyData.str (sgnS c))) := Sh.list fun d hd => by
        obtain ⟨c, hc, rfl⟩ := List.mem_map.mp hd
        exact Sh.sgn c (hp c (List.mem_filter.mp hc).1)
      refine ⟨.list (((tl t).filter badD).map fun c => PyData.str (sgnS c)), .list [], .lst (SqL.of hD2) (dp_sgns K H2 _), .lst (SqL.of he) .nil, sh.shaped (by decide), rfl, _, rfl, ?_⟩
      cases hf : (tl t).filter badD with
      | cons c l =>
        refine iteT ?_
        show Q .non H2
        rw [bad fun z => ?_]
        · exact q H2 s12
        · have hc : c ∈ (tl t).filter badD := by rw [hf]; exact List.mem_cons_self
          obtain ⟨h1, h2⟩ := List.mem_filter.mp hc
          unfold badD at h2
          rw [decide_eq_true (z.2.2 c h1)] at h2
          cases h2
      | nil =>
        refine iteF ?_
        have hd : ∀ c ∈ tl t, 48 ≤ c ∧ c ≤ 57 := fun c hc => by
          by_cases h : 48 ≤ c ∧ c ≤ 57
          · exact h
          · have : c ∈ (tl t).filter badD := List.mem_filter.mpr ⟨hc, by unfold badD; rw [decide_eq_false h]; rfl⟩
            rw [hf] at this
            cases this
        obtain ⟨n, hn, hv⟩ := fig_val (w := t) (by omega) (by omega) hd
        have h640 : t.length ≤ 640 := by omega
        refine ⟨.str t, rfl, t, _, rfl, hv, h640, (n : Int), rfl, log_100 (by omega) (by omega), .str t, rfl, rfl, _, rfl, ?_⟩
        have q2 := q H2 s12
        refine ite2 (fun h => ?_) (fun h => ?_)
        · have e : nS (n : Int) = t := by
            have := of_decide_eq_true h
            injection this
          refine ⟨.str t, rfl, t, _, rfl, hv, h640, ?_⟩
          rw [← e, numOf_nS hn] at q2
          exact q2
        · cases e : numOf t with
          | none =>
            rw [e] at q2
            exact q2
          | some z =>
            refine absurd (decide_eq_true ?_) h
            obtain ⟨m, hm, em, _⟩ := numOf_some.mp e
            have h2 := int_nS m hm
            rw [← em, hv] at h2
            have h3 : (n : Int) = (m : Int) := Option.some.inj h2
            show V.str (nS (n : Int)) = V.str t
            rw [em, h3]
end
section
open TL
variable {P : Program} {w : World} {K : PySem.W.Frag} {mg : Str → Option Value} {base : Heap} {C : Addr}
/-! ### _law_move -/
theorem scMl : FnScope ["_law_words", "_law_weight", "_law_places", "_law_word_here"] ["_law_words"] (defScope sLawMove) := ⟨rfl, rfl, rfl, by decide +kernel, rfl, by decide +kernel, by decide +kernel⟩
/-- the move that words tell -/
def moveW : List Str → Option (Int × List Int)
  | a :: b :: c :: r => if a = mvS ∧ Txt.endswith b coS = true then pairO (numOf (cutS b none (some (-1)))) (numsOf (c :: r)) else none
  | _ => none
theorem moveOf_words (s : Str) : moveOf s = moveW (Txt.split s spS) := by
  unfold moveOf moveW
  rfl
def spMl : Sp := fun vs H Q _ => ∃ (l : Addr) (ws : List Str), vs = [.ref l] ∧ H l = some (.lst (ws.map V.str)) ∧ ws ≠ [] ∧ ws.length ≤ 100000 ∧ (∀ x ∈ ws, Plain x ∧ x.length ≤ 100000) ∧ ∀ v H', Same H H' → MoveOr H' v (moveW ws) → Q v H'
theorem last_co (b : Str) : cutS b (some (-1)) none = coS ↔ Txt.endswith b coS = true := by
  have e : tl (cutS b (some (-1)) none) = (tl b).drop (b.length - 1) := by
    unfold cutS
    rw [tl_mk]
    show ((tl b).drop (if (-1 : Int) < 0 then ((-1 : Int) + (b.length : Int)).toNat else min (-1 : Int).toNat b.length)).take (b.length - _) = _
    rw [if_pos (by decide)]
    have e1 : ((-1 : Int) + (b.length : Int)).toNat = b.length - 1 := by omega
    rw [e1, List.take_of_length_le]
    rw [List.length_drop, ← len_tl]
    show b.length - (b.length - 1) ≤ b.length - (if (-1 : Int) < 0 then ((-1 : Int) + (b.length : Int)).toNat else min (-1 : Int).toNat b.length)
    rw [if_pos (by decide), e1]
    exact Nat.le_refl _
  rw [ends_iff]
  constructor
  · intro h
    have h2 : tl (cutS b (some (-1)) none) = tl coS := by rw [h]
    rw [e, tl_coS] at h2
    rcases List.eq_nil_or_concat (tl b) with hl | ⟨l, c, hl⟩
    · rw [hl, List.drop_nil] at h2; cases h2
    · rw [len_tl, hl, List.concat_eq_append] at h2
      rw [List.length_append, show l.length + [c].length - 1 = l.length by simp, List.drop_left] at h2
      rw [hl, List.concat_eq_append, List.getLast?_concat]
      exact congrArg some (List.head_eq_of_cons_eq h2)
  · intro h
    apply ext_tl
    rw [e, tl_coS]
    obtain ⟨l, hl⟩ := List.getLast?_eq_some_iff.mp h
    rw [len_tl, hl, List.length_append, show l.length + [58].length - 1 = l.length by simp, List.drop_left]
theorem ok_lmove {f fG : Addr} {fd fdG : FuncData} (F : Fun K "_law_move" "_law_move" sLawMove f fd) (DFg : Df K mg "_law_figure" sLawFigure ["_law_word_here"] fG fdG) (ml : mg "len" = none) (mI : mg "int" = none) (mS : mg "str" = none) (mt : mg "tuple" = none) : FnOk P w K mg base CX0 2 f fd ["_law_words"] spMl := by
  have GFg : FnOk P w K mg base CX0 1 fG fdG ["_law_word_here"] spFg := ok_figure DFg.F ml mI mS
  refine F.ok scMl (fun vs H Q E h => ?_) (fun cdv A outer s H vs Q E hr h => ?_)
  · obtain ⟨l, ws, rfl, _⟩ := h
    rfl
  · obtain ⟨l, ws, rfl, hp, ne, hlen, hpl, q⟩ := h
    have r1 : Room 1 _ := hr.mono (by decide)
    refine ⟨_, (pss_cons (ps_if (PW.pt (pw_or (pt_cmpR op_ne (pe_ix ix_list (pv 0) pe_int (fun _ _ => rfl)) pe_str (nomark _)) (pw_or (pt_cmpR op_lt (pe_callB call_len_seq (by rfl) ml PySem.boot_len (pa_cons (pv 0) pa_nil)) pe_int (nomark _)) (pw_or1 (pt_cmpR op_ne (pe_slice sl_str (pe_ix ix_list (pv 0) pe_int (fun _ _ => rfl)) (po_some (pe_un un_neg pe_int)) po_none) pe_str (nomark _)))))) (pss_one (ps_ret pe_non)) pss_nil)
      (pss_cons (ps_par (i := 1) (j := 2) rfl scMl.nd rfl rfl (by decide) rfl rfl (pa_cons (pe_call GFg r1 (by rfl) DFg.g DFg.F.kp DFg.b .nil pass0 (pa_cons (pe_slice sl_str (pe_ix ix_list (pv 0) pe_int (fun _ _ => rfl)) po_none (po_some (pe_un un_neg pe_int))) pa_nil)) (pa_cons (pe_lc (own := [("_law_word_here", 3)]) (g := gName 3) (tt := tYes) (te := (tCall spFg [] E0 (tCons (tVar 3) tNil))) rfl scMl.nd (pi_list (pe_slice sl_list (pv 0) (po_some pe_int) po_none)) (blkOk_by (N := ["_law_words", "_law_weight", "_law_places", "_law_word_here"]) (sc := defScope sLawMove) (by decide +kernel)) (fun _ _ _ _ _ => by exact (pg_name (i := 3) scMl.nd rfl (.inl rfl))) (fun _ _ _ _ _ => pts_nil) (fun _ _ _ _ _ => by exact (pe_call GFg r1 (by rfl) DFg.g DFg.F.kp DFg.b .nil pass0 (pa_cons (pv 3) pa_nil)))) pa_nil)) (by rfl))
      (pss_one (ps_ret (pe_ifExp (PW.pt (pw_or (pt_cmpR op_isN (pv 1) pe_non (nomark _)) (pw_or1 (pt_cmpR op_in_seq pe_non (pv 2) (by with_unfolding_all rfl))))) pe_non (pe_tup (pa_cons (pv 1) (pa_cons (pe_callTy call_tuple_of (by rfl) mt (by decide +kernel) (pa_cons (pv 2) pa_nil)) pa_nil)))))))), ?_⟩
    have no : ∀ {H'}, Same H H' → moveW ws = none → Q .non H' := fun s1 e => q .non _ s1 (by rw [e]; rfl)
    obtain ⟨a, ws', rfl⟩ := List.exists_cons_of_ne_nil ne
    refine ⟨.ref l, rfl, l, _, 0, _, rfl, rfl, SqL.of hp, atI_nat (j := 0) rfl, rfl, _, rfl, ?_⟩
    have stc : ∀ {x y : Str}, (V.str x = V.str y) ↔ x = y := ⟨fun e => by injection e, fun e => by rw [e]⟩
    refine ite2 (fun h => iteT ?_) (fun h => ?_)
    · have ha : a ≠ mvS := fun e => by
        rw [e] at h
        revert h
        show ¬ ((!decide (V.str mvS = V.str mvS)) = true)
        simp
      refine no (Same.refl _) ?_
      match ws' with
      | [] => rfl
      | [_] => rfl
      | b :: c :: r => exact if_neg fun z => ha z.1
    have ha : a = mvS := by
      by_cases e : V.str a = V.str mvS
      · exact stc.mp e
      · exact absurd (show (!decide (V.str a = V.str mvS)) = true by rw [decide_eq_false e]; rfl) h
    refine ⟨.ref l, rfl, l, _, rfl, .inl (SqL.of hp), _, _, rfl, rfl, _, rfl, ite2 (fun h3 => iteT ?_) (fun h3 => ?_)⟩
    · have h3' := of_decide_eq_true h3
      rw [List.length_map] at h3'
      refine no (Same.refl _) ?_
      match ws', h3' with
      | [], _ => rfl
      | [_], _ => rfl
      | b :: c :: r, h3' =>
        rw [List.length_cons, List.length_cons, List.length_cons] at h3'
        omega
    match ws', h3 with
    | [], h3 => exact absurd (decide_eq_true (show ((1 : Nat) : Int) < 3 by decide)) h3
    | [b], h3 => exact absurd (decide_eq_true (show ((2 : Nat) : Int) < 3 by decide)) h3
    | b :: c :: r, _ =>
    have lb := hpl b (by simp)
    have zb : b.length ≤ sizeLine := Nat.le_trans lb.2 (by decide)
    refine ⟨.ref l, rfl, l, _, 1, _, rfl, rfl, SqL.of hp, atI_nat (j := 1) rfl, 1, rfl, -1, rfl, b, rfl, zb, rfl, _, rfl, ite2 (fun h4 => ?_) (fun h4 => ?_)⟩
    · refine no (Same.refl _) (if_neg fun z => ?_)
      rw [(last_co b).mpr z.2] at h4
      revert h4
      show ¬ ((!decide (V.str coS = V.str coS)) = true)
      simp
    have hb : Txt.endswith b coS = true := by
      by_cases e : V.str (cutS b (some (-1)) none) = V.str coS
      · exact (last_co b).mp (stc.mp e)
      · exact absurd (show (!decide (V.str (cutS b (some (-1)) none) = V.str coS)) = true by rw [decide_eq_false e]; rfl) h4
    have em : moveW (a :: b :: c :: r) = pairO (numOf (cutS b none (some (-1)))) (numsOf (c :: r)) := if_pos ⟨ha, hb⟩
    rw [em] at q
    have no : ∀ {H'}, Same H H' → pairO (numOf (cutS b none (some (-1)))) (numsOf (c :: r)) = none → Q .non H' := fun s1 e => q .non _ s1 (by rw [e]; rfl)
    refine ⟨.ref l, rfl, l, _, 1, _, rfl, rfl, SqL.of hp, atI_nat (j := 1) rfl, 1, rfl, -1, rfl, b, rfl, zb, _, rfl, Nat.le_trans (cutS_length _ _ _) (by omega), lb.1.cut _ _, fun H1 s1 => ?_⟩
    have hp1 := s1 _ _ hp
    refine ⟨.ref l, rfl, 2, rfl, l, _, rfl, SqL.of hp1, fun p2 np2 => ?_⟩
    have ec : cutV ((a :: b :: c :: r).map V.str) (some 2) none = (c :: r).map V.str := cut_from _ 2 (by rw [List.length_map, List.length_cons, List.length_cons]; omega)
    rw [ec]
    have s2 := same_new (o := .lst ((c :: r).map V.str)) np2
    have hp2 : (upd H1 p2 (.lst ((c :: r).map V.str))) p2 = some (.lst ((c :: r).map V.str)) := upd_same
    generalize upd H1 p2 (.lst ((c :: r).map V.str)) = H2 at s2 hp2 ⊢
    refine ⟨p2, rfl, ⟨_, SqL.of hp2⟩, fun D nD => ?_⟩
    refine lc_list (K := K) (a := p2) (xs := (c :: r).map V.str) (fun e H' => Same H2 H' ∧ H' D = some (.lst ((((c :: r).map numOf).take e).map optV))) ⟨same_new nD, upd_same⟩ (fun e H' _ h => SqL.of (h.1 _ _ hp2)) ?_ ?_
    · rintro e v H3 hv ⟨s3, hD⟩
      rw [List.getElem?_map] at hv
      obtain ⟨x, hx, rfl⟩ := Option.map_eq_some_iff.mp hv
      have hx' := hpl x (List.mem_cons_of_mem _ (List.mem_cons_of_mem _ (List.mem_of_getElem? hx)))
      refine ⟨rfl, .str x, rfl, x, rfl, Nat.le_trans hx'.2 (by decide), hx'.1, fun H4 s4 => ⟨_, s4 _ _ hD, ?_, fun b u eb => by rw [upd_ne (ne_of_none eb nD)]; exact s4 _ _ (s3 _ _ eb), ?_⟩⟩
      · rw [List.length_map, List.length_take, List.length_map]
        rw [List.length_cons, List.length_cons] at hlen
        have := (List.getElem?_eq_some_iff.mp hx).1
        rw [List.length_cons] at this hlen
        exact Nat.lt_of_le_of_lt (show _ ≤ 100000 by rw [List.length_cons]; omega) (by decide)
      · rw [upd_same, take_snoc (by rw [List.getElem?_map, hx]; rfl), List.map_append]
        rfl
    · rintro H3 ⟨s3, hD⟩
      rw [List.length_map, List.take_of_length_le (by rw [List.length_map]; exact Nat.le_refl _)] at hD
      have s13 := (s1.trans s2).trans s3
      refine ⟨_, _, rfl, ?_⟩
      cases hw : numOf (cutS b none (some (-1))) with
      | none =>
        rw [hw] at no
        exact ⟨.non, rfl, rfl, true, by simp, iteT (iteT (no s13 rfl))⟩
      | some wt =>
        rw [hw] at q no
        refine ⟨.int wt, rfl, rfl, false, by simp, iteF ?_⟩
        refine ⟨.ref D, rfl, D, _, rfl, .inl (SqL.of hD), rfl, flat_opts _, _, rfl, ?_⟩
        show if inV .non (((c :: r).map numOf).map optV) = true then _ else _
        rw [in_opts]
        cases hz : numsOf (c :: r) with
        | none =>
          rw [hz] at no
          rw [decide_eq_true (numsOf_none.mp hz)]
          exact iteT (no s13 rfl)
        | some zs =>
          rw [hz] at q
          have hn : ¬ (none ∈ (c :: r).map numOf) := fun h => by
            rw [numsOf_none.mpr h] at hz
            cases hz
          rw [decide_eq_false hn]
          refine iteF ⟨.int wt, rfl, .ref D, rfl, D, _, rfl, .inl ⟨SqL.of hD, fun T nT => ?_⟩⟩
          have s4 := same_new (o := .tup (((c :: r).map numOf).map optV)) nT
          have hT : (upd H3 T (.tup (((c :: r).map numOf).map optV))) T = some (.tup (((c :: r).map numOf).map optV)) := upd_same
          refine ⟨by show 2 ≤ sizeLine; decide, fun T2 nT2 => ?_⟩
          have s5 := same_new (o := .tup [V.int wt, V.ref T]) nT2
          refine q _ _ ((s13.trans s4).trans s5) ⟨T2, T, rfl, upd_same, ?_⟩
          refine (s5 _ _ hT).trans ?_
          rw [numsOf_some hz, List.map_map]
          rfl
end
section
open TL
variable {P : Program} {w : World} {K : PySem.W.Frag} {mg : Str → Option Value} {base : Heap} {C : Addr}
/-! ### _law_read -/
def rSplit : V → List V → Hp → VK → Prop := fun x xs H Q => ∃ a b, x = .str a ∧ xs = [.str b] ∧ (b.length == 0) = false ∧ a.length + 2 ≤ sizeLine ∧ rNewStrs (Txt.split a b) H Q
theorem scLr : FnScope ["_law_text", "_law_rows", "_law_moves", "_law_row", "_law_line"] ["_law_text"] (defScope sLawRead) := ⟨rfl, rfl, rfl, by decide +kernel, rfl, by decide +kernel, by decide +kernel⟩
theorem movesOf_all : ∀ {rs : List Str} {k : Nat} {ms : List (Int × List Int)}, rs.map moveOf = ms.map some → movesOf rs k = .inr ms
  | [], _, [], _ => rfl
  | [], _, _ :: _, h => nomatch h
  | _ :: _, _, [], h => nomatch h
  | r :: rs, k, m :: ms, h => by
    rw [List.map_cons, List.map_cons] at h
    injection h with h1 h2
    unfold movesOf
    rw [h1, movesOf_all h2]
theorem movesOf_at : ∀ {rs : List Str} {k i : Nat} {ms : List (Int × List Int)}, (rs.take i).map moveOf = ms.map some → (rs.map moveOf)[i]? = some none → movesOf rs k = .inl (k + i)
  | [], _, _, _, _, h => by simp at h
  | r :: rs, k, 0, _, _, h => by
    have e : moveOf r = none := by simpa using h
    unfold movesOf
    rw [e]
    rfl
  | r :: rs, k, i + 1, [], h, _ => by simp at h
  | r :: rs, k, i + 1, m :: ms, h, h2 => by
    rw [List.take_succ_cons, List.map_cons, List.map_cons] at h
    injection h with h0 h1
    unfold movesOf
    rw [h0, movesOf_at (k := k + 1) h1 (by simpa using h2), Nat.add_right_comm]
    rfl
theorem split_neS (t : Str) : Txt.split t spS ≠ [] := by
  intro h
  have := split_spl t spS (by rw [tl_spS]; exact List.cons_ne_nil _ _) (kind_ok (by decide +kernel))
  rw [h] at this
  exact spl_ne _ _ this.symm
theorem pget2 {α β : Type} {F : α → β → Prop} : ∀ {l₁ : List α} {l₂ : List β} {i : Nat} {b : β}, Paired F l₁ l₂ → l₂[i]? = some b → ∃ a, l₁[i]? = some a ∧ F a b
  | _, _, _, _, .nil, h => by simp at h
  | _, _, 0, b, .cons h _, e => by
    simp at e
    subst e
    exact ⟨_, rfl, h⟩
  | _, _, i + 1, b, .cons _ t, e => by
    obtain ⟨a, h1, h2⟩ := pget2 (i := i) t (by simpa using e)
    exact ⟨a, by simpa using h1, h2⟩
def WordsAt (D : Addr) (H : Hp) (v : V) (s : Str) : Prop := ∃ p, v = .ref p ∧ p ≠ D ∧ H p = some (.lst ((Txt.split s spS).map V.str))
def manyW : List Str → Option Int
  | [a, b] => if a = plS then numOf b else none
  | _ => none
theorem manyOf_words (s : Str) : manyOf s = manyW (Txt.split s spS) := by
  unfold manyOf manyW
  rfl
/-- what a text tells, as the law has it -/
def LRead (H : Hp) (v : V) : ReadR → Prop
  | .bad k => ∃ t, v = .ref t ∧ H t = some (.tup [.int (k : Int), .non])
  | .told many ms => ∃ t u m vs, v = .ref t ∧ H t = some (.tup [.non, .ref u]) ∧ H u = some (.tup [.int many, .ref m]) ∧ H m = some (.lst vs) ∧ MovesAt H vs ms
def spLr : Sp := fun vs H Q _ => ∃ s : Str, vs = [.str s] ∧ s.length ≤ 90000 ∧ Plain s ∧ ∀ v H', Same H H' → LRead H' v (readOf s) → Q v H'
theorem ok_lread {f fG fM : Addr} {fd fdG fdM : FuncData} (F : Fun K "_law_read" "_law_read" sLawRead f fd) (DFg : Df K mg "_law_figure" sLawFigure ["_law_word_here"] fG fdG) (DMl : Df K mg "_law_move" sLawMove ["_law_words"] fM fdM) (ml : mg "len" = none) (mr : mg "range" = none) (mI : mg "int" = none) (mS : mg "str" = none) (mt : mg "tuple" = none) : FnOk P w K mg base CX0 3 f fd ["_law_text"] spLr := by
  have GFg : FnOk P w K mg base CX0 1 fG fdG ["_law_word_here"] spFg := ok_figure DFg.F ml mI mS
  have GMl : FnOk P w K mg base CX0 2 fM fdM ["_law_words"] spMl := ok_lmove DMl.F DFg ml mI mS mt
  refine F.ok scLr (fun vs H Q E h => ?_) (fun cdv A outer s H vs Q E hr h => ?_)
  · obtain ⟨l, rfl, _⟩ := h
    rfl
  · obtain ⟨t, rfl, hl, hp, q⟩ := h
    have r1 : Room 1 _ := hr.mono (by decide)
    have r2 : Room 2 _ := hr.mono (by decide)
    refine ⟨_, (pss_cons (ps_setLc (i := 1) (own := [("_law_line", 4)]) (g := gName 4) (tt := tYes) (te := (tM1 rSplit (tVar 4) (tC (.str " ")))) rfl scLr.nd rfl rfl (sw_true rfl rfl rfl (by decide +kernel)) (pi_list (pe_split (pv 0) pe_str)) (blkOk_by (N := ["_law_text", "_law_rows", "_law_moves", "_law_row", "_law_line"]) (sc := defScope sLawRead) (by decide +kernel)) (fun _ _ _ _ _ => by exact (pg_name (i := 4) scLr.nd rfl (.inl rfl))) (fun _ _ _ _ _ => pts_nil) (fun _ _ _ _ _ => by exact (pe_split (pv 4) pe_str)))
      (pss_cons (ps_if (PW.pt (pw_or (pt_cmpR op_ne (pe_callB call_len_seq (by rfl) ml PySem.boot_len (pa_cons (pe_ix ix_list (pv 1) pe_int (fun _ _ => rfl)) pa_nil)) pe_int (nomark _)) (pw_or (pt_cmpR op_ne (pe_ix ix_list (pe_ix ix_list (pv 1) pe_int (fun _ _ => rfl)) pe_int (fun _ _ => rfl)) pe_str (nomark _)) (pw_or1 (pt_cmpR op_isN (pe_call GFg r1 (by rfl) DFg.g DFg.F.kp DFg.b .nil pass0 (pa_cons (pe_ix ix_list (pe_ix ix_list (pv 1) pe_int (fun _ _ => rfl)) pe_int (fun _ _ => rfl)) pa_nil)) pe_non (nomark _)))))) (pss_one (ps_ret (pe_tup (pa_cons pe_int (pa_cons pe_non pa_nil))))) pss_nil)
      (pss_cons (ps_set (i := 2) scLr.nd rfl (.inl rfl) (pe_lst pa_nil))
      (pss_cons (ps_for PassesOwn.never rfl (pi_range2 (by rfl) mr (pa_cons pe_int (pa_cons (pe_callB call_len_seq (by rfl) ml PySem.boot_len (pa_cons (pv 1) pa_nil)) pa_nil))) (pg_name (i := 3) scLr.nd rfl (.inl rfl)) (pss_cons (ps_if (pt_cmpR op_isN (pe_call GMl r2 (by rfl) DMl.g DMl.F.kp DMl.b .nil pass0 (pa_cons (pe_ix ix_list (pv 1) (pv 3) (fun _ _ => rfl)) pa_nil)) pe_non (nomark _)) (pss_one (ps_ret (pe_tup (pa_cons (pv 3) (pa_cons pe_non pa_nil))))) pss_nil)
      (pss_one (ps_expr (pe_bm PySem.F.plainAttrs_list PySem.F.slot_list_append PySem.F.type_list_append mt_append (pv 2) (pa_cons (pe_call GMl r2 (by rfl) DMl.g DMl.F.kp DMl.b .nil pass0 (pa_cons (pe_ix ix_list (pv 1) (pv 3) (fun _ _ => rfl)) pa_nil)) pa_nil))))))
      (pss_one (ps_ret (pe_tup (pa_cons pe_non (pa_cons (pe_tup (pa_cons (pe_call GFg r1 (by rfl) DFg.g DFg.F.kp DFg.b .nil pass0 (pa_cons (pe_ix ix_list (pe_ix ix_list (pv 1) pe_int (fun _ _ => rfl)) pe_int (fun _ _ => rfl)) pa_nil)) (pa_cons (pv 2) pa_nil))) pa_nil))))))))), ?_⟩
    have hsl := PyProof.Rows.split_le t nlS
    have hpl : ∀ x ∈ Txt.split t nlS, x.length ≤ t.length ∧ Plain x := fun x hx => ⟨part_len hx, hp.part x hx⟩
    obtain ⟨r0, rs, es⟩ := List.exists_cons_of_ne_nil (split_ne t)
    have er : readOf t = match manyOf r0 with | none => .bad 0 | some many => match movesOf rs 1 with | .inl k => .bad k | .inr ms => .told many ms := by
      unfold readOf
      rw [es]
      try rfl
    refine ⟨.str t, rfl, ⟨_, rfl⟩, _, _, rfl, rfl, by decide +kernel, Nat.le_trans (show t.length + 2 ≤ 90002 by omega) (by decide), fun p np => ?_⟩
    refine ⟨p, rfl, ⟨_, SqL.of upd_same⟩, ?_⟩
    generalize eH : upd H p (.lst ((Txt.split t (Str.ofString "\n")).map V.str)) = H1
    have s1 : Same H H1 := by rw [← eH]; exact same_new np
    have hp1 : H1 p = some (.lst ((Txt.split t nlS).map V.str)) := by rw [← eH]; exact upd_same
    intro D nD
    refine lc_list (K := K) (a := p) (xs := (Txt.split t nlS).map V.str) (fun e H' => (∀ b o, b ≠ D → H1 b = some o → H' b = some o) ∧ ∃ vs, H' D = some (.lst vs) ∧ Paired (WordsAt D H') vs ((Txt.split t nlS).take e))
      ⟨fun b o nb e => by rw [upd_ne nb]; exact e, [], upd_same, by rw [List.take_zero]; exact .nil⟩ (fun e H' _ h => SqL.of (h.1 _ _ (ne_of_none hp1 nD) hp1)) ?_ ?_
    · rintro e v H2 hv ⟨k2, vs, hD, pv⟩
      rw [List.getElem?_map] at hv
      obtain ⟨x, hx, rfl⟩ := Option.map_eq_some_iff.mp hv
      have hx' := hpl x (List.mem_of_getElem? hx)
      refine ⟨rfl, .str x, rfl, ⟨_, rfl⟩, x, _, rfl, rfl, by decide +kernel, Nat.le_trans (show x.length + 2 ≤ 90002 by omega) (by decide), fun p2 np2 => ?_⟩
      have s3 := same_new (o := .lst ((Txt.split x spS).map V.str)) np2
      have hp3 : (upd H2 p2 (.lst ((Txt.split x spS).map V.str))) p2 = some (.lst ((Txt.split x spS).map V.str)) := upd_same
      show ∃ acc, (upd H2 p2 (.lst ((Txt.split x spS).map V.str))) D = some (.lst acc) ∧ _
      have nDp : p2 ≠ D := fun z => by rw [z, hD] at np2; cases np2
      refine ⟨vs, s3 _ _ hD, ?_, fun b o nb e => ?_, vs ++ [.ref p2], upd_same, ?_⟩
      · have h1 := pv.length
        rw [List.length_take] at h1
        have := (List.getElem?_eq_some_iff.mp hx).1
        exact Nat.lt_of_le_of_lt (show _ ≤ 90001 by omega) (by decide)
      · rw [upd_ne nb]
        exact s3 _ _ (k2 b o nb e)
      · rw [take_snoc hx]
        refine paired_end ⟨p2, rfl, nDp, by rw [upd_ne nDp]; exact upd_same⟩ (L2.Paired.mapP pv fun _ _ ⟨b, e1, e2, e3⟩ => ⟨b, e1, e2, by rw [upd_ne e2]; exact s3 _ _ e3⟩)
    · rintro H2 ⟨k2, vs, hD, pv⟩
      rw [List.length_map, List.take_length, es] at pv
      have s12 : Same H H2 := fun b o e => k2 b o (ne_of_none (s1 _ _ e) nD) (s1 _ _ e)
      obtain ⟨v0, vs', rfl⟩ : ∃ v0 vs', vs = v0 :: vs' := by
        cases pv with
        | cons _ _ => exact ⟨_, _, rfl⟩
      obtain ⟨w0, rfl, nw0, hw0⟩ : WordsAt D H2 v0 r0 := by
        cases pv with
        | cons h _ => exact h
      have pv' : Paired (WordsAt D H2) vs' rs := by
        cases pv with
        | cons _ h => exact h
      have h0 := hpl r0 (by rw [es]; exact List.mem_cons_self)
      have hrs : ∀ x ∈ rs, x.length ≤ t.length ∧ Plain x := fun x hx => hpl x (by rw [es]; exact List.mem_cons_of_mem _ hx)
      rw [es, List.length_cons] at hsl
      -- the first row
      have ix0 : ∀ {H' : Hp} {Q' : VK}, Same H2 H' → Q' (.ref w0) H' → (rIxL K) (.ref D) (.int 0) H' Q' := fun s q => ⟨D, _, 0, _, rfl, rfl, SqL.of (s _ _ hD), atI_nat (j := 0) rfl, q⟩
      refine ⟨.ref D, rfl, D, _, 0, _, rfl, rfl, SqL.of hD, atI_nat (j := 0) rfl, w0, _, rfl, .inl (SqL.of hw0), rfl, _, rfl, ?_⟩
      rw [List.length_map]
      rw [manyOf_words] at er
      have hws := hpl r0 (by rw [es]; exact List.mem_cons_self)
      have hw1 : ∀ x ∈ Txt.split r0 spS, x.length ≤ r0.length ∧ Plain x := fun x hx => ⟨part_len hx, hws.2.part x hx⟩
      have bad0 : manyW (Txt.split r0 spS) = none → ∀ {H'}, Same H H' → ∀ T, H' T = none → Q (.ref T) (upd H' T (.tup [.int 0, .non])) := fun e H' s T nT => by
        rw [e] at er
        refine q _ _ (s.trans (same_new nT)) ?_
        rw [er]
        exact ⟨T, rfl, upd_same⟩
      generalize Txt.split r0 spS = ws at hw0 er hw1 bad0 ⊢
      refine ite2 (fun h => iteT ?_) (fun h => ?_)
      · refine ⟨(by show 2 ≤ sizeLine; decide), fun T nT => bad0 ?_ s12 T nT⟩
        match ws, h with
        | [], _ => rfl
        | [_], _ => rfl
        | [a, b], h => exact absurd h (by show ¬ ((!decide (V.int ((2 : Nat) : Int) = V.int 2)) = true); simp)
        | _ :: _ :: _ :: _, _ => rfl
      match ws, h with
      | [], h => exact absurd (show (!decide (V.int ((0 : Nat) : Int) = V.int 2)) = true by decide) h
      | [a], h => exact absurd (show (!decide (V.int ((1 : Nat) : Int) = V.int 2)) = true by decide) h
      | a :: b :: c :: r, h => 
        refine absurd ?_ h
        show (!decide (V.int (((r.length + 1 + 1 + 1 : Nat)) : Int) = V.int 2)) = true
        rw [decide_eq_false fun z => by injection z with z; omega]
        rfl
      | [a, b], _ =>
      refine ⟨.ref D, rfl, D, _, 0, _, rfl, rfl, SqL.of hD, atI_nat (j := 0) rfl, w0, _, 0, _, rfl, rfl, SqL.of hw0, atI_nat (j := 0) rfl, rfl, _, rfl, ite2 (fun h => iteT ?_) (fun h => ?_)⟩
      · refine ⟨(by show 2 ≤ sizeLine; decide), fun T nT => bad0 (if_neg fun ha => ?_) s12 T nT⟩
        rw [ha] at h
        revert h
        show ¬ ((!decide (V.str plS = V.str plS)) = true)
        simp
      have ha : a = plS := by
        by_cases e : V.str a = V.str plS
        · injection e
        · exact absurd (show (!decide (V.str a = V.str plS)) = true by rw [decide_eq_false e]; rfl) h
      have em : manyW [a, b] = numOf b := if_pos ha
      rw [em] at er bad0
      have hb := hw1 b (by simp)
      refine ⟨.ref D, rfl, D, _, 0, _, rfl, rfl, SqL.of hD, atI_nat (j := 0) rfl, w0, _, 1, _, rfl, rfl, SqL.of hw0, atI_nat (j := 1) rfl, b, rfl, by omega, hb.2, fun H3 s3 => ?_⟩
      cases hn : numOf b with
      | none =>
        exact ⟨rfl, true, by show V.bl (decide (V.non = V.non)) = _; simp, iteT ⟨(by show 2 ≤ sizeLine; decide), fun T nT => bad0 hn (s12.trans s3) T nT⟩⟩
      | some many =>
      rw [hn] at er
      refine ⟨rfl, false, by show V.bl (decide (V.int many = V.non)) = _; simp, iteF ?_⟩
      -- moves
      have hD3 := s3 _ _ hD
      refine ⟨(by show 0 ≤ sizeLine; decide), fun M nM => ?_⟩
      have s4 := same_new (o := .lst []) nM
      have hM4 : (upd H3 M (.lst [])) M = some (.lst []) := upd_same
      show tSeq _ _ _ _ (upd H3 M (.lst []))
      generalize upd H3 M (.lst []) = H4 at s4 hM4 ⊢
      have s24 := s3.trans s4
      have hD4 := s4 _ _ hD3
      have nMD : M ≠ D := fun z => by rw [z, hD3] at nM; cases nM
      have lv := pv'.length
      refine ⟨.ref D, rfl, D, _, rfl, .inl (SqL.of hD4), 1, _, rfl, ?_⟩
      have en : (((V.ref w0 :: vs').length : Int) - 1).toNat = rs.length := by rw [List.length_cons]; omega
      refine ⟨⟨by decide, by decide, by omega, ?_⟩, ?_⟩
      · rw [List.length_cons]
        omega
      refine for_range (lo := 1) (n := (((V.ref w0 :: vs').length : Int) - 1).toNat)
        (fun i σ H' => ∃ y3, σ = [some (.str t), some (.ref D), some (.ref M), y3, none] ∧ (∀ b o, b ≠ M → H4 b = some o → H' b = some o) ∧ ∃ us ms, H' M = some (.lst us) ∧ MovesAt H' us ms ∧ (rs.take i).map moveOf = ms.map some)
        ⟨none, rfl, fun _ _ _ e => e, [], [], hM4, .nil, by rw [List.take_zero]; rfl⟩ ?_ ?_
      · rintro i σ H5 hi ⟨y3, rfl, k5, us, ms, hM5, hMs, hms⟩
        rw [en] at hi
        have er' : ∃ x, rs[i]? = some x := ⟨_, List.getElem?_eq_getElem hi⟩
        obtain ⟨x, hx⟩ := er'
        obtain ⟨vx, hvx, w, rfl, nwD, hw⟩ : ∃ vx, vs'[i]? = some vx ∧ WordsAt D H2 vx x := pget2 pv' hx
        have hD5 := k5 _ _ (Ne.symm nMD) hD4
        have hw4 := s24 _ _ hw
        have nwM : w ≠ M := fun z => by rw [z] at hw; rw [s3 _ _ hw] at nM; cases nM
        have hw5 := k5 _ _ nwM hw4
        have hx' := hrs x (List.mem_of_getElem? hx)
        have hsx := PyProof.Rows.split_le x spS
        have atR : ∀ {H' : Hp} {Q' : VK}, H' D = some (.lst (.ref w0 :: vs')) → Q' (.ref w) H' → (rIxL K) (.ref D) (.int (1 + (i : Int))) H' Q' := fun h q => ⟨D, _, (1 + (i : Int)), _, rfl, rfl, SqL.of h, at_of (j := i + 1) (by omega) (by rw [List.getElem?_cons_succ]; exact hvx), q⟩
        have arg : ∀ {Q' : VK} {H'}, H' w = some (.lst ((Txt.split x spS).map V.str)) → (∀ v H'', Same H' H'' → MoveOr H'' v (moveOf x) → Q' v H'') → spMl [.ref w] H' Q' E0 := fun {Q' H'} h q => ⟨w, _, rfl, h, split_neS x, by omega, fun z hz => ⟨hx'.2.part z hz, by have := part_len hz; omega⟩, fun v H'' s m => q v H'' s (by rw [moveOf_words]; exact m)⟩
        refine ⟨.ref D, rfl, .int (1 + (i : Int)), rfl, atR hD5 (arg hw5 fun v H6 s6 hv6 => ?_)⟩
        have k46 : ∀ b o, b ≠ M → H4 b = some o → H6 b = some o := fun b o nb e => s6 _ _ (k5 b o nb e)
        have s06 : Same H H6 := fun b o e => k46 b o (ne_of_none (s3 _ _ (s12 _ _ e)) nM) (s24 _ _ (s12 _ _ e))
        cases hmx : moveOf x with
        | none =>
          rw [hmx] at hv6
          cases hv6
          refine ⟨rfl, true, by show V.bl (decide (V.non = V.non)) = _; simp, iteT ⟨.int (1 + (i : Int)), rfl, (by show 2 ≤ sizeLine; decide), fun T nT => ?_⟩⟩
          refine q _ _ (s06.trans (same_new nT)) ?_
          have e1 : movesOf rs 1 = .inl (1 + i) := movesOf_at hms (by rw [List.getElem?_map, hx]; exact congrArg some hmx)
          rw [e1] at er
          rw [er]
          refine ⟨T, rfl, ?_⟩
          rw [upd_same, show ((1 + i : Nat) : Int) = 1 + (i : Int) by omega]
        | some m =>
          rw [hmx] at hv6
          have nv : v ≠ .non := fun z => by
            obtain ⟨a, q, e, _⟩ := hv6
            rw [z] at e
            cases e
          refine ⟨rfl, false, congrArg V.bl (decide_eq_false nv), iteF ?_⟩
          have hM6 := s6 _ _ hM5
          refine ⟨.ref M, rfl, .inl ⟨rfl, _, SqL.of hM6⟩, .ref D, rfl, .int (1 + (i : Int)), rfl, atR (s6 _ _ hD5) (arg (s6 _ _ hw5) fun v2 H7 s7 hv7 => ?_)⟩
          rw [hmx] at hv7
          have hM7 := s7 _ _ hM6
          have lu := hMs.length
          have lm := congrArg List.length hms
          rw [List.length_map, List.length_map, List.length_take] at lm
          have tk : ∀ b xs, H7 b = some (.tup xs) → (upd H7 M (.lst (us ++ [v2]))) b = some (.tup xs) := fun b xs e => by
            rw [upd_ne (fun z => by rw [z, hM7] at e; cases e)]
            exact e
          refine ⟨M, us, v2, rfl, rfl, hM7, Nat.lt_of_le_of_lt (show _ ≤ 90001 by omega) (by decide), some (.int (1 + (i : Int))), rfl, fun b o nb e => by rw [upd_ne nb]; exact s7 _ _ (k46 b o nb e), us ++ [v2], ms ++ [m], upd_same, ?_, ?_⟩
          · exact MovesAt.same tk (MovesAt.snoc hv7 (hMs.same fun b xs e => s7 _ _ (s6 _ _ e)))
          · rw [take_snoc hx, List.map_append, hms, List.map_append, List.map_cons, hmx]
            rfl
      · rintro σ H5 ⟨y3, rfl, k5, us, ms, hM5, hMs, hms⟩
        rw [en, List.take_length] at hms
        rw [movesOf_all hms] at er
        have hD5 := k5 _ _ (Ne.symm nMD) hD4
        have nwM : w0 ≠ M := fun z => by rw [z] at hw0; rw [s3 _ _ hw0] at nM; cases nM
        have hw5 := k5 _ _ nwM (s24 _ _ hw0)
        refine ⟨.ref D, rfl, D, _, 0, _, rfl, rfl, SqL.of hD5, atI_nat (j := 0) rfl, w0, _, 1, _, rfl, rfl, SqL.of hw5, atI_nat (j := 1) rfl, b, rfl, by omega, hb.2, fun H6 s6 => ?_⟩
        rw [hn]
        refine ⟨.ref M, rfl, (by show 2 ≤ sizeLine; decide), fun u nu => ?_⟩
        have s7 := same_new (o := .tup [.int many, .ref M]) nu
        have hu : (upd H6 u (.tup [.int many, .ref M])) u = some (.tup [.int many, .ref M]) := upd_same
        refine ⟨(by show 2 ≤ sizeLine; decide), fun T nT => ?_⟩
        have s8 := same_new (o := .tup [.non, .ref u]) nT
        have s58 := (s6.trans s7).trans s8
        refine q _ _ (fun b o e => s58 _ _ (k5 b o (ne_of_none (s3 _ _ (s12 _ _ e)) nM) (s24 _ _ (s12 _ _ e)))) ?_
        rw [er]
        exact ⟨T, u, M, us, rfl, upd_same, s8 _ _ hu, s58 _ _ hM5, hMs.same fun b xs e => s58 _ _ e⟩
end
section
open TL
variable {P : Program} {w : World} {K : PySem.W.Frag} {mg : Str → Option Value} {base : Heap} {C : Addr}
/-! ### _law_is_chain -/
theorem scIc : FnScope ["_law_many", "_law_moves", "_law_weight", "_law_whither", "_law_place"] ["_law_many", "_law_moves"] (defScope sLawIsChain) := ⟨rfl, rfl, rfl, by decide +kernel, rfl, by decide +kernel, by decide +kernel⟩
def okMv (many : Int) (m : Int × List Int) : Bool := decide (0 < m.1 ∧ m.1 < 100) && decide ((m.2.length : Int) = many) && m.2.all fun z => decide (0 ≤ z ∧ z < many)
def isChn (many : Int) (ms : List (Int × List Int)) : Bool := decide (0 < many ∧ many < 7) && decide (0 < ms.length ∧ ms.length < 9) && ms.all (okMv many)
theorem okMv_good {n : Nat} {m : Int × List Int} (h : okMv (n : Int) m = true) : GoodMv n m := by
  unfold okMv at h
  rw [Bool.and_eq_true, Bool.and_eq_true, decide_eq_true_iff, decide_eq_true_iff, List.all_eq_true] at h
  refine ⟨by omega, by omega, by omega, fun z hz => ?_⟩
  exact of_decide_eq_true (h.2 z hz)
theorem isChn_good {many : Int} {ms : List (Int × List Int)} (h : isChn many ms = true) : ∃ n : Nat, many = (n : Int) ∧ Good n ms := by
  unfold isChn at h
  rw [Bool.and_eq_true, Bool.and_eq_true, decide_eq_true_iff, decide_eq_true_iff, List.all_eq_true] at h
  obtain ⟨⟨h1, h2⟩, h3⟩ := h
  have e : many = ((many.toNat : Nat) : Int) := by omega
  refine ⟨many.toNat, e, by omega, by omega, by omega, by omega, fun m hm => ?_⟩
  rw [e] at h3
  exact okMv_good (h3 m hm)
theorem good_okMv {n : Nat} {m : Int × List Int} (h : GoodMv n m) : okMv (n : Int) m = true := by
  obtain ⟨h1, h2, h3, h4⟩ := h
  unfold okMv
  rw [Bool.and_eq_true, Bool.and_eq_true, decide_eq_true_iff, decide_eq_true_iff, List.all_eq_true]
  exact ⟨⟨by omega, by omega⟩, fun z hz => decide_eq_true (h4 z hz)⟩
theorem good_isChn {n : Nat} {ms : List (Int × List Int)} (h : Good n ms) : isChn (n : Int) ms = true := by
  unfold isChn
  rw [Bool.and_eq_true, Bool.and_eq_true, decide_eq_true_iff, decide_eq_true_iff, List.all_eq_true]
  have h1 := h.m1
  have h2 := h.m6
  have h3 := h.l1
  have h4 := h.l8
  exact ⟨⟨by omega, by omega⟩, fun m hm => good_okMv (h.mv m hm)⟩
def spIc (K : PySem.W.Frag) : Sp := fun vs H Q _ => ∃ (m : Addr) (many : Int) (ws : List V) (ms : List Mv), vs = [.int many, .ref m] ∧ H m = some (.lst ws) ∧ MovesAt H ws ms ∧ ∀ H', Same H H' → Q (.bl (isChn many ms)) H'
theorem nand_t {p q : Prop} [Decidable p] [Decidable q] (h : (!(decide p && decide q)) = true) : ¬ (p ∧ q) := fun z => by
  rw [decide_eq_true z.1, decide_eq_true z.2] at h
  cases h
theorem nand_f {p q : Prop} [Decidable p] [Decidable q] (h : ¬ (!(decide p && decide q)) = true) : p ∧ q := by
  by_cases a : p
  · by_cases b : q
    · exact ⟨a, b⟩
    · exact absurd (by rw [decide_eq_false b, Bool.and_false]; rfl) h
  · exact absurd (by rw [decide_eq_false a]; rfl) h
theorem chain_b {σ : L2.St} {H : Hp} {ta tb tc : TE} {a b c : Int} {p p' : Int → Int → Bool} {Q : Bool → Hp → Prop} (ha : ∀ R : VK, R (.int a) H → ta σ H R) (hb : ∀ R : VK, R (.int b) H → tb σ H R) (hc : ∀ R : VK, R (.int c) H → tc σ H R) (q : Q (p a b && p' b c) H) :
    tTest (tChain (rI0 fun i j => .bl (p i j)) (rI0 fun i j => .bl (p' i j)) ta tb tc) σ H Q := by
  refine ha _ (hb _ ⟨a, b, rfl, rfl, p a b, rfl, ?_⟩)
  cases e : p a b with
  | true =>
    rw [e, Bool.true_and] at q
    exact iteT (hc _ ⟨b, c, rfl, rfl, p' b c, rfl, q⟩)
  | false =>
    rw [e, Bool.false_and] at q
    exact iteF ⟨false, rfl, q⟩
theorem ok_ischain {k : Nat} {f : Addr} {fd : FuncData} (F : Fun K "_law_is_chain" "_law_is_chain" sLawIsChain f fd) (ml : mg "len" = none) : FnOk P w K mg base CX0 (k + 1) f fd ["_law_many", "_law_moves"] (spIc K) := by
  refine F.ok scIc (fun vs H Q E h => ?_) (fun cdv A outer s H vs Q E hr h => ?_)
  · obtain ⟨m, many, ws, ms, rfl, _⟩ := h
    rfl
  · obtain ⟨m, many, ws, ms, rfl, hm, hM, q⟩ := h
    have hu := hu64 hr
    refine ⟨_, (pss_cons (ps_if (PW.pt (pw_or (pt_not (pt_chain op_lt op_lt pe_int (pv 0) pe_int)) (pw_or1 (pt_not (pt_chain op_lt op_lt pe_int (pe_callB call_len_seq (by rfl) ml PySem.boot_len (pa_cons (pv 1) pa_nil)) pe_int))))) (pss_one (ps_ret pe_bl)) pss_nil)
      (pss_cons (ps_for PassesOwn.never rfl (pi_list (pv 1)) (pg_tup rfl (pgs_cons (pg_name (i := 2) scIc.nd rfl (.inl rfl)) (pgs_cons (pg_name (i := 3) scIc.nd rfl (.inl rfl)) pgs_nil))) (pss_one (ps_if (PW.pt (pw_or (pt_not (pt_chain op_lt op_lt pe_int (pv 2) pe_int)) (pw_or (pt_cmpR op_ne (pe_callB call_len_seq (by rfl) ml PySem.boot_len (pa_cons (pv 3) pa_nil)) (pv 0) (nomark _)) (pw_or1 (pt_cmpR (op_neD hu) (pe_lc (own := [("_law_place", 4)]) (g := gName 4) (tt := (tNot (tTest (tChain (rI0 fun i j => .bl (decide (i ≤ j))) (rI0 fun i j => .bl (decide (i < j))) (tC (.int 0)) (tVar 4) (tVar 0))))) (te := (tVar 4)) rfl scIc.nd (pi_tup (pv 3)) (blkOk_by (N := ["_law_many", "_law_moves", "_law_weight", "_law_whither", "_law_place"]) (sc := defScope sLawIsChain) (by decide +kernel)) (fun _ _ _ _ _ => by exact (pg_name (i := 4) scIc.nd rfl (.inl rfl))) (fun _ _ _ _ _ => by exact (pts_one (pt_not (pt_chain op_le op_lt pe_int (pv 4) (pv 0))))) (fun _ _ _ _ _ => by exact (pv 4))) (pe_lst pa_nil) (nomark _)))))) (pss_one (ps_ret pe_bl)) pss_nil)))
      (pss_one (ps_ret pe_bl)))), ?_⟩
    have lw := hM.length
    have nob : ∀ {H'}, Same H H' → isChn many ms = false → Q (.bl false) H' := fun s e => by
      have := q _ s
      rw [e] at this
      exact this
    refine chain_b (a := 0) (b := many) (c := 7) (p := fun i j => decide (i < j)) (p' := fun i j => decide (i < j)) (fun R h => h) (fun R h => ⟨_, rfl, h⟩) (fun R h => h) (ite2 (fun h => iteT ?_) fun h => ?_)
    · refine nob (Same.refl _) ?_
      unfold isChn
      have : (decide (0 < many ∧ many < 7)) = false := decide_eq_false fun z => nand_t h (by omega)
      rw [this]
      rfl
    have hmany : 0 < many ∧ many < 7 := nand_f h
    refine chain_b (a := 0) (b := ((ws.length : Nat) : Int)) (c := 9) (p := fun i j => decide (i < j)) (p' := fun i j => decide (i < j)) (fun R h => h) (fun R h => ⟨.ref m, rfl, m, ws, rfl, .inl (SqL.of hm), h⟩) (fun R h => h) (ite2 (fun h => ?_) fun h => ?_)
    · refine nob (Same.refl _) ?_
      unfold isChn
      have : (decide (0 < ms.length ∧ ms.length < 9)) = false := decide_eq_false fun z => nand_t h (by omega)
      rw [this, Bool.and_false]
      rfl
    have hlen : 0 < ms.length ∧ ms.length < 9 := by
      have := nand_f h
      omega
    have hq : isChn many ms = ms.all (okMv many) := by
      unfold isChn
      rw [decide_eq_true hmany, decide_eq_true hlen]
      rfl
    refine ⟨.ref m, rfl, m, rfl, ⟨_, SqL.of hm⟩, ?_⟩
    refine for_list (K := K) (a := m) (xs := ws) (fun i σ H' => ∃ y2 y3, σ = [some (.int many), some (.ref m), y2, y3, none] ∧ Same H H' ∧ ∀ e mv, e < i → ms[e]? = some mv → okMv many mv = true)
      ⟨none, none, rfl, Same.refl _, fun e mv h => absurd h (Nat.not_lt_zero _)⟩ (fun i σ H' _ ⟨_, _, _, s, _⟩ => SqL.of (s _ _ hm)) ?_ ?_
    · rintro i v σ H1 hv ⟨y2, y3, rfl, s1, hbef⟩
      obtain ⟨mv, emv, ta, tb, rfl, hta, htb⟩ := hM.get' hv
      have hta1 := s1 _ _ hta
      have htb1 := s1 _ _ htb
      have fb : okMv many mv = false → isChn many ms = false := fun e => by
        rw [hq, List.all_eq_false]
        exact ⟨mv, List.mem_of_getElem? emv, by rw [e]; exact Bool.false_ne_true⟩
      refine ⟨ta, _, rfl, SqT.of hta1, rfl, _, _, rfl, _, _, rfl, rfl, ?_⟩
      refine chain_b (a := 0) (b := mv.1) (c := 100) (p := fun i j => decide (i < j)) (p' := fun i j => decide (i < j)) (fun R h => h) (fun R h => ⟨_, rfl, h⟩) (fun R h => h) (ite2 (fun h => iteT ?_) fun h => ?_)
      · refine nob s1 (fb ?_)
        unfold okMv
        have : (decide (0 < mv.1 ∧ mv.1 < 100)) = false := decide_eq_false fun z => nand_t h (by omega)
        rw [this]
        rfl
      have hw : 0 < mv.1 ∧ mv.1 < 100 := nand_f h
      refine ⟨.ref tb, rfl, tb, _, rfl, .inr (SqT.of htb1), _, rfl, rfl, _, rfl, ?_⟩
      rw [List.length_map]
      refine ite2 (fun h => iteT ?_) fun h => ?_
      · refine nob s1 (fb ?_)
        unfold okMv
        have : (decide ((mv.2.length : Int) = many)) = false := decide_eq_false fun z => by
          rw [z] at h
          revert h
          simp
        rw [this, Bool.and_false]
        rfl
      have hl : (mv.2.length : Int) = many := by
        by_cases e : V.int (mv.2.length : Int) = V.int many
        · injection e
        · exact absurd (show (!decide (V.int (mv.2.length : Int) = V.int many)) = true by rw [decide_eq_false e]; rfl) h
      refine ⟨.ref tb, rfl, tb, rfl, ⟨_, SqT.of htb1⟩, fun D nD => ?_⟩
      refine lc_tup (K := K) (a := tb) (xs := mv.2.map V.int) (fun e H' => Same H1 H' ∧ H' D = some (.lst ((((mv.2.take e).filter fun z => !decide (0 ≤ z ∧ z < many))).map V.int))) ⟨same_new nD, by rw [upd_same]; rfl⟩ (fun e H' _ h => SqT.of (h.1 _ _ htb1)) ?_ ?_
      · rintro e v H2 hv2 ⟨s2, hD⟩
        rw [List.getElem?_map] at hv2
        obtain ⟨z, hz, rfl⟩ := Option.map_eq_some_iff.mp hv2
        refine ⟨rfl, ?_⟩
        refine chain_b (a := 0) (b := z) (c := many) (p := fun i j => decide (i ≤ j)) (p' := fun i j => decide (i < j)) (fun R h => h) (fun R h => ⟨_, rfl, h⟩) (fun R h => ⟨_, rfl, h⟩) ?_
        have eb : (!(decide (0 ≤ z) && decide (z < many))) = !decide (0 ≤ z ∧ z < many) := by
          rw [Bool.decide_and]
        rw [eb, filter_snoc (F := fun z => !decide (0 ≤ z ∧ z < many)) hz]
        refine ite2 (fun h => ?_) (fun h => ?_)
        · rw [if_pos h]
          refine ⟨.int z, rfl, _, hD, ?_, fun b o e1 => by rw [upd_ne (ne_of_none e1 nD)]; exact s2 _ _ e1, ?_⟩
          · rw [List.length_map]
            have h1 : ((List.take e mv.2).filter fun z => !decide (0 ≤ z ∧ z < many)).length ≤ (List.take e mv.2).length := List.length_filter_le _ _
            rw [List.length_take] at h1
            exact small8 (by omega)
          · rw [upd_same, List.map_append]
            rfl
        · rw [if_neg h, List.append_nil]
          exact ⟨s2, hD⟩
      · rintro H2 ⟨s2, hD⟩
        rw [List.length_map, List.take_length] at hD
        refine ⟨by show 0 ≤ sizeLine; decide, fun e ne => ?_⟩
        have s3 := same_new (o := .lst []) ne
        have he : (upd H2 e (.lst [])) e = some (.lst []) := upd_same
        have hD3 := s3 _ _ hD
        have s13 := (s1.trans s2).trans s3
        show rNeD _ _ _ (upd H2 e (.lst [])) _
        generalize upd H2 e (.lst []) = H3 at s3 he hD3 s13 ⊢
        refine ⟨.list ((mv.2.filter fun z => !decide (0 ≤ z ∧ z < many)).map PyData.int), .list [], dp_lst hD3, .lst (SqL.of he) .nil, (Sh.list (Sh.ints (n := 0) _)).shaped (by decide), rfl, _, rfl, ?_⟩
        cases hf : mv.2.filter fun z => !decide (0 ≤ z ∧ z < many) with
        | cons c l =>
          refine iteT ?_
          refine nob s13 (fb ?_)
          unfold okMv
          have hc : c ∈ mv.2.filter fun z => !decide (0 ≤ z ∧ z < many) := by rw [hf]; exact List.mem_cons_self
          obtain ⟨h1, h2⟩ := List.mem_filter.mp hc
          have : (mv.2.all fun z => decide (0 ≤ z ∧ z < many)) = false := List.all_eq_false.mpr ⟨c, h1, by intro x; rw [x] at h2; cases h2⟩
          rw [this, Bool.and_false]
        | nil =>
          refine iteF ⟨_, _, rfl, s13, fun e2 mv2 h2 em => ?_⟩
          by_cases a : e2 < i
          · exact hbef e2 mv2 a em
          · have e3 : e2 = i := by omega
            rw [e3, emv] at em
            cases em
            unfold okMv
            rw [decide_eq_true hw, decide_eq_true hl, Bool.true_and, Bool.true_and, List.all_eq_true]
            intro z hz
            by_cases c : 0 ≤ z ∧ z < many
            · exact decide_eq_true c
            · have : z ∈ mv.2.filter fun z => !decide (0 ≤ z ∧ z < many) := List.mem_filter.mpr ⟨hz, by rw [decide_eq_false c]; rfl⟩
              rw [hf] at this
              cases this
    · rintro σ H1 ⟨y2, y3, rfl, s1, hbef⟩
      have := q H1 s1
      rw [hq, List.all_eq_true.mpr fun mv hmv => ?_] at this
      · exact this
      · obtain ⟨e, he⟩ := List.getElem?_of_mem hmv
        exact hbef e mv (by rw [hM.length]; exact (List.getElem?_eq_some_iff.mp he).1) he
end
section
open TL
variable {P : Program} {w : World} {K : PySem.W.Frag} {mg : Str → Option Value} {base : Heap} {C : Addr}
/-! ### how long: the signs and one more, of each -/
def mS (ps : List Str) : Nat := (ps.map fun p => p.length + 1).sum
theorem mS_cons (p : Str) (ps : List Str) : mS (p :: ps) = p.length + 1 + mS ps := by unfold mS; rw [List.map_cons, List.sum_cons]
theorem mS_app (a b : List Str) : mS (a ++ b) = mS a + mS b := by unfold mS; rw [List.map_append, List.sum_append]
theorem mS_take (xs : List Str) (k : Nat) : mS (xs.take k) + mS (xs.drop k) = mS xs := by rw [← mS_app, List.take_append_drop]
theorem mS_rev (xs : List Str) : mS xs.reverse = mS xs := by
  induction xs with
  | nil => rfl
  | cons x xs ih => rw [List.reverse_cons, mS_app, ih, mS_cons, mS_cons]; show _ + (_ + 1 + 0) = _; omega
theorem mS_len : ∀ (xs : List Str), xs.length ≤ mS xs
  | [] => Nat.le_refl _
  | x :: xs => by
    have := mS_len xs
    rw [mS_cons, List.length_cons]
    omega
theorem mS_sum : ∀ (xs : List Str), (xs.map (·.length)).sum ≤ mS xs
  | [] => Nat.le_refl _
  | x :: xs => by
    have := mS_sum xs
    rw [mS_cons, List.map_cons, List.sum_cons]
    omega
theorem joinL_M {S : List Nat} (hS : S.length = 1) : ∀ (ps : List (List Nat)), (joinL S ps).length = (ps.map fun p => p.length + 1).sum - 1
  | [] => rfl
  | [p] => by show p.length = p.length + 1 + 0 - 1; omega
  | p :: q :: r => by
    have ih := joinL_M hS (q :: r)
    show (p ++ (S ++ joinL S (q :: r))).length = _
    rw [List.map_cons, List.sum_cons] at ih
    rw [List.length_append, List.length_append, ih, hS, List.map_cons, List.sum_cons, List.map_cons, List.sum_cons]
    omega
theorem join_M {y : Str} (hy : y.length = 1) (ps : List Str) : (Txt.join y ps).length = mS ps - 1 := by
  rw [len_tl, join_eq, tl_join, joinL_M (by rw [← len_tl]; exact hy)]
  unfold mS
  rw [List.map_map]
  congr 2
theorem split_M {t y : Str} (hy : y.length = 1) (ne : Txt.split t y ≠ []) : mS (Txt.split t y) = t.length + 1 := by
  have h := join_M hy (Txt.split t y)
  rw [join_eq, StrLaws.join_split] at h
  have := mS_len (Txt.split t y)
  have := List.length_pos_iff.mpr ne
  omega
def cutL (xs : List Str) (lo hi : Option Int) : List Str := (xs.drop (HT.sIx xs.length 0 lo)).take (HT.sIx xs.length xs.length hi - HT.sIx xs.length 0 lo)
theorem cutL_map (xs : List Str) (lo hi : Option Int) : cutV (xs.map V.str) lo hi = (cutL xs lo hi).map V.str := by
  unfold cutV cutL
  rw [List.length_map, List.map_take, List.map_drop]
theorem cutL_to (xs : List Str) (k : Nat) : cutL xs none (some (k : Int)) = xs.take k := by
  unfold cutL
  rw [HT.sIx_none, HT.sIx_nat, List.drop_zero, Nat.sub_zero]
  by_cases h : k ≤ xs.length
  · rw [Nat.min_eq_left h]
  · rw [Nat.min_eq_right (by omega), List.take_of_length_le (Nat.le_refl _), List.take_of_length_le (by omega)]
theorem cutL_from (xs : List Str) (k : Nat) : cutL xs (some (k : Int)) none = xs.drop k := by
  unfold cutL
  rw [HT.sIx_none, HT.sIx_nat]
  by_cases h : k ≤ xs.length
  · rw [Nat.min_eq_left h, List.take_of_length_le (by rw [List.length_drop]; exact Nat.le_refl _)]
  · rw [Nat.min_eq_right (by omega), List.drop_of_length_le (Nat.le_refl _), List.drop_of_length_le (by omega), List.take_nil]
theorem cutL_mid {xs : List Str} {k j : Nat} (hk : k ≤ xs.length) (hj : k ≤ j) : cutL xs (some (k : Int)) (some (j : Int)) = (xs.drop k).take (j - k) := by
  unfold cutL
  rw [HT.sIx_nat, HT.sIx_nat, Nat.min_eq_left hk]
  by_cases h : j ≤ xs.length
  · rw [Nat.min_eq_left h]
  · rw [Nat.min_eq_right (by omega), List.take_of_length_le (by rw [List.length_drop]; exact Nat.le_refl _), List.take_of_length_le (by rw [List.length_drop]; omega)]
theorem sl_strs {H : Hp} {a : Addr} {xs : List Str} {lo hi : Option Int} {Q : VK} (ha : H a = some (.lst (xs.map V.str))) (h : ∀ p H', Same H H' → H' p = some (.lst ((cutL xs lo hi).map V.str)) → Q (.ref p) H') : rSlL K (.ref a) lo hi H Q := by
  refine ⟨a, _, rfl, SqL.of ha, fun p np => ?_⟩
  rw [cutL_map]
  exact h p _ (same_new np) upd_same
theorem cat_strs {H : Hp} {a b : Addr} {xs ys : List Str} {Q : VK} (ha : H a = some (.lst (xs.map V.str))) (hb : H b = some (.lst (ys.map V.str))) (hz : xs.length + ys.length ≤ 100000) (h : ∀ p H', Same H H' → H' p = some (.lst ((xs ++ ys).map V.str)) → Q (.ref p) H') : rCat (.ref a) (.ref b) H Q := by
  refine ⟨a, b, _, _, rfl, rfl, ha, hb, ?_, fun p np => ?_⟩
  · rw [List.length_map, List.length_map]
    exact Nat.le_trans hz (by decide)
  · rw [← List.map_append]
    exact h p _ (same_new np) upd_same
/-- one of three: none of it, it twice, it and the next one exchanged -/
def OneOf (xs : List Str) (k : Nat) (S : List Str) : Prop := (∀ p ∈ S, p ∈ xs) ∧ mS (xs.take k) + mS S + mS (xs.drop (k + 1)) ≤ 2 * mS xs
theorem mS_drop (xs : List Str) (k : Nat) : mS (xs.drop k) ≤ mS xs := by have := mS_take xs k; omega
theorem take_mid (xs : List Str) (k j : Nat) : mS (xs.take k) + mS ((xs.drop k).take j) ≤ mS xs := by
  have h1 := mS_take xs k
  have h2 := mS_take (xs.drop k) j
  omega
theorem some_list {σ : L2.St} {H : Hp} {R i a : Nat} {k way c : Nat} {xs : List Str} {Q : VK} (hR : σ[R]? = some (some (.ref a))) (hi : σ[i]? = some (some (.int (k : Int)))) (hw : σ[2]? = some (some (.int (way : Int)))) (ha : H a = some (.lst (xs.map V.str))) (hk : k < xs.length) (hl : xs.length ≤ 50000)
    (c1 : c ≤ way) (c2 : way < c + 3) (q : ∀ p S H', Same H H' → H' p = some (.lst (S.map V.str)) → OneOf xs k S → Q (.ref p) H') :
    tOp (rIxL K) (tLst (tCons (tLst tNil) (tCons (tOp rRep (tSl (rSlL K) (tVar R) (tPart (tVar i)) (tPart (tOp (rI0 fun i j => .int (i + j)) (tVar i) (tC (.int 1))))) (tC (.int 2))) (tCons (tRevL K (tSl (rSlL K) (tVar R) (tPart (tVar i)) (tPart (tOp (rI0 fun i j => .int (i + j)) (tVar i) (tC (.int 2)))))) tNil))))
      (tOp (rI0 fun i j => .int (i - j)) (tVar 2) (tC (.int (c : Int)))) σ H Q := by
  refine ⟨by show 0 ≤ sizeLine; decide, fun p0 n0 => ?_⟩
  have s0 := same_new (o := .lst []) n0
  have h0 : (upd H p0 (.lst [])) p0 = some (.lst (([] : List Str).map V.str)) := upd_same
  show tCons _ _ _ (upd H p0 (.lst [])) _
  generalize upd H p0 (.lst []) = H0 at s0 h0 ⊢
  have e1 : cutL xs (some (k : Int)) (some ((k : Int) + 1)) = (xs.drop k).take 1 := by
    have := cutL_mid (xs := xs) (k := k) (j := k + 1) (by omega) (by omega)
    rw [show ((k + 1 : Nat) : Int) = (k : Int) + 1 by omega, show k + 1 - k = 1 by omega] at this
    exact this
  have e2 : cutL xs (some (k : Int)) (some ((k : Int) + 2)) = (xs.drop k).take 2 := by
    have := cutL_mid (xs := xs) (k := k) (j := k + 2) (by omega) (by omega)
    rw [show ((k + 2 : Nat) : Int) = (k : Int) + 2 by omega, show k + 2 - k = 2 by omega] at this
    exact this
  refine ⟨.ref a, hR, .int (k : Int), hi, (k : Int), rfl, .int (k : Int), hi, (k : Int), 1, rfl, rfl, (k : Int) + 1, rfl, ?_⟩
  refine sl_strs (s0 _ _ ha) fun p1 H1 s1 h1 => ?_
  rw [e1] at h1
  refine ⟨p1, 2, _, rfl, rfl, h1, by decide, by decide, ?_, fun p2 n2 => ?_⟩
  · rw [List.length_map]
    have : ((xs.drop k).take 1).length ≤ 1 := by rw [List.length_take]; omega
    exact Nat.le_trans (Nat.mul_le_mul_right _ this) (by decide)
  have s2 := same_new (o := .lst (List.replicate (2 : Int).toNat (((xs.drop k).take 1).map V.str)).flatten) n2
  have ef : (List.replicate (2 : Int).toNat (((xs.drop k).take 1).map V.str)).flatten = (((xs.drop k).take 1) ++ ((xs.drop k).take 1)).map V.str := by
    show (List.replicate 2 (((xs.drop k).take 1).map V.str)).flatten = _
    rw [List.map_append, List.replicate_succ, List.replicate_succ, List.replicate_zero, List.flatten_cons, List.flatten_cons, List.flatten_nil, List.append_nil]
  have h2 : (upd H1 p2 (.lst (List.replicate (2 : Int).toNat (((xs.drop k).take 1).map V.str)).flatten)) p2 = some (.lst ((((xs.drop k).take 1) ++ ((xs.drop k).take 1)).map V.str)) := by rw [upd_same, ef]
  show tCons _ _ _ (upd H1 p2 _) _
  generalize upd H1 p2 (.lst (List.replicate (2 : Int).toNat (((xs.drop k).take 1).map V.str)).flatten) = H2 at s2 h2 ⊢
  refine ⟨.ref a, hR, .int (k : Int), hi, (k : Int), rfl, .int (k : Int), hi, (k : Int), 2, rfl, rfl, (k : Int) + 2, rfl, ?_⟩
  refine sl_strs (s2 _ _ (s1 _ _ (s0 _ _ ha))) fun p3 H3 s3 h3 => ?_
  rw [e2] at h3
  refine ⟨p3, _, rfl, SqL.of h3, fun p4 n4 => ?_⟩
  have s4 := same_new (o := .lst (((xs.drop k).take 2).map V.str).reverse) n4
  have h4 : (upd H3 p4 (.lst (((xs.drop k).take 2).map V.str).reverse)) p4 = some (.lst (((xs.drop k).take 2).reverse.map V.str)) := by rw [upd_same, List.map_reverse]
  show tNil _ (upd H3 p4 _) _
  generalize upd H3 p4 (.lst (((xs.drop k).take 2).map V.str).reverse) = H4 at s4 h4 ⊢
  refine ⟨by show 3 ≤ sizeLine; decide, fun p5 n5 => ?_⟩
  have s5 := same_new (o := .lst [V.ref p0, V.ref p2, V.ref p4]) n5
  have h5 : (upd H4 p5 (.lst [V.ref p0, V.ref p2, V.ref p4])) p5 = some (.lst [V.ref p0, V.ref p2, V.ref p4]) := upd_same
  refine ⟨.int (way : Int), hw, (way : Int), (c : Int), rfl, rfl, ?_⟩
  show rIxL K _ _ (upd H4 p5 _) _
  generalize upd H4 p5 (.lst [V.ref p0, V.ref p2, V.ref p4]) = H5 at s5 h5 ⊢
  have s05 : Same H0 H5 := ((s1.trans s2).trans (s3.trans s4)).trans s5
  have s25 : Same H2 H5 := (s3.trans s4).trans s5
  have t1 := mS_take xs k
  have t2 := mS_take (xs.drop k) 1
  rw [List.drop_drop] at t2
  have hd := mS_drop xs (k + 1)
  have tm := take_mid xs k 2
  have mem : ∀ j, ∀ p ∈ (xs.drop k).take j, p ∈ xs := fun j p hp => List.mem_of_mem_drop (List.mem_of_mem_take hp)
  obtain ⟨z, hz⟩ : ∃ z, way = c + z := ⟨way - c, by omega⟩
  have ez : (way : Int) - (c : Int) = ((z : Nat) : Int) := by omega
  show rIxL K _ (V.int ((way : Int) - (c : Int))) H5 Q
  rw [ez]
  match z, hz with
  | 0, _ => exact ⟨p5, _, 0, _, rfl, rfl, SqL.of h5, atI_nat (j := 0) rfl, q p0 [] H5 (s0.trans s05) (s05 _ _ h0) ⟨(fun _ h => nomatch h), by show mS (xs.take k) + 0 + mS (xs.drop (k + 1)) ≤ 2 * mS xs; omega⟩⟩
  | 1, _ => exact ⟨p5, _, 1, _, rfl, rfl, SqL.of h5, atI_nat (j := 1) rfl, q p2 _ H5 (s0.trans s05) (s25 _ _ h2) ⟨fun p h => (List.mem_append.mp h).elim (mem 1 p) (mem 1 p), by rw [mS_app]; omega⟩⟩
  | 2, _ => exact ⟨p5, _, 2, _, rfl, rfl, SqL.of h5, atI_nat (j := 2) rfl, q p4 _ H5 (s0.trans s05) (s5 _ _ h4) ⟨fun p h => mem 2 p (List.mem_reverse.mp h), by rw [mS_rev]; omega⟩⟩
  | z + 3, h => exact absurd c2 (by omega)
end
section
open TL
variable {P : Program} {w : World} {K : PySem.W.Frag} {mg : Str → Option Value} {base : Heap} {C : Addr}
/-! ### _law_spoilt -/
theorem scSp : FnScope ["_law_d", "_law_text", "_law_way", "_law_at", "_law_signs", "_law_sign", "_law_rows", "_law_k", "_law_some", "_law_words", "_law_j"] ["_law_d", "_law_text"] (defScope sLawSpoilt) := ⟨rfl, rfl, rfl, by decide +kernel, rfl, by decide +kernel, by decide +kernel⟩
def spSp (K : PySem.W.Frag) : Sp := fun vs H Q _ => ∃ (d l : Addr) (ns : List Int) (t : Str), vs = [.ref d, .str t] ∧ Dc K l ns H d ∧ t.length ≤ 20000 ∧ Plain t ∧ ∀ t' H', Dc K l ns H' d → Gr d H H' → t'.length ≤ 2 * t.length + 2 → Plain t' → Q (.str t') H'
theorem plain_lit {s : Str} (h : ((tl s).all fun c => decide (c < 128)) = true) : Plain s := fun c hc => of_decide_eq_true (List.all_eq_true.mp h c hc)
def signsS : Str := " !\"#$&'()*+,-./0123456789:;<=>?@ABCDEFGHIJKLMNOPQRSTUVWXYZ[]^_abcdefghijklmnopqrstuvwxyz{|}~\n"
def figsS : Str := "0123456789 :"
theorem signs_ok : Plain signsS ∧ 0 < signsS.length ∧ signsS.length ≤ 200 := ⟨plain_lit (by decide +kernel), by decide +kernel, by decide +kernel⟩
theorem figs_ok : Plain figsS ∧ 0 < figsS.length ∧ figsS.length ≤ 200 := ⟨plain_lit (by decide +kernel), by decide +kernel, by decide +kernel⟩
theorem no_part {σ : L2.St} {H : Hp} {Q : Option Int → Hp → Prop} (h : Q none H) : tNoPart σ H Q := h
theorem ok_spoilt {f fc fd' fo : Addr} {fd fdc fdd fdo : FuncData} (F : Fun K "_law_spoilt" "_law_spoilt" sLawSpoilt f fd) (T : LawTxt K mg fc fd' fo fdc fdd fdo) : FnOk P w K mg base CX0 3 f fd ["_law_d", "_law_text"] (spSp K) := by
  have GO : FnOk P w K mg base CX0 2 fo fdo ["_law_d", "_law_most"] (spOff K) := T.off
  refine F.ok scSp (fun vs H Q E h => ?_) (fun cdv A outer s H vs Q E hr h => ?_)
  · obtain ⟨d, l, ns, t, rfl, _⟩ := h
    rfl
  · obtain ⟨d, l, ns, t, rfl, hD, hl, hp, q⟩ := h
    have r2 : Room 2 _ := hr.mono (by decide)
    refine ⟨_, (pss_cons (ps_set (i := 2) scSp.nd rfl (.inl rfl) (pe_call GO r2 (by rfl) T.gO T.FO.kp T.bO .nil pass0 (pa_cons (pv 0) (pa_cons pe_int pa_nil))))
      (pss_cons (ps_set (i := 3) scSp.nd rfl (.inl rfl) (pe_call GO r2 (by rfl) T.gO T.FO.kp T.bO .nil pass0 (pa_cons (pv 0) (pa_cons (pe_op op_add (pe_callB call_len_str (by rfl) T.ml PySem.boot_len (pa_cons (pv 1) pa_nil)) pe_int) pa_nil))))
      (pss_cons (ps_set (i := 4) scSp.nd rfl (.inl rfl) pe_str)
      (pss_cons (ps_set (i := 5) scSp.nd rfl (.inl rfl) (pe_ix ix_list (pe_lst (pa_cons (pv 4) (pa_cons pe_str pa_nil))) (pe_call GO r2 (by rfl) T.gO T.FO.kp T.bO .nil pass0 (pa_cons (pv 0) (pa_cons pe_int pa_nil))) (fun _ _ => rfl)))
      (pss_cons (ps_set (i := 5) scSp.nd rfl (.inl rfl) (pe_ix ix_str (pv 5) (pe_call GO r2 (by rfl) T.gO T.FO.kp T.bO .nil pass0 (pa_cons (pv 0) (pa_cons (pe_callB call_len_str (by rfl) T.ml PySem.boot_len (pa_cons (pv 5) pa_nil)) pa_nil))) (fun _ _ => rfl)))
      (pss_cons (ps_if (pt_cmpR op_lt (pv 2) pe_int (nomark _)) (pss_one (ps_ret (pe_op op_add_str (pe_op op_add_str (pe_slice sl_str (pv 1) po_none (po_some (pv 3))) (pe_ix ix_list (pe_lst (pa_cons (pv 5) (pa_cons pe_str (pa_cons (pv 5) pa_nil)))) (pv 2) (fun _ _ => rfl))) (pe_slice sl_str (pv 1) (po_some (pe_op op_add (pv 3) (pe_callTy call_int1 (by rfl) T.mi (by decide +kernel) (pa_cons (pe_cmpR op_gt (pv 2) pe_int (nomark _)) pa_nil)))) po_none)))) pss_nil)
      (pss_cons (ps_set (i := 6) scSp.nd rfl (.inl rfl) (pe_split (pv 1) pe_str))
      (pss_cons (ps_set (i := 7) scSp.nd rfl (.inl rfl) (pe_call GO r2 (by rfl) T.gO T.FO.kp T.bO .nil pass0 (pa_cons (pv 0) (pa_cons (pe_callB call_len_seq (by rfl) T.ml PySem.boot_len (pa_cons (pv 6) pa_nil)) pa_nil))))
      (pss_cons (ps_if (pt_cmpR op_lt (pv 2) pe_int (nomark _)) (pss_cons (ps_set (i := 8) scSp.nd rfl (.inl rfl) (pe_ix ix_list (pe_lst (pa_cons (pe_lst pa_nil) (pa_cons (pe_op op_rep (pe_slice sl_list (pv 6) (po_some (pv 7)) (po_some (pe_op op_add (pv 7) pe_int))) pe_int) (pa_cons (pe_revL (pe_slice sl_list (pv 6) (po_some (pv 7)) (po_some (pe_op op_add (pv 7) pe_int)))) pa_nil)))) (pe_op op_sub (pv 2) pe_int) (fun _ _ => rfl)))
      (pss_one (ps_ret (pe_join pe_str (pe_op op_cat (pe_op op_cat (pe_slice sl_list (pv 6) po_none (po_some (pv 7))) (pv 8)) (pe_slice sl_list (pv 6) (po_some (pe_op op_add (pe_op op_add (pv 7) pe_int) (pe_callTy call_int1 (by rfl) T.mi (by decide +kernel) (pa_cons (pe_cmpR op_eq (pv 2) pe_int (nomark _)) pa_nil)))) po_none)))))) pss_nil)
      (pss_cons (ps_set (i := 9) scSp.nd rfl (.inl rfl) (pe_split (pe_ix ix_list (pv 6) (pv 7) (fun _ _ => rfl)) pe_str))
      (pss_cons (ps_set (i := 10) scSp.nd rfl (.inl rfl) (pe_call GO r2 (by rfl) T.gO T.FO.kp T.bO .nil pass0 (pa_cons (pv 0) (pa_cons (pe_callB call_len_seq (by rfl) T.ml PySem.boot_len (pa_cons (pv 9) pa_nil)) pa_nil))))
      (pss_cons (ps_set (i := 8) scSp.nd rfl (.inl rfl) (pe_ix ix_list (pe_lst (pa_cons (pe_lst pa_nil) (pa_cons (pe_op op_rep (pe_slice sl_list (pv 9) (po_some (pv 10)) (po_some (pe_op op_add (pv 10) pe_int))) pe_int) (pa_cons (pe_revL (pe_slice sl_list (pv 9) (po_some (pv 10)) (po_some (pe_op op_add (pv 10) pe_int)))) pa_nil)))) (pe_op op_sub (pv 2) pe_int) (fun _ _ => rfl)))
      (pss_cons (ps_set (i := 9) scSp.nd rfl (.inl rfl) (pe_op op_cat (pe_op op_cat (pe_slice sl_list (pv 9) po_none (po_some (pv 10))) (pv 8)) (pe_slice sl_list (pv 9) (po_some (pe_op op_add (pe_op op_add (pv 10) pe_int) (pe_callTy call_int1 (by rfl) T.mi (by decide +kernel) (pa_cons (pe_cmpR op_eq (pv 2) pe_int (nomark _)) pa_nil)))) po_none)))
      (pss_one (ps_ret (pe_join pe_str (pe_op op_cat (pe_op op_cat (pe_slice sl_list (pv 6) po_none (po_some (pv 7))) (pe_lst (pa_cons (pe_join pe_str (pv 9)) pa_nil))) (pe_slice sl_list (pv 6) (po_some (pe_op op_add (pv 7) pe_int)) po_none)))))))))))))))))), ?_⟩
    have hz : t.length ≤ sizeLine := Nat.le_trans hl (by decide)
    refine ⟨.ref d, rfl, d, l, ns, 9, rfl, hD, by decide, by decide, fun way H1 hway hD1 o1 => ?_⟩
    have g1 : Gr d H H1 := (Gr.refl d H).off o1
    refine ⟨.ref d, rfl, .str t, rfl, t, rfl, hz, _, _, rfl, rfl, d, l, ns, _, rfl, hD1, by omega, by omega, fun at' H2 hat hD2 o2 => ?_⟩
    have g2 := g1.off o2
    refine ⟨.str signsS, rfl, (by show 2 ≤ sizeLine; decide), fun L nL => ?_⟩
    have hD3 := hD2.new (o := .lst [.str signsS, .str figsS]) nL
    have g3 := g2.new (o := .lst [.str signsS, .str figsS]) nL
    have hL : (upd H2 L (.lst [.str signsS, .str figsS])) L = some (.lst [.str signsS, .str figsS]) := upd_same
    show tCall _ _ _ _ _ (upd H2 L (.lst [.str signsS, .str figsS])) _
    generalize upd H2 L (.lst [.str signsS, .str figsS]) = H3 at hD3 g3 hL ⊢
    have strs_ne : ∀ (xs : List Str) (s0 : Int) (l : Addr) (k big : Int), HO.lst (xs.map V.str) ≠ .lst (dl s0 l k big) := fun xs s0 l k big z => by
      injection z with z
      cases xs with
      | nil => cases z
      | cons x xs => injection z with z _; cases z
    have keepS : ∀ {H' H'' : Hp} {b : Addr} {xs : List Str}, Dc K l ns H' d → Gr d H' H'' → H' b = some (.lst (xs.map V.str)) → H'' b = some (.lst (xs.map V.str)) := fun {H' H'' b xs} hd g e => g b _ (hd.ne_of e (strs_ne xs)) e
    refine ⟨.ref d, rfl, d, l, ns, 2, rfl, hD3, by decide, by decide, fun k4 H4 hk4 hD4 o4 => ?_⟩
    have hL4 : H4 L = some (.lst ([signsS, figsS].map V.str)) := keepS hD3 ((Gr.refl d _).off o4) hL
    have g4 := g3.off o4
    obtain ⟨sg, hsg, sgp, sg0, sgl⟩ : ∃ sg, ([signsS, figsS] : List Str)[k4]? = some sg ∧ Plain sg ∧ 0 < sg.length ∧ sg.length ≤ 200 := by
      match k4, hk4 with
      | 0, _ => exact ⟨signsS, rfl, signs_ok⟩
      | 1, _ => exact ⟨figsS, rfl, figs_ok⟩
      | k + 2, h => exact absurd h (by omega)
    refine ⟨L, _, k4, _, rfl, rfl, SqL.of hL4, atI_nat (j := k4) (by rw [List.getElem?_map, hsg]; rfl), ?_⟩
    refine ⟨.str sg, rfl, .ref d, rfl, .str sg, rfl, sg, rfl, Nat.le_trans sgl (by decide), d, l, ns, _, rfl, hD4, by omega, by omega, fun k5 H5 hk5 hD5 o5 => ?_⟩
    have g5 := g4.off o5
    obtain ⟨c, hc⟩ : ∃ c, sg.cps.toList[k5]? = some c := ⟨_, List.getElem?_eq_getElem (by rw [Array.length_toList]; have : (k5 : Int) < (sg.length : Int) := hk5; have e : sg.length = sg.cps.size := rfl; omega)⟩
    have cp : c < 128 := sgp c (List.mem_of_getElem? hc)
    have psg : Plain (sgnS c) := fun x hx => by
      have : x ∈ [c] := hx
      rw [List.mem_singleton.mp this]
      exact cp
    refine ⟨sg, k5, c, rfl, rfl, Nat.le_trans sgl (by decide), atI_nat (j := k5) hc, ?_⟩
    show tSeq _ _ _ (List.set _ 5 (some (.str (sgnS c)))) H5
    have lsg : (sgnS c).length = 1 := rfl
    have bigl : ∀ {n : Nat}, n ≤ 100000 → n ≤ sizeLine := fun h => Nat.le_trans h (by decide)
    refine ⟨.int (way : Int), rfl, (way : Int), 3, rfl, rfl, _, rfl, ite2 (fun hw => ?_) (fun hw => ?_)⟩
    · have hw3 : way < 3 := by have := of_decide_eq_true hw; omega
      refine ⟨.str t, rfl, .int (at' : Int), rfl, (at' : Int), rfl, t, rfl, hz, ?_⟩
      refine ⟨.str (sgnS c), rfl, .str (sgnS c), rfl, (by show 3 ≤ sizeLine; decide), fun L2 nL2 => ?_⟩
      have hD6 := hD5.new (o := .lst [.str (sgnS c), .str Str.empty, .str (sgnS c)]) nL2
      have g6 := g5.new (o := .lst [.str (sgnS c), .str Str.empty, .str (sgnS c)]) nL2
      have hL6 : (upd H5 L2 (.lst [.str (sgnS c), .str Str.empty, .str (sgnS c)])) L2 = some (.lst [.str (sgnS c), .str Str.empty, .str (sgnS c)]) := upd_same
      obtain ⟨z, hz2, zp, zl⟩ : ∃ z, ([.str (sgnS c), .str Str.empty, .str (sgnS c)] : List V)[way]? = some (.str z) ∧ Plain z ∧ z.length ≤ 1 := by
        match way, hw3 with
        | 0, _ => exact ⟨_, rfl, psg, Nat.le_refl _⟩
        | 1, _ => exact ⟨_, rfl, plain_lit (by decide +kernel), by decide +kernel⟩
        | 2, _ => exact ⟨_, rfl, psg, Nat.le_refl _⟩
        | k + 3, h => exact absurd h (by omega)
      have c1 := cutS_length t none (some (at' : Int))
      have la : (cutS t none (some (at' : Int)) ++ z).length ≤ t.length + 1 := app_le c1 zl
      refine ⟨.int (way : Int), rfl, L2, _, way, _, rfl, rfl, SqL.of hL6, atI_nat (j := way) hz2, _, _, rfl, rfl, bigl (by omega), ?_⟩
      refine ⟨.str t, rfl, .int (at' : Int), rfl, .int (way : Int), rfl, (way : Int), 0, rfl, rfl, .inr ⟨_, rfl, (at' : Int), _, rfl, rfl, _, rfl, t, rfl, hz, ?_⟩⟩
      refine ⟨_, _, rfl, rfl, bigl (by have := cutS_length t (some ((at' : Int) + (if decide ((0 : Int) < (way : Int)) = true then 1 else 0))) none; omega), ?_⟩
      refine q _ _ hD6 g6 ?_ ((hp.cut _ _ |>.app zp).app (hp.cut _ _))
      have := app_le la (cutS_length t (some ((at' : Int) + (if decide ((0 : Int) < (way : Int)) = true then 1 else 0))) none)
      exact Nat.le_trans this (by omega)
    · have hw3 : 3 ≤ way := by
        by_cases e : (way : Int) < 3
        · exact absurd (decide_eq_true e) hw
        · omega
      refine ⟨.str t, rfl, ⟨_, rfl⟩, _, _, rfl, rfl, by decide +kernel, bigl (by omega), fun R nR => ?_⟩
      have hD6 := hD5.new (o := .lst ((Txt.split t (Str.ofString "\n")).map V.str)) nR
      have g6 := g5.new (o := .lst ((Txt.split t (Str.ofString "\n")).map V.str)) nR
      have hR6 : (upd H5 R (.lst ((Txt.split t (Str.ofString "\n")).map V.str))) R = some (.lst ((Txt.split t nlS).map V.str)) := upd_same
      show tSeq _ _ _ (List.set _ 6 (some (.ref R))) (upd H5 R (.lst ((Txt.split t (Str.ofString "\n")).map V.str)))
      generalize upd H5 R (.lst ((Txt.split t (Str.ofString "\n")).map V.str)) = H6 at hD6 g6 hR6 ⊢
      have hM : mS (Txt.split t nlS) = t.length + 1 := split_M (by decide +kernel) (split_ne t)
      have hpl : ∀ x ∈ Txt.split t nlS, Plain x := hp.part
      have hne := split_ne t
      generalize Txt.split t nlS = rows at hR6 hM hpl hne ⊢
      have lr := mS_len rows
      have lr0 := List.length_pos_iff.mpr hne
      refine ⟨.ref d, rfl, .ref R, rfl, R, _, rfl, .inl (SqL.of hR6), ?_⟩
      rw [List.length_map]
      refine ⟨d, l, ns, _, rfl, hD6, by omega, by omega, fun k H7 hk hD7 o7 => ?_⟩
      have g7 := g6.off o7
      have hR7 := keepS hD6 ((Gr.refl d _).off o7) hR6
      have hk' : k < rows.length := by omega
      have seven : ∀ (p : Addr) (H' : Hp) {xs : List Str}, Same H7 H' → H' p = some (.lst (xs.map V.str)) → True := fun _ _ _ _ _ => trivial
      refine ⟨.int (way : Int), rfl, (way : Int), 6, rfl, rfl, _, rfl, ite2 (fun hw6 => ?_) (fun hw6 => ?_)⟩
      · have hw6 : way < 6 := by have := of_decide_eq_true hw6; omega
        refine some_list (c := 3) (xs := rows) rfl rfl rfl hR7 hk' (by omega) hw3 (by omega) fun p S H8 s8 hp8 hS => ?_
        have hR8 := s8 _ _ hR7
        refine ⟨⟨_, rfl⟩, .ref R, rfl, .int (k : Int), rfl, (k : Int), rfl, ?_⟩
        refine sl_strs hR8 fun p9 H9 s9 h9 => ?_
        rw [cutL_to] at h9
        obtain ⟨S1, S2⟩ := hS
        have t1 := mS_take rows k
        have m1 := mS_len (rows.take k)
        have m2 := mS_len S
        refine ⟨.ref p, rfl, cat_strs h9 (s9 _ _ hp8) (by omega) fun p10 H10 s10 h10 => ?_⟩
        refine ⟨.ref R, rfl, .int (k : Int), rfl, (k : Int), 1, rfl, rfl, .int (way : Int), rfl, rfl, .inr ⟨_, rfl, _, _, rfl, rfl, _, rfl, ?_⟩⟩
        obtain ⟨n, hn1, hn2⟩ : ∃ n : Nat, (k : Int) + 1 + (if decide (V.int (way : Int) = V.int 5) = true then 1 else 0) = (n : Int) ∧ k + 1 ≤ n := by
          by_cases e : decide (V.int (way : Int) = V.int 5) = true
          · rw [if_pos e]; exact ⟨k + 2, by omega, by omega⟩
          · rw [if_neg e]; exact ⟨k + 1, by omega, by omega⟩
        refine no_part ?_
        show rSlL K _ (some ((k : Int) + 1 + (if decide (V.int (way : Int) = V.int 5) = true then 1 else 0))) none _ _
        rw [hn1]
        refine sl_strs (s10 _ _ (s9 _ _ hR8)) fun p11 H11 s11 h11 => ?_
        rw [cutL_from] at h11
        have md : mS (rows.drop n) ≤ mS (rows.drop (k + 1)) := by
          have := mS_drop (rows.drop (k + 1)) (n - (k + 1))
          rw [List.drop_drop, show k + 1 + (n - (k + 1)) = n by omega] at this
          exact this
        have m3 := mS_len (rows.drop n)
        refine cat_strs (s11 _ _ h10) h11 (by rw [List.length_append]; omega) fun p12 H12 s12 h12 => ?_
        have s712 := (((s8.trans s9).trans s10).trans s11).trans s12
        have mt : mS ((rows.take k ++ S) ++ rows.drop n) ≤ 2 * (t.length + 1) := by rw [mS_app, mS_app]; omega
        have ms := mS_sum ((rows.take k ++ S) ++ rows.drop n)
        have ml := mS_len ((rows.take k ++ S) ++ rows.drop n)
        refine ⟨_, p12, _, rfl, rfl, .inl (SqL.of h12), ?_, ?_⟩
        · rw [show (Str.ofString "\n").length = 1 by decide +kernel]
          omega
        · refine q _ _ (hD7.same s712) (g7.trans (Gr.of_same s712)) ?_ (Plain.join (plain_lit (by decide +kernel)) fun x hx => ?_)
          · rw [join_M (by decide +kernel)]
            omega
          · rcases List.mem_append.mp hx with hx | hx
            · rcases List.mem_append.mp hx with hx | hx
              · exact hpl x (List.mem_of_mem_take hx)
              · exact hpl x (S1 x hx)
            · exact hpl x (List.mem_of_mem_drop hx)
      · have hw6 : 6 ≤ way := by
          by_cases e : (way : Int) < 6
          · exact absurd (decide_eq_true e) hw6
          · omega
        obtain ⟨row, hrow⟩ : ∃ row, rows[k]? = some row := ⟨_, List.getElem?_eq_getElem hk'⟩
        have rowp := hpl row (List.mem_of_getElem? hrow)
        have t1 := mS_take rows k
        have t2 := mS_take (rows.drop k) 1
        rw [List.drop_drop] at t2
        have er : (rows.drop k).take 1 = [row] := by
          obtain ⟨hlt, e⟩ := List.getElem?_eq_some_iff.mp hrow
          rw [List.drop_eq_getElem_cons hlt, e, List.take_succ_cons, List.take_zero]
        rw [er] at t2
        have e1 : mS [row] = row.length + 1 := by rw [mS_cons]; rfl
        refine ⟨.ref R, rfl, .int (k : Int), rfl, R, _, k, _, rfl, rfl, SqL.of hR7, atI_nat (j := k) (by rw [List.getElem?_map, hrow]; rfl), ⟨_, rfl⟩, _, _, rfl, rfl, by decide +kernel, bigl (by omega), fun W nW => ?_⟩
        have hD8 := hD7.new (o := .lst ((Txt.split row (Str.ofString " ")).map V.str)) nW
        have g8 := g7.new (o := .lst ((Txt.split row (Str.ofString " ")).map V.str)) nW
        have hR8 := same_new (o := .lst ((Txt.split row (Str.ofString " ")).map V.str)) nW _ _ hR7
        have hW8 : (upd H7 W (.lst ((Txt.split row (Str.ofString " ")).map V.str))) W = some (.lst ((Txt.split row spS).map V.str)) := upd_same
        show tSeq _ _ _ (List.set _ 9 (some (.ref W))) (upd H7 W (.lst ((Txt.split row (Str.ofString " ")).map V.str)))
        generalize upd H7 W (.lst ((Txt.split row (Str.ofString " ")).map V.str)) = H8 at hD8 g8 hR8 hW8 ⊢
        have hMw : mS (Txt.split row spS) = row.length + 1 := split_M (by decide +kernel) (split_neS row)
        have hwl : ∀ x ∈ Txt.split row spS, Plain x := rowp.part
        have hnw := split_neS row
        generalize Txt.split row spS = words at hW8 hMw hwl hnw ⊢
        have lw := mS_len words
        have lw0 := List.length_pos_iff.mpr hnw
        refine ⟨.ref d, rfl, .ref W, rfl, W, _, rfl, .inl (SqL.of hW8), ?_⟩
        rw [List.length_map]
        refine ⟨d, l, ns, _, rfl, hD8, by omega, by omega, fun j H9 hj hD9 o9 => ?_⟩
        have g9 := g8.off o9
        have hR9 := keepS hD8 ((Gr.refl d _).off o9) hR8
        have hW9 := keepS hD8 ((Gr.refl d _).off o9) hW8
        have hj' : j < words.length := by omega
        refine some_list (c := 6) (xs := words) rfl rfl rfl hW9 hj' (by omega) hw6 (by omega) fun p S H10 s10 hp10 hS => ?_
        obtain ⟨S1, S2⟩ := hS
        have u1 := mS_take words j
        have m1 := mS_len (words.take j)
        have m2 := mS_len S
        refine ⟨.ref W, rfl, .int (j : Int), rfl, (j : Int), rfl, ?_⟩
        refine sl_strs (s10 _ _ hW9) fun p11 H11 s11 h11 => ?_
        rw [cutL_to] at h11
        refine ⟨.ref p, rfl, cat_strs h11 (s11 _ _ hp10) (by omega) fun p12 H12 s12 h12 => ?_⟩
        refine ⟨.ref W, rfl, .int (j : Int), rfl, (j : Int), 1, rfl, rfl, .int (way : Int), rfl, rfl, .inr ⟨_, rfl, _, _, rfl, rfl, _, rfl, ?_⟩⟩
        obtain ⟨n, hn1, hn2⟩ : ∃ n : Nat, (j : Int) + 1 + (if decide (V.int (way : Int) = V.int 8) = true then 1 else 0) = (n : Int) ∧ j + 1 ≤ n := by
          by_cases e : decide (V.int (way : Int) = V.int 8) = true
          · rw [if_pos e]; exact ⟨j + 2, by omega, by omega⟩
          · rw [if_neg e]; exact ⟨j + 1, by omega, by omega⟩
        refine no_part ?_
        show rSlL K _ (some ((j : Int) + 1 + (if decide (V.int (way : Int) = V.int 8) = true then 1 else 0))) none _ _
        rw [hn1]
        refine sl_strs (s12 _ _ (s11 _ _ (s10 _ _ hW9))) fun p13 H13 s13 h13 => ?_
        rw [cutL_from] at h13
        have md : mS (words.drop n) ≤ mS (words.drop (j + 1)) := by
          have := mS_drop (words.drop (j + 1)) (n - (j + 1))
          rw [List.drop_drop, show j + 1 + (n - (j + 1)) = n by omega] at this
          exact this
        have m3 := mS_len (words.drop n)
        refine cat_strs (s13 _ _ h12) h13 (by rw [List.length_append]; omega) fun W2 H14 s14 h14 => ?_
        have s914 := (((s10.trans s11).trans s12).trans s13).trans s14
        have mt : mS ((words.take j ++ S) ++ words.drop n) ≤ 2 * (row.length + 1) := by rw [mS_app, mS_app]; omega
        have ms := mS_sum ((words.take j ++ S) ++ words.drop n)
        have ml := mS_len ((words.take j ++ S) ++ words.drop n)
        have hwp : ∀ x ∈ (words.take j ++ S) ++ words.drop n, Plain x := fun x hx => by
          rcases List.mem_append.mp hx with hx | hx
          · rcases List.mem_append.mp hx with hx | hx
            · exact hwl x (List.mem_of_mem_take hx)
            · exact hwl x (S1 x hx)
          · exact hwl x (List.mem_of_mem_drop hx)
        generalize (words.take j ++ S) ++ words.drop n = words2 at h14 mt ms ml hwp ⊢
        have hR14 := s914 _ _ hR9
        -- the new rows
        refine ⟨⟨_, rfl⟩, .ref R, rfl, .int (k : Int), rfl, (k : Int), rfl, ?_⟩
        refine sl_strs hR14 fun p15 H15 s15 h15 => ?_
        rw [cutL_to] at h15
        have hW15 := s15 _ _ h14
        refine ⟨⟨_, rfl⟩, .ref W2, rfl, _, W2, _, rfl, rfl, .inl (SqL.of hW15), ?_, ?_⟩
        · rw [show (Str.ofString " ").length = 1 by decide +kernel]
          omega
        have hnr : (Txt.join (Str.ofString " ") words2).length ≤ 2 * row.length + 1 := by rw [join_M (by decide +kernel)]; omega
        have hnp : Plain (Txt.join (Str.ofString " ") words2) := Plain.join (plain_lit (by decide +kernel)) hwp
        generalize Txt.join (Str.ofString " ") words2 = row2 at hnr hnp ⊢
        refine ⟨(by show 1 ≤ sizeLine; decide), fun L3 nL3 => ?_⟩
        have s16 := same_new (o := .lst [V.str row2]) nL3
        have h16 : (upd H15 L3 (.lst [V.str row2])) L3 = some (.lst ([row2].map V.str)) := upd_same
        show rCat _ _ (upd H15 L3 (.lst [V.str row2])) _
        generalize upd H15 L3 (.lst [V.str row2]) = H16 at s16 h16 ⊢
        have n1 := mS_len (rows.take k)
        refine cat_strs (s16 _ _ h15) h16 (by show _ + 1 ≤ _; omega) fun p17 H17 s17 h17 => ?_
        refine ⟨.ref R, rfl, .int (k : Int), rfl, (k : Int), 1, rfl, rfl, _, rfl, ?_⟩
        refine no_part ?_
        refine sl_strs (s17 _ _ (s16 _ _ (s15 _ _ hR14))) fun p18 H18 s18 h18 => ?_
        rw [show (k : Int) + 1 = ((k + 1 : Nat) : Int) by omega, cutL_from] at h18
        have n2 := mS_len (rows.drop (k + 1))
        refine cat_strs (s18 _ _ h17) h18 (by rw [List.length_append]; show _ + 1 + _ ≤ _; omega) fun p19 H19 s19 h19 => ?_
        have s1419 := ((((s15.trans s16).trans s17).trans s18).trans s19)
        have s919 := s914.trans s1419
        have e2 : mS [row2] = row2.length + 1 := by rw [mS_cons]; rfl
        have mt2 : mS ((rows.take k ++ [row2]) ++ rows.drop (k + 1)) ≤ 2 * (t.length + 1) := by rw [mS_app, mS_app]; omega
        have ms2 := mS_sum ((rows.take k ++ [row2]) ++ rows.drop (k + 1))
        have ml2 := mS_len ((rows.take k ++ [row2]) ++ rows.drop (k + 1))
        refine ⟨_, p19, _, rfl, rfl, .inl (SqL.of h19), ?_, ?_⟩
        · rw [show (Str.ofString "\n").length = 1 by decide +kernel]
          omega
        · refine q _ _ (hD9.same s919) (g9.trans (Gr.of_same s919)) ?_ (Plain.join (plain_lit (by decide +kernel)) fun x hx => ?_)
          · rw [join_M (by decide +kernel)]
            omega
          · rcases List.mem_append.mp hx with hx | hx
            · rcases List.mem_append.mp hx with hx | hx
              · exact hpl x (List.mem_of_mem_take hx)
              · rw [List.mem_singleton.mp hx]; exact hnp
            · exact hpl x (List.mem_of_mem_drop hx)
end
section
open TL
variable {P : Program} {w : World} {K : PySem.W.Frag} {mg : Str → Option Value} {base : Heap} {C : Addr}
/-! ### _law_word -/
theorem scLw : FnScope ["_law_text", "e"] ["_law_text"] (defScope sLawWord) := ⟨rfl, rfl, rfl, by decide +kernel, rfl, by decide +kernel, by decide +kernel⟩
def textS : Str := "text"
def chainS : Str := "chain"
def spLw (T : Addr) : Sp := fun vs H Q _ => ∃ (t : Str), vs = [.str t] ∧ t.length ≤ 90000 ∧ GxR.TabG H T ∧
  ((∃ k : Nat, readOf t = .bad k ∧ ∀ a H', Gr T H H' → GxR.TabG H' T → H' a = some (.tup [.str textS, .int (k : Int)]) → Q (.ref a) H') ∨
   (∃ many ms, readOf t = .told many ms ∧ BadTold many ms ∧ ms.length ≤ 1000 ∧ ∀ a H', Gr T H H' → GxR.TabG H' T → H' a = some (.tup [.str chainS, .int 0]) → Q (.ref a) H'))
def tLT (K : PySem.W.Frag) (CT CB c1 c2 c3 c4 c5 : Addr) (a : Addr) (cls : Value) (d : Option Addr) : TS :=
  tSeq (tIfS (tOr (tNot (tB (tCB (rIsD K CT a (d.getD 0)) (tCons (tVar 1) (tCons (tC (.ty "ValueError")) tNil))))) (tB (tCB (rExD K CT a (d.getD 0)) (tCons (tVar 1) (tCons (tpl5 c1 c2 c3 c4 c5) tNil))))) (tRet (tTup (tCons (tC (.str "other")) (tCons (tC (.int 0)) tNil)))) tNext)
    (tSeq (tIfS (tAnd (tB (tCB (rIsD K CT a (d.getD 0)) (tCons (tVar 1) (tCons (tC (.ref CT)) tNil)))) (tAnd (tNot (tB (tCB (rIsD K CT a (d.getD 0)) (tCons (tVar 1) (tCons (tC (.ref CB)) tNil))))) (tNot (tB (tCB (rIsi K) (tCons (tXf a cls d CT "row" (tVar 1)) (tCons (tC (.ty "bool")) tNil)))))))
        (tRet (tTup (tCons (tC (.str "text")) (tCons (tXf a cls d CT "row" (tVar 1)) tNil)))) tNext) tNever)
def tLC (K : PySem.W.Frag) (CT CB c1 c2 c3 c4 c5 : Addr) (a : Addr) : TS :=
  tSeq (tIfS (tOr (tNot (tB (tCB (rIsE K CB a) (tCons (tVar 1) (tCons (tC (.ty "ValueError")) tNil))))) (tB (tCB (rExT K CB a) (tCons (tVar 1) (tCons (tpl5 c1 c2 c3 c4 c5) tNil))))) (tRet (tTup (tCons (tC (.str "other")) (tCons (tC (.int 0)) tNil)))) tNext)
    (tSeq (tIfS (tAnd (tB (tCB (rIsE K CB a) (tCons (tVar 1) (tCons (tC (.ref CT)) tNil)))) (tAnd (tNot (tB (tCB (rIsE K CB a) (tCons (tVar 1) (tCons (tC (.ref CB)) tNil))))) (fun _ _ _ => False))) tNever tNext)
      (tRet (tIf (tAnd (tB (tCB (rIsE K CB a) (tCons (tVar 1) (tCons (tC (.ref CB)) tNil)))) (tNot (tB (tCB (rIsE K CB a) (tCons (tVar 1) (tCons (tC (.ref CT)) tNil)))))) (tTup (tCons (tC (.str "chain")) (tCons (tC (.int 0)) tNil))) (tTup (tCons (tC (.str "other")) (tCons (tC (.int 0)) tNil))))))
/-- what is never asked -/
theorem pt_never {X : Cx} {e : Expr} : PT X e (fun _ _ _ => False) := ⟨fun _ _ _ _ _ _ h => h.elim⟩
theorem ok_lword {f fR CL CT CB c1 c2 c3 c4 c5 tM : Addr} {fd fdR : FuncData} (F : Fun K "_law_word" "_law_word" sLawWord f fd) (R : RefT K mg CL CT CB c1 c2 c3 c4 c5) (DR : Df K mg "read" sRead ["text"] fR fdR)
    (G1 : FnOk P w K mg base (L2.CX P w) 4 fR fdR ["text"] (spRdT CT)) (G2 : FnOk P w K mg base (L2.CX P w) 4 fR fdR ["text"] (spRdC CB tM)) :
    FnOk P w K mg base CX0 5 f fd ["_law_text"] (spLw tM) := by
  have GB := FnOk.or G1 G2
  refine F.ok scLw (fun vs H Q E h => ?_) (fun cdv A outer s H vs Q E hr h => ?_)
  · obtain ⟨t, rfl, _⟩ := h
    rfl
  · obtain ⟨t, rfl, hl, hTab, hcase⟩ := h
    refine ⟨_, pss_cons (ps_try_as (i := 1) (tb := fun W => tDrop (tCallS (fun vs H Q E => spRdT CT vs H Q E ∨ spRdC CB tM vs H Q E) (WE W) (tCons (tVar 0) tNil)))
        (ts := fun a cls d D σ H => ((cls = .ref CT ∧ d = some (d.getD 0)) ∧ tLT K CT CB c1 c2 c3 c4 c5 a cls d D σ H) ∨ ((cls = .ref CB ∧ d = none) ∧ tLC K CT CB c1 c2 c3 c4 c5 a D σ H)) (Wout := fun _ _ _ _ => False) rfl rfl scLw.nd rfl rfl ⟨rfl, by decide, .inl R.gL⟩ takes0
        (fun W pn xe tk _ => pss_one (ps_expr (by exact (pe_callS GB hr (by rfl) DR.g DR.F.kp DR.b (fun σ => passAt tk σ) (by exact (pa_cons (pv 0) pa_nil))))))
        (fun a oe cls d pn hz hf => pss_or (fun hp => by
          obtain ⟨rfl, hd⟩ := hp
          cases d with
          | none => cases hd
          | some dd =>
            exact (pss_cons (ps_if (PW.pt (pw_or (pt_not (pt_val (pe_callB (call_isD R.ET hz hf) (by rfl) R.mi (by decide +kernel) (pa_cons (pv 1) (pa_cons (pe_bltn (v := .ty "ValueError") (by rfl) R.mv (by decide +kernel) rfl) pa_nil)))))
                (pw_or1 (pt_val (pe_callB (call_exD R.ET hz hf) (by rfl) R.mi (by decide +kernel) (pa_cons (pv 1) (pa_cons (pe_tup (pa_cons (pe_glob (v := .ref c1) (by rfl) R.g1 rfl) (pa_cons (pe_glob (v := .ref c2) (by rfl) R.g2 rfl) (pa_cons (pe_glob (v := .ref c3) (by rfl) R.g3 rfl) (pa_cons (pe_glob (v := .ref c4) (by rfl) R.g4 rfl) (pa_cons (pe_glob (v := .ref c5) (by rfl) R.g5 rfl) pa_nil)))))) pa_nil))))))) (pss_one (ps_ret (pe_tup (pa_cons pe_str (pa_cons pe_int pa_nil))))) pss_nil)
              (pss_cons (ps_if (PW.pt (pw_and (pt_val (pe_callB (call_isD R.ET hz hf) (by rfl) R.mi (by decide +kernel) (pa_cons (pv 1) (pa_cons (pe_glob (v := .ref CT) (by rfl) R.gT rfl) pa_nil))))
                (pw_and (pt_not (pt_val (pe_callB (call_isD R.ET hz hf) (by rfl) R.mi (by decide +kernel) (pa_cons (pv 1) (pa_cons (pe_glob (v := .ref CB) (by rfl) R.gC rfl) pa_nil)))))
                (pw_and1 (pt_not (pt_val (pe_callB call_isi (by rfl) R.mi (by decide +kernel) (pa_cons (pe_xf (excXf R.ET) R.fld hz hf (pv 1)) (pa_cons (pe_bltn (v := .ty "bool") (by rfl) R.mb (by decide +kernel) rfl) pa_nil))))))))) (pss_one (ps_ret (pe_tup (pa_cons pe_str (pa_cons (pe_xf (excXf R.ET) R.fld hz hf (pv 1)) pa_nil))))) pss_nil)
              pss_never))
            )
          (fun hp => by
          obtain ⟨rfl, rfl⟩ := hp
          exact (pss_cons (ps_if (PW.pt (pw_or (pt_not (pt_val (pe_callB (call_isE R.EC hz hf) (by rfl) R.mi (by decide +kernel) (pa_cons (pv 1) (pa_cons (pe_bltn (v := .ty "ValueError") (by rfl) R.mv (by decide +kernel) rfl) pa_nil)))))
                (pw_or1 (pt_val (pe_callB (call_exT R.EC hz hf) (by rfl) R.mi (by decide +kernel) (pa_cons (pv 1) (pa_cons (pe_tup (pa_cons (pe_glob (v := .ref c1) (by rfl) R.g1 rfl) (pa_cons (pe_glob (v := .ref c2) (by rfl) R.g2 rfl) (pa_cons (pe_glob (v := .ref c3) (by rfl) R.g3 rfl) (pa_cons (pe_glob (v := .ref c4) (by rfl) R.g4 rfl) (pa_cons (pe_glob (v := .ref c5) (by rfl) R.g5 rfl) pa_nil)))))) pa_nil))))))) (pss_one (ps_ret (pe_tup (pa_cons pe_str (pa_cons pe_int pa_nil))))) pss_nil)
              (pss_cons (ps_if (PW.pt (pw_and (pt_val (pe_callB (call_isE R.EC hz hf) (by rfl) R.mi (by decide +kernel) (pa_cons (pv 1) (pa_cons (pe_glob (v := .ref CT) (by rfl) R.gT rfl) pa_nil))))
                (pw_and (pt_not (pt_val (pe_callB (call_isE R.EC hz hf) (by rfl) R.mi (by decide +kernel) (pa_cons (pv 1) (pa_cons (pe_glob (v := .ref CB) (by rfl) R.gC rfl) pa_nil))))) (pw_and1 pt_never)))) pss_never pss_nil)
              (pss_one (ps_ret (pe_ifExp (PW.pt (pw_and (pt_val (pe_callB (call_isE R.EC hz hf) (by rfl) R.mi (by decide +kernel) (pa_cons (pv 1) (pa_cons (pe_glob (v := .ref CB) (by rfl) R.gC rfl) pa_nil)))) (pw_and1 (pt_not (pt_val (pe_callB (call_isE R.EC hz hf) (by rfl) R.mi (by decide +kernel) (pa_cons (pv 1) (pa_cons (pe_glob (v := .ref CT) (by rfl) R.gT rfl) pa_nil))))))))
                (pe_tup (pa_cons pe_str (pa_cons pe_int pa_nil))) (pe_tup (pa_cons pe_str (pa_cons pe_int pa_nil)))))))))))
      (pss_one (ps_ret pe_non)), ?_⟩
    refine ⟨.str t, rfl, ?_⟩
    have jl : t.length + 2 ≤ 1000000 := by omega
    rcases hcase with ⟨k, hrd, q⟩ | ⟨many, ms, hrd, hbad, hml, q⟩
    · refine .inl ⟨_, k, rfl, jl, hrd, fun d H1 s1 hd => ?_⟩
      refine ⟨true, R.exT, fun _ a na => .inl ⟨⟨rfl, rfl⟩, ?_⟩, fun z => nomatch z⟩
      refine ⟨.ref a, rfl, .ty "ValueError", _, true, _, rfl, (fun u r => r), R.valT, hd, true, rfl, ?_⟩
      refine ⟨.ref a, rfl, (by show 5 ≤ sizeLine; decide), fun tp ntp => ?_⟩
      have s2 := same_new (o := .tup [.ref c1, .ref c2, .ref c3, .ref c4, .ref c5]) ntp
      have hd2 := s2 _ _ hd
      refine ⟨tp, _, _, false, _, rfl, upd_same, .cons (.own _) (.cons (.own _) (.cons (.own _) (.cons (.own _) (.cons (.own _) .nil)))), R.noT, hd2, false, rfl, iteF ?_⟩
      refine ⟨.ref a, rfl, .ref CT, _, true, _, rfl, (fun u r => r), R.tt, hd2, true, rfl, iteT ?_⟩
      refine ⟨.ref a, rfl, .ref CB, _, false, _, rfl, (fun u r => r), R.tc, hd2, false, rfl, iteT ?_⟩
      refine ⟨.ref a, rfl, rfl, rfl, d, _, .int (k : Int), rfl, hd2, rfl, .int (k : Int), .ty "bool", .type "int", .type "bool", false, rfl, .ty _, .base (.int _), kit_ty (by decide +kernel), false, rfl, iteT ?_⟩
      refine ⟨.ref a, rfl, rfl, rfl, d, _, .int (k : Int), rfl, hd2, rfl, (by show 2 ≤ sizeLine; decide), fun r nr => ?_⟩
      have s3 := same_new (o := .tup [.str textS, .int (k : Int)]) nr
      exact q r _ (Gr.of_same ((s1.trans s2).trans s3)) (tab_same ((s1.trans s2).trans s3) hTab) upd_same
    · refine .inr ⟨_, many, ms, rfl, jl, hrd, hbad, hml, hTab, fun H1 g1 hT1 => ?_⟩
      refine ⟨true, R.exC, fun _ a na => .inr ⟨⟨rfl, rfl⟩, ?_⟩, fun z => nomatch z⟩
      refine ⟨.ref a, rfl, .ty "ValueError", _, true, rfl, (fun u r => r), R.valC, true, rfl, ?_⟩
      refine ⟨.ref a, rfl, (by show 5 ≤ sizeLine; decide), fun tp ntp => ?_⟩
      have s2 := same_new (o := .tup [.ref c1, .ref c2, .ref c3, .ref c4, .ref c5]) ntp
      refine ⟨tp, _, _, false, rfl, upd_same, .cons (.own _) (.cons (.own _) (.cons (.own _) (.cons (.own _) (.cons (.own _) .nil)))), R.noC, false, rfl, iteF ?_⟩
      refine ⟨.ref a, rfl, .ref CT, _, false, rfl, (fun u r => r), R.ct, false, rfl, iteF (iteF ?_)⟩
      refine ⟨.ref a, rfl, .ref CB, _, true, rfl, (fun u r => r), R.cc, true, rfl, iteT ?_⟩
      refine ⟨.ref a, rfl, .ref CT, _, false, rfl, (fun u r => r), R.ct, false, rfl, ?_⟩
      refine iteT ⟨(by show 2 ≤ sizeLine; decide), fun r nr => ?_⟩
      have s3 := same_new (o := .tup [.str chainS, .int 0]) nr
      exact q r _ (g1.trans (Gr.of_same (s2.trans s3))) (tab_same (s2.trans s3) hT1) upd_same
end
section
open TL
variable {P : Program} {w : World} {K : PySem.W.Frag} {mg : Str → Option Value} {base : Heap} {C : Addr}
/-! ### the law -/
theorem writeS_many {many : Int} {ms : List Mv} (h : ∀ m ∈ ms, Small m) : 4 * ms.length ≤ (writeS many ms).length := by
  unfold writeS
  rw [join_M (by decide +kernel), mS_cons]
  have e : ∀ l : List Mv, (∀ m ∈ l, Small m) → 4 * l.length ≤ mS (l.map rowS) := fun l => by
    induction l with
    | nil => intro _; exact Nat.zero_le _
    | cons m l ih =>
      intro h
      have h1 := ih fun x hx => h x (List.mem_cons_of_mem _ hx)
      have h2 : 4 ≤ (rowS m).length := by
        unfold rowS
        rw [join_M (by decide +kernel), mS_cons, mS_cons, show mvS.length = 4 by decide +kernel]
        omega
      rw [List.map_cons, mS_cons, List.length_cons]
      omega
  have := e ms h
  omega
theorem write_len2 {many : Nat} {ms : List Mv} (G : Good many ms) : (writeS (many : Int) ms).length ≤ 380 := by
  have m6 := G.m6
  have l8 := G.l8
  have h2 := sum_le (l := (headS (many : Int) :: ms.map rowS).map (·.length)) (b := 40) fun x hx => by
    obtain ⟨p, hp, rfl⟩ := List.mem_map.mp hx
    rcases List.mem_cons.mp hp with e | hp
    · rw [e]
      have := headS_len (many := (many : Int)) (by omega) (by omega)
      omega
    · obtain ⟨m', hm', rfl⟩ := List.mem_map.mp hp
      have := rowS_len (G.small m' hm')
      have := (G.mv m' hm').2.2.1
      omega
  have l1 : nlS.length = 1 := by decide +kernel
  have l2 : (headS (many : Int) :: ms.map rowS).length = ms.length + 1 := by rw [List.length_cons, List.length_map]
  have h := join_len nlS (headS (many : Int) :: ms.map rowS)
  rw [List.length_map, l2] at h2
  rw [l1, l2] at h
  unfold writeS
  omega
theorem numL_plain (n : Nat) : ∀ c ∈ numL n, c < 128 := fun c hc => by
  by_cases h : 57 < c
  · exact absurd hc (numL_free (.inr h))
  · omega
theorem nS_plain {z : Int} (h0 : 0 ≤ z) : Plain (nS z) := fun c hc => by
  have e : z = ((z.toNat : Nat) : Int) := by omega
  rw [e, tl_nS] at hc
  exact numL_plain _ c hc
theorem rowS_plain {m : Mv} (h : Small m) : Plain (rowS m) := by
  unfold rowS
  refine Plain.join (plain_lit (by decide +kernel)) fun p hp => ?_
  rcases List.mem_cons.mp hp with e | hp
  · rw [e]; exact plain_lit (by decide +kernel)
  · rcases List.mem_cons.mp hp with e | hp
    · rw [e]; exact (nS_plain h.1).app (plain_lit (by decide +kernel))
    · obtain ⟨z, hz, rfl⟩ := List.mem_map.mp hp
      exact nS_plain (h.2.2.2 z hz).1
theorem writeS_plain {many : Nat} {ms : List Mv} (h : ∀ m ∈ ms, Small m) : Plain (writeS (many : Int) ms) := by
  unfold writeS
  refine Plain.join (plain_lit (by decide +kernel)) fun p hp => ?_
  rcases List.mem_cons.mp hp with e | hp
  · rw [e]
    unfold headS
    exact ((plain_lit (by decide +kernel)).app (plain_lit (by decide +kernel))).app (nS_plain (by omega))
  · obtain ⟨m, hm, rfl⟩ := List.mem_map.mp hp
    exact rowS_plain (h m hm)
theorem scLaw : FnScope ["_law_script", "_law_d", "_law_turn", "_law_many", "_law_moves", "_law_rows", "_law_weight", "_law_whither", "_law_text", "_law_change", "_law_row", "_law_told", "_law_chain_here", "_law_place"] ["_law_script"] (defScope sLaw) := ⟨rfl, rfl, rfl, by decide +kernel, rfl, by decide +kernel, by decide +kernel⟩
theorem ok_law {f fc fd' fo fh fSp fLr fM' fG' fLw fIc fRd fWt fP fT tM : Addr} {fd fdc fdd fdo fdh fdSp fdLr fdM' fdG' fdLw fdIc fdRd fdWt fdP fdT : FuncData} (F : Fun K "law" "law" sLaw f fd) (T : LawTxt K mg fc fd' fo fdc fdd fdo) (Dh : Df K mg "_law_chain" sChain ["_law_d", "_law_most"] fh fdh)
    (DSp : Df K mg "_law_spoilt" sLawSpoilt ["_law_d", "_law_text"] fSp fdSp) (DLr : Df K mg "_law_read" sLawRead ["_law_text"] fLr fdLr) (DMl : Df K mg "_law_move" sLawMove ["_law_words"] fM' fdM') (DFg : Df K mg "_law_figure" sLawFigure ["_law_word_here"] fG' fdG') (DLw : Df K mg "_law_word" sLawWord ["_law_text"] fLw fdLw) (DIc : Df K mg "_law_is_chain" sLawIsChain ["_law_many", "_law_moves"] fIc fdIc)
    (DWt : Df K mg "written" sWritten ["chain"] fWt fdWt) (DRd : Df K mg "read" sRead ["text"] fRd fdRd) (CM : ChM K C fP fT fdP fdT)
    (GLw : FnOk P w K mg base CX0 5 fLw fdLw ["_law_text"] (spLw tM)) (GRd : FnOk P w K mg base CX0 4 fRd fdRd ["text"] (spRd C tM)) (GWt : FnOk P w K mg base CX0 2 fWt fdWt ["chain"] (spWt C)) (mL : mg "list" = none) (mS : mg "str" = none) : FnOk P w K mg base CX0 6 f fd ["_law_script"] (spLaw K tM) := by
  have GC : FnOk P w K mg base CX0 1 fc fdc ["_law_script", "_law_k"] (spCell K) := ok_cell T.FC T.ml
  have GD' : FnOk P w K mg base CX0 2 fd' fdd ["_law_script", "_law_k"] (spDice K) := T.dice
  have GO : FnOk P w K mg base CX0 2 fo fdo ["_law_d", "_law_most"] (spOff K) := T.off
  have GH : FnOk P w K mg base CX0 3 fh fdh ["_law_d", "_law_most"] (spChain K) := ok_chain Dh.F T
  have GSp : FnOk P w K mg base CX0 3 fSp fdSp ["_law_d", "_law_text"] (spSp K) := ok_spoilt DSp.F T
  have GLr : FnOk P w K mg base CX0 3 fLr fdLr ["_law_text"] spLr := ok_lread DLr.F DFg DMl T.ml T.mr T.mi mS T.mt
  have GIc : FnOk P w K mg base CX0 1 fIc fdIc ["_law_many", "_law_moves"] (spIc K) := ok_ischain DIc.F T.ml
  have GP : FnOk P w K mg base CX0 1 fP fdP ["self"] (spPlaces C) := ok_places CM.FP CM.cl CM.nM
  have GT : FnOk P w K mg base CX0 1 fT fdT ["self"] (spTold C) := ok_told CM.FT CM.cl CM.nV mL
  refine F.ok scLaw (fun vs H Q E h => ?_) (fun cdv A outer s H vs Q E hr h => ?_)
  · obtain ⟨a, ns, rfl, _⟩ := h
    rfl
  · obtain ⟨a, ns, rfl, hS, hl, hTM, q⟩ := h
    have hu := hu64 hr
    have r1 : Room 1 _ := hr.mono (by decide)
    have r2 : Room 2 _ := hr.mono (by decide)
    have r3 : Room 3 _ := hr.mono (by decide)
    have r4 : Room 4 _ := hr.mono (by decide)
    refine ⟨_, (pss_cons (ps_set (i := 1) scLaw.nd rfl (.inl rfl) (pe_call GD' r2 (by rfl) T.gD T.FD.kp T.bD .nil pass0 (pa_cons (pv 0) (pa_cons pe_int pa_nil))))
      (pss_cons (ps_for PassesOwn.never rfl (pi_range1 (by rfl) T.mr (pa_cons pe_int pa_nil)) (pg_name (i := 2) scLaw.nd rfl (.inl rfl)) (pss_cons (ps_asg (pe_call GH r3 (by rfl) Dh.g Dh.F.kp Dh.b .nil pass0 (pa_cons (pv 1) (pa_cons pe_int pa_nil))) (pg_tup rfl (pgs_cons (pg_name (i := 3) scLaw.nd rfl (.inl rfl)) (pgs_cons (pg_name (i := 4) scLaw.nd rfl (.inl rfl)) pgs_nil))))
      (pss_cons (ps_set (i := 5) scLaw.nd rfl (.inl rfl) (pe_lst (pa_cons (pe_op op_add_str pe_str (pe_callTy call_str_int (by rfl) mS (by decide +kernel) (pa_cons (pv 3) pa_nil))) pa_nil)))
      (pss_cons (ps_for PassesOwn.never rfl (pi_list (pv 4)) (pg_tup rfl (pgs_cons (pg_name (i := 6) scLaw.nd rfl (.inl rfl)) (pgs_cons (pg_name (i := 7) scLaw.nd rfl (.inl rfl)) pgs_nil))) (pss_one (ps_expr (pe_bm PySem.F.plainAttrs_list PySem.F.slot_list_append PySem.F.type_list_append mt_append (pv 5) (pa_cons (pe_op op_add_str (pe_op op_add_str (pe_op op_add_str pe_str (pe_callTy call_str_int (by rfl) mS (by decide +kernel) (pa_cons (pv 6) pa_nil))) pe_str) (pe_join pe_str (pe_lc (own := [("_law_place", 13)]) (g := gName 13) (tt := tYes) (te := (tCB rStrI (tCons (tVar 13) tNil))) rfl scLaw.nd (pi_tup (pv 7)) (blkOk_by (N := ["_law_script", "_law_d", "_law_turn", "_law_many", "_law_moves", "_law_rows", "_law_weight", "_law_whither", "_law_text", "_law_change", "_law_row", "_law_told", "_law_chain_here", "_law_place"]) (sc := defScope sLaw) (by decide +kernel)) (fun _ _ _ _ _ => by exact (pg_name (i := 13) scLaw.nd rfl (.inl rfl))) (fun _ _ _ _ _ => pts_nil) (fun _ _ _ _ _ => by exact (pe_callTy call_str_int (by rfl) mS (by decide +kernel) (pa_cons (pv 13) pa_nil)))))) pa_nil)))))
      (pss_cons (ps_set (i := 8) scLaw.nd rfl (.inl rfl) (pe_join pe_str (pv 5)))
      (pss_cons (ps_for PassesOwn.never rfl (pi_range1 (by rfl) T.mr (pa_cons (pe_call GO r2 (by rfl) T.gO T.FO.kp T.bO .nil pass0 (pa_cons (pv 1) (pa_cons pe_int pa_nil))) pa_nil)) (pg_name (i := 9) scLaw.nd rfl (.inl rfl)) (pss_one (ps_set (i := 8) scLaw.nd rfl (.inl rfl) (pe_call GSp r3 (by rfl) DSp.g DSp.F.kp DSp.b .nil pass0 (pa_cons (pv 1) (pa_cons (pv 8) pa_nil))))))
      (pss_cons (ps_asg (pe_call GLr r3 (by rfl) DLr.g DLr.F.kp DLr.b .nil pass0 (pa_cons (pv 8) pa_nil)) (pg_tup rfl (pgs_cons (pg_name (i := 10) scLaw.nd rfl (.inl rfl)) (pgs_cons (pg_name (i := 11) scLaw.nd rfl (.inl rfl)) pgs_nil))))
      (pss_one (ps_if (pt_cmpR op_notN (pv 10) pe_non (nomark _)) (pss_one (ps_if (pt_cmpR (op_neD hu) (pe_call GLw hr (by rfl) DLw.g DLw.F.kp DLw.b .nil pass0 (pa_cons (pv 8) pa_nil)) (pe_tup (pa_cons pe_str (pa_cons (pv 10) pa_nil))) (nomark _)) (pss_one (ps_ret pe_bl)) pss_nil)) (pss_one (ps_if (pt_not (pt_val (pe_call GIc r1 (by rfl) DIc.g DIc.F.kp DIc.b .nil pass0 (pa_cons (pe_ix ix_tup (pv 11) pe_int (fun _ _ => rfl)) (pa_cons (pe_ix ix_tup (pv 11) pe_int (fun _ _ => rfl)) pa_nil))))) (pss_one (ps_if (pt_cmpR (op_neD hu) (pe_call GLw hr (by rfl) DLw.g DLw.F.kp DLw.b .nil pass0 (pa_cons (pv 8) pa_nil)) (pe_tup (pa_cons pe_str (pa_cons pe_int pa_nil))) (nomark _)) (pss_one (ps_ret pe_bl)) pss_nil)) (pss_cons (ps_set (i := 12) scLaw.nd rfl (.inl rfl) (pe_call GRd r4 (by rfl) DRd.g DRd.F.kp DRd.b .nil pass0 (pa_cons (pv 8) pa_nil)))
      (pss_one (ps_if (PW.pt (pw_or (pt_cmpR op_ne (pe_meth0 (pv 12) CM.cl CM.hP GP r1 CM.bP .nil pass0) (pe_ix ix_tup (pv 11) pe_int (fun _ _ => rfl)) (nomark _)) (pw_or (pt_cmpR (op_neD hu) (pe_meth0 (pv 12) CM.cl CM.hT GT r1 CM.bT .nil pass0) (pe_ix ix_tup (pv 11) pe_int (fun _ _ => rfl)) (nomark _)) (pw_or1 (pt_cmpR op_ne (pe_call GWt r2 (by rfl) DWt.g DWt.F.kp DWt.b .nil pass0 (pa_cons (pv 12) pa_nil)) (pv 8) (nomark _)))))) (pss_one (ps_ret pe_bl)) pss_nil))))))))))))))
      (pss_one (ps_ret pe_bl)))), ?_⟩
    refine ⟨.ref a, rfl, a, ns, 0, rfl, hS, hl, by decide, fun H1 d s1 nd1 hD1 => ?_⟩
    have hTM1 := tab_same s1 hTM
    refine ⟨6, rfl, by decide, by decide, ?_⟩
    refine for_range (lo := 0) (n := ((6 : Int)).toNat) (fun i σ H' => ∃ y2 y3 y4 y5 y6 y7 y8 y9 y10 y11 y12, σ = [some (.ref a), some (.ref d), y2, y3, y4, y5, y6, y7, y8, y9, y10, y11, y12, none] ∧ GxR.TabG H' tM ∧ Dc K a ns H' d)
      ⟨none, none, none, none, none, none, none, none, none, none, none, rfl, hTM1, hD1⟩ ?_ ?_
    · rintro i σ H2 hi ⟨y2, y3, y4, y5, y6, y7, y8, y9, y10, y11, y12, rfl, hM2, hD2⟩
      refine ⟨.ref d, rfl, d, a, ns, 6, rfl, hD2, by decide, by decide, fun t m many ws ms H3 G _ hT hD3 g3 => ?_⟩
      have hM3 := tab_gr hD2 g3 hM2
      have m1 := G.m1
      have m6 := G.m6
      have l8 := G.l8
      have sm := G.small
      have em : (Str.ofString "places " ++ Str.ofString (toString (many : Int))) = headS (many : Int) := (headS_told _).symm
      have h2l := nS_len (z := (many : Int)) (by omega) (by omega)
      have lp : (Str.ofString "places ").length = 7 := by decide +kernel
      have lm : (Str.ofString "move ").length = 5 := by decide +kernel
      have lc : (Str.ofString ": ").length = 2 := by decide +kernel
      refine ⟨t, _, rfl, SqT.of hT.1, rfl, _, _, rfl, _, _, rfl, rfl, ?_⟩
      refine ⟨_, rfl, (many : Int), rfl, log_100 (by omega) (by omega), ?_⟩
      refine ⟨_, _, rfl, rfl, le1k (by rw [lp]; show 7 + (nS (many : Int)).length ≤ 1000; omega), (by show 1 ≤ sizeLine; decide), fun R nR => ?_⟩
      rw [em]
      have s4 := same_new (o := .lst [V.str (headS (many : Int))]) nR
      have hR : (upd H3 R (.lst [V.str (headS (many : Int))])) R = some (.lst [V.str (headS (many : Int))]) := upd_same
      have hT4 := hT.same s4
      have hM4 := tab_same s4 hM3
      have hD4 := hD3.same s4
      have nmR : m ≠ R := ne_of_none hT.2.1 nR
      have nRT : tM ≠ R := fun z => by
        obtain ⟨ps, e, _⟩ := hM3
        rw [z, nR] at e
        cases e
      have nRd : R ≠ d := hD3.ne nR
      generalize upd H3 R (.lst [V.str (headS (many : Int))]) = H4 at s4 hR hT4 hM4 hD4 ⊢
      refine ⟨.ref m, rfl, m, rfl, ⟨_, SqL.of hT4.2.1⟩, ?_⟩
      refine for_list (K := K) (a := m) (xs := ws) (fun i' σ H' => ∃ y6 y7, σ = [some (.ref a), some (.ref d), some (.int (0 + (i : Int))), some (.int (many : Int)), some (.ref m), some (.ref R), y6, y7, y8, y9, y10, y11, y12, none] ∧ (∀ b o, b ≠ R → H4 b = some o → H' b = some o) ∧ Dc K a ns H' d ∧ H' R = some (.lst ((headS (many : Int) :: (ms.take i').map rowS).map V.str)))
        ⟨y6, y7, rfl, fun _ _ _ e => e, hD4, by rw [List.take_zero]; exact hR⟩ (fun i σ H' _ ⟨_, _, _, k, _⟩ => SqL.of (k _ _ nmR hT4.2.1)) ?_ ?_
      · rintro i' v σ H5 hv ⟨y6, y7, rfl, k5, hD5, hR5⟩
        obtain ⟨mv, emv, ta, tb, rfl, hta, htb⟩ := hT4.2.2.get' hv
        have gm := G.mv mv (List.mem_of_getElem? emv)
        have hta5 := k5 _ _ (fun z => by rw [z, hR] at hta; cases hta) hta
        have htb5 := k5 _ _ (fun z => by rw [z, hR] at htb; cases htb) htb
        have sv := sm mv (List.mem_of_getElem? emv)
        have l5 : (nS mv.1).length ≤ 2 := nS_len sv.1 sv.2.1
        have la : ∀ a b : Str, (a ++ b).length = a.length + b.length := fun a b => by rw [len_tl, tl_append, List.length_append, ← len_tl, ← len_tl]
        have ll : (mv.2.map nS).length = many := by rw [List.length_map, gm.2.2.1]
        refine ⟨ta, _, rfl, SqT.of hta5, rfl, _, _, rfl, _, _, rfl, rfl, ?_⟩
        refine ⟨.ref R, rfl, .inl ⟨rfl, _, SqL.of hR5⟩, .int mv.1, rfl, _, rfl, log_100 sv.1 (by have := sv.2.1; omega), _, _, rfl, rfl, le1k (by rw [lm]; show 5 + (nS mv.1).length ≤ 1000; omega), _, _, rfl, rfl, le1k (by rw [lc, la, lm]; show 5 + (nS mv.1).length + 2 ≤ 1000; omega), ⟨_, rfl⟩, .ref tb, rfl, tb, rfl, ⟨_, SqT.of htb5⟩, fun D nD => ?_⟩
        refine lc_tup (K := K) (a := tb) (xs := mv.2.map V.int) (fun e H' => Same H5 H' ∧ H' D = some (.lst (((mv.2.map nS).take e).map V.str))) ⟨same_new nD, upd_same⟩ (fun e H' _ h => SqT.of (h.1 _ _ htb5)) ?_ ?_
        · rintro e v H6 hv ⟨s6, hD6⟩
          rw [List.getElem?_map] at hv
          obtain ⟨z, hz, rfl⟩ := Option.map_eq_some_iff.mp hv
          have hzm := sv.2.2.2 z (List.mem_of_getElem? hz)
          refine ⟨rfl, .int z, rfl, z, rfl, log_100 hzm.1 (by omega), _, hD6, ?_, fun b u eb => by rw [upd_ne (ne_of_none eb nD)]; exact s6 _ _ eb, ?_⟩
          · rw [List.length_map, List.length_take, List.length_map, gm.2.2.1]
            exact lt1k (by omega)
          · rw [upd_same, take_snoc (by rw [List.getElem?_map, hz]; rfl), List.map_append]
            rfl
        · rintro H6 ⟨s6, hD6⟩
          rw [List.length_map, List.take_of_length_le (by rw [List.length_map]; exact Nat.le_refl _)] at hD6
          have l1 : (Str.ofString " ").length = 1 := by decide +kernel
          have h2 := sum_le (l := (mv.2.map nS).map (·.length)) (b := 2) fun x hx => by
            obtain ⟨p, hp, rfl⟩ := List.mem_map.mp hx
            obtain ⟨z, hz, rfl⟩ := List.mem_map.mp hp
            exact nS_len (sv.2.2.2 z hz).1 (sv.2.2.2 z hz).2
          rw [List.length_map, ll] at h2
          have hj := join_len spS (mv.2.map nS)
          have l1' : spS.length = 1 := l1
          rw [ll, l1'] at hj
          refine ⟨_, D, mv.2.map nS, rfl, rfl, .inl (SqL.of hD6), ?_, ?_⟩
          · rw [l1, ll]
            omega
          refine ⟨_, _, rfl, rfl, le1k ?_, ?_⟩
          · rw [la, la, lm, lc]
            show 5 + (nS mv.1).length + 2 + (Txt.join spS (mv.2.map nS)).length ≤ 1000
            omega
          have er : Str.ofString "move " ++ nS mv.1 ++ Str.ofString ": " ++ Txt.join spS (mv.2.map nS) = rowS mv := (rowS_told sv.2.2.1).symm
          refine ⟨R, _, _, rfl, rfl, s6 _ _ hR5, ?_, ?_⟩
          · rw [List.length_map, List.length_cons, List.length_map, List.length_take]
            exact lt1k (by omega)
          · refine ⟨_, _, rfl, fun b o nb e => ?_, (hD5.same s6).turn hD3 nR nRd, ?_⟩
            · rw [upd_ne nb]
              exact s6 _ _ (k5 b o nb e)
            · rw [upd_same, take_snoc emv, List.map_append, List.map_cons, List.map_cons, List.map_append]
              show some (HO.lst (_ ++ [V.str (Str.ofString "move " ++ nS mv.1 ++ Str.ofString ": " ++ Txt.join spS (mv.2.map nS))])) = _
              rw [er]
              rfl
      · rintro σ H5 ⟨y6, y7, rfl, k5, hD5, hR5⟩
        rw [hT4.2.2.length, List.take_length] at hR5
        have hM5 : GxR.TabG H5 tM := by
          obtain ⟨ps, e, tr⟩ := hM4
          exact ⟨ps, k5 _ _ nRT e, tr⟩
        refine ⟨⟨_, rfl⟩, .ref R, rfl, _, R, headS (many : Int) :: ms.map rowS, rfl, rfl, .inl (SqL.of hR5), ?_, ?_⟩
        · have h2 := sum_le (l := (headS (many : Int) :: ms.map rowS).map (·.length)) (b := 100) fun x hx => by
            obtain ⟨p, hp, rfl⟩ := List.mem_map.mp hx
            rcases List.mem_cons.mp hp with e | hp
            · rw [e]
              have := headS_len (many := (many : Int)) (by omega) (by omega)
              omega
            · obtain ⟨m', hm', rfl⟩ := List.mem_map.mp hp
              have := rowS_len (sm m' hm')
              have := (G.mv m' hm').2.2.1
              omega
          have l1 : (Str.ofString "\n").length = 1 := by decide +kernel
          have l2 : (headS (many : Int) :: ms.map rowS).length = ms.length + 1 := by rw [List.length_cons, List.length_map]
          rw [List.length_map, l2] at h2
          rw [l1, l2]
          omega
        -- spoilt
        have wl := write_len2 G
        have wp : Plain (writeS (many : Int) ms) := writeS_plain sm
        refine ⟨.ref d, rfl, d, a, ns, 4, rfl, hD5, by decide, by decide, fun times H6 htimes hD6 o6 => ?_⟩
        have hM6 := tab_gr hD5 ((Gr.refl d _).off o6) hM5
        refine ⟨_, rfl, by omega, by omega, ?_⟩
        refine for_range (lo := 0) (n := ((times : Int)).toNat) (fun i' σ H' => ∃ y9 t', σ = [some (.ref a), some (.ref d), some (.int (0 + (i : Int))), some (.int (many : Int)), some (.ref m), some (.ref R), y6, y7, some (.str t'), y9, y10, y11, y12, none] ∧ GxR.TabG H' tM ∧ Dc K a ns H' d ∧ Plain t' ∧ t'.length + 2 ≤ 382 * 2 ^ i')
          ⟨y9, writeS (many : Int) ms, rfl, hM6, hD6, wp, by omega⟩ ?_ ?_
        · rintro i' σ H7 hi' ⟨y9, t', rfl, hM7, hD7, hp7, hl7⟩
          have hb : 2 ^ i' ≤ 2 ^ 3 := Nat.pow_le_pow_right (by decide) (by omega)
          refine ⟨.ref d, rfl, .str t', rfl, d, a, ns, t', rfl, hD7, by omega, hp7, fun t2 H8 hD8 g8 hl8 hp8 => ?_⟩
          exact ⟨_, t2, rfl, tab_gr hD7 g8 hM7, hD8, hp8, by rw [Nat.pow_succ]; omega⟩
        · rintro σ H7 ⟨y9, t', rfl, hM7, hD7, hp7, hl7⟩
          have hb : 2 ^ ((times : Int)).toNat ≤ 2 ^ 3 := Nat.pow_le_pow_right (by decide) (by omega)
          have hl' : t'.length ≤ 4000 := by omega
          have big : ∀ {n : Nat}, n ≤ 100000 → n ≤ sizeLine := fun h => Nat.le_trans h (by decide)
          refine ⟨.str t', rfl, t', rfl, by omega, hp7, fun v H8 s8 hv => ?_⟩
          have hM8 := tab_same s8 hM7
          have hD8 := hD7.same s8
          cases hrd : readOf t' with
          | bad k =>
            rw [hrd] at hv
            obtain ⟨T2, rfl, hT2⟩ := hv
            refine ⟨T2, _, rfl, SqT.of hT2, rfl, _, _, rfl, _, _, rfl, rfl, ?_⟩
            refine ⟨.int (k : Int), rfl, rfl, true, by show V.bl (!decide (V.int (k : Int) = V.non)) = _; simp, iteT ?_⟩
            refine ⟨.str t', rfl, t', rfl, by omega, hM8, .inl ⟨k, hrd, fun a2 H9 g9 hM9 ha2 => ?_⟩⟩
            refine ⟨.int (k : Int), rfl, (by show 2 ≤ sizeLine; decide), fun T3 nT3 => ?_⟩
            have s10 := same_new (o := .tup [.str textS, .int (k : Int)]) nT3
            have hT3 : (upd H9 T3 (.tup [.str textS, .int (k : Int)])) T3 = some (.tup [.str textS, .int (k : Int)]) := upd_same
            have sh : Sh 1 (.tuple [.str textS, .int (k : Int)]) := Sh.tuple fun x hx => by
              rcases List.mem_cons.mp hx with rfl | hx
              · exact ⟨by decide +kernel, Nat.zero_le _⟩
              · rw [List.mem_singleton.mp hx]; exact .int _
            refine ne_same (d := .tuple [.str textS, .int (k : Int)]) (.tup (SqT.of (s10 _ _ ha2)) (.cons (.str _) (.cons (.int _) .nil))) (.tup (SqT.of hT3) (.cons (.str _) (.cons (.int _) .nil))) sh (by decide) ⟨_, rfl, iteF ?_⟩
            exact ⟨_, _, _, _, _, _, _, _, _, _, _, rfl, tab_same s10 hM9, (hD8.tabT hM8 g9).same s10⟩
          | told mny mvs =>
            rw [hrd] at hv
            obtain ⟨T2, u, l, vs, rfl, hT2, hu2, hl2, hvs⟩ := hv
            refine ⟨T2, _, rfl, SqT.of hT2, rfl, _, _, rfl, _, _, rfl, rfl, ?_⟩
            refine ⟨.non, rfl, rfl, false, by show V.bl (!decide (V.non = V.non)) = _; simp, iteF ?_⟩
            have et := readOf_inv hrd
            obtain ⟨r0, rs0, es0, hm0, hms0⟩ := readOf_told hrd
            have hrng := many_rng hm0
            have hsm := (movesOf_inv hms0).2
            have hlen := writeS_many (many := mny) hsm
            rw [← et] at hlen
            refine ⟨.ref u, rfl, u, _, 0, _, rfl, rfl, SqT.of hu2, atI_nat (j := 0) rfl, .ref u, rfl, u, _, 1, _, rfl, rfl, SqT.of hu2, atI_nat (j := 1) rfl, l, mny, vs, mvs, rfl, hl2, hvs, fun H9 s9 => ?_⟩
            have hM9 := tab_same s9 hM8
            have hD9 := hD8.same s9
            cases hic : isChn mny mvs with
            | false =>
              refine ⟨false, rfl, iteT ?_⟩
              have hbad : BadTold mny mvs := BadTold.of (fun n e G' => by
                rw [e, good_isChn G'] at hic
                cases hic) hrng.1
              refine ⟨.str t', rfl, t', rfl, by omega, hM9, .inr ⟨mny, mvs, hrd, hbad, by omega, fun a2 H10 g10 hM10 ha2 => ?_⟩⟩
              refine ⟨(by show 2 ≤ sizeLine; decide), fun T3 nT3 => ?_⟩
              have s11 := same_new (o := .tup [.str chainS, .int 0]) nT3
              have hT3 : (upd H10 T3 (.tup [.str chainS, .int 0])) T3 = some (.tup [.str chainS, .int 0]) := upd_same
              have sh : Sh 1 (.tuple [.str chainS, .int 0]) := Sh.tuple fun x hx => by
                rcases List.mem_cons.mp hx with rfl | hx
                · exact ⟨by decide +kernel, Nat.zero_le _⟩
                · rw [List.mem_singleton.mp hx]; exact .int _
              refine ne_same (d := .tuple [.str chainS, .int 0]) (.tup (SqT.of (s11 _ _ ha2)) (.cons (.str _) (.cons (.int _) .nil))) (.tup (SqT.of hT3) (.cons (.str _) (.cons (.int _) .nil))) sh (by decide) ⟨_, rfl, iteF ?_⟩
              exact ⟨_, _, _, _, _, _, _, _, _, _, _, rfl, tab_same s11 hM10, (hD9.tabT hM9 g10).same s11⟩
            | true =>
              refine ⟨true, rfl, iteF ?_⟩
              obtain ⟨n, rfl, Gn⟩ := isChn_good hic
              refine ⟨.str t', rfl, t', n, mvs, rfl, big (by omega), hrd, Gn, hM9, fun H10 y hC10 ny g10 hM10 => ?_⟩
              have tk : ∀ {b : Addr} {o : HO}, H9 b = some o → (∀ qs, o ≠ .tbl qs) → H10 b = some o := fun e no => Gr.tab hM9 g10 no e
              have hu10 := tk (s9 _ _ hu2) (fun _ z => nomatch z)
              have hl10 := tk (s9 _ _ hl2) (fun _ z => nomatch z)
              have hvs10 : MovesAt H10 vs mvs := hvs.same fun b xs e => tk (s9 _ _ e) (fun _ z => nomatch z)
              have hD10 := hD9.tabT hM9 g10
              obtain ⟨dx, a0, ws0, h1, h2, h3⟩ := id hC10
              refine ⟨.ref y, rfl, y, dx, _, rfl, h1, ch_no, y, n, mvs, rfl, hC10, .ref u, rfl, u, _, 0, _, rfl, rfl, SqT.of hu10, atI_nat (j := 0) rfl, rfl, false, by simp, iteF ?_⟩
              refine ⟨.ref y, rfl, y, dx, _, rfl, h1, ch_noT, y, n, mvs, rfl, hC10, fun l1 wl1 nl1 hMl => ?_⟩
              have s11 := same_new (o := .lst wl1) nl1
              have hl1 : (upd H10 l1 (.lst wl1)) l1 = some (.lst wl1) := upd_same
              have hC11 := hC10.same s11
              have hM11 := tab_same s11 hM10
              have hD11 := hD10.same s11
              have hvs11 : MovesAt (upd H10 l1 (.lst wl1)) vs mvs := hvs10.same fun b xs e => s11 _ _ e
              generalize upd H10 l1 (.lst wl1) = H11 at s11 hl1 hMl hC11 hM11 hD11 hvs11 ⊢
              refine ⟨.ref u, rfl, u, _, 1, _, rfl, rfl, SqT.of (s11 _ _ hu10), atI_nat (j := 1) rfl, ?_⟩
              refine ne_same (dp_mvs hl1 hMl) (dp_mvs (s11 _ _ hl10) hvs11) (Sh.mvs mvs) (by decide) ⟨_, rfl, iteF ?_⟩
              refine ⟨.ref y, rfl, y, n, mvs, rfl, hC11, Gn, fun H12 s12 => ?_⟩
              rw [← et]
              refine ⟨.str t', rfl, rfl, false, by simp, iteF ?_⟩
              exact ⟨_, _, _, _, _, _, _, _, _, _, _, rfl, tab_same s12 hM11, hD11.same s12⟩
    · rintro σ H2 _
      exact q H2
end
/-! ### the end: the table of the generator's def -/
def TabOf (nm : Str) (mg : Str → Option Value) (h : Heap) : Prop := ∃ (a' : Addr) (o' : Obj) (fd' : FuncData) (c' P' : Addr) (oc : Obj) (vc : Array Value), mg nm = some (.ref a') ∧ h.get? a' = some o' ∧ o'.data = .func fd' ∧ fd'.code = .ref c' ∧
  h.get? c' = some oc ∧ oc.data = .fields vc ∧ vc[11]? = some (.ref P') ∧ h.get? P' = some { cls := .none, data := .fields #[] }
theorem walk_tab {l : PySem.W.OpenLaw} {n k : Nat} {q : Program} {loose : List Str} {XP : (Str → Option Value) → Heap → Prop} {YP : World → Heap → Prop} {d : DefRec} {K : Params → PySem.W.Frag} {CX : World → CXT} {x : Str} (nm : Str)
    (hn : l.most = some n) (hn2 : n ≤ sizeLine) (hdf : d.params.defaults = []) (hr : Room k callerA) (hrec : ((recsOf q).any fun e => e.name == nm) = true) (hY : ∀ (w : World) (h : Heap), YP w h → (K w.params).In h)
    (F : ∀ (w : World) (mg : Str → Option Value) (fa : Addr) (h : Heap), (K w.params).In h → h.Ns mainGlobals mg → mg d.name = some (.ref fa) → TabOf nm mg h → LamX.LawAtS l w (K w.params) (CX w) k n x mg fa h)
    (hCX : ∀ (w : World) (H : Hp) (s : Shared) (e : Value) (s' : Shared), CX w [] H s (fun _ _ _ => False) e s' → False) :
    PySem.W.WalkO q loose XP YP l.row.toRowW d [] (fun f vs => PySem.call f vs) := by
  refine Att.attach_callB hn hdf fun w s₀ s₁ mg mb fa o pm cd doc a vs ns G Y ho hd hcd hmg hobj hints hlen hbits hg => ?_
  obtain ⟨dL, m1, m2⟩ := List.any_eq_true.mp hrec
  obtain ⟨a', o', fd', c', P', g1, g2, g3, g4, _, ⟨oc, vc, e1, e2, e3, e4⟩, e5⟩ := G.T.tab dL m1
  rw [beq_iff_eq.mp m2] at g1
  have TO : TabOf nm mg s₁.heap := ⟨a', o', fd', c', P', oc, vc, g1, g2, g3, g4, e1, e3, e4, e5⟩
  obtain ⟨fd, cs, sp, hT, nT, Cd, hb, hsp, hF⟩ := F w mg fa _ (hY w _ Y) G.T.g hmg TO
  exact LamX.law_callTs (hY w _ Y) G.T.g G.T.b G.T.builtins G.T.nolimit hg hT nT Cd G.T.bmain hobj hints (Nat.le_trans hlen hn2) hr hF hb (fun H hH hS => hsp H a ns hlen hbits hH hS) fun H e s' => hCX w H s₁ e s'
theorem walk_tab2 {l : PySem.W.OpenLaw} {n k : Nat} {q : Program} {loose : List Str} {XP : (Str → Option Value) → Heap → Prop} {YP : World → Heap → Prop} {d : DefRec} {K : Params → PySem.W.Frag} {CX : World → CXT} {x : Str} (nm nm2 : Str)
    (hn : l.most = some n) (hn2 : n ≤ sizeLine) (hdf : d.params.defaults = []) (hr : Room k callerA) (hrec : ((recsOf q).any fun e => e.name == nm) = true) (hrec2 : ((recsOf q).any fun e => e.name == nm2) = true) (hY : ∀ (w : World) (h : Heap), YP w h → (K w.params).In h)
    (F : ∀ (w : World) (mg : Str → Option Value) (fa : Addr) (h : Heap), (K w.params).In h → h.Ns mainGlobals mg → mg d.name = some (.ref fa) → TabOf nm mg h → TabOf nm2 mg h → LamX.LawAtS l w (K w.params) (CX w) k n x mg fa h)
    (hCX : ∀ (w : World) (H : Hp) (s : Shared) (e : Value) (s' : Shared), CX w [] H s (fun _ _ _ => False) e s' → False) :
    PySem.W.WalkO q loose XP YP l.row.toRowW d [] (fun f vs => PySem.call f vs) := by
  refine Att.attach_callB hn hdf fun w s₀ s₁ mg mb fa o pm cd doc a vs ns G Y ho hd hcd hmg hobj hints hlen hbits hg => ?_
  have tabs : ∀ {z : Str}, ((recsOf q).any fun e => e.name == z) = true → TabOf z mg s₁.heap := fun {z} hz => by
    obtain ⟨dL, m1, m2⟩ := List.any_eq_true.mp hz
    obtain ⟨a', o', fd', c', P', g1, g2, g3, g4, _, ⟨oc, vc, e1, e2, e3, e4⟩, e5⟩ := G.T.tab dL m1
    rw [beq_iff_eq.mp m2] at g1
    exact ⟨a', o', fd', c', P', oc, vc, g1, g2, g3, g4, e1, e3, e4, e5⟩
  obtain ⟨fd, cs, sp, hT, nT, Cd, hb, hsp, hF⟩ := F w mg fa _ (hY w _ Y) G.T.g hmg (tabs hrec) (tabs hrec2)
  exact LamX.law_callTs (hY w _ Y) G.T.g G.T.b G.T.builtins G.T.nolimit hg hT nT Cd G.T.bmain hobj hints (Nat.le_trans hlen hn2) hr hF hb (fun H hH hS => hsp H a ns hlen hbits hH hS) fun H e s' => hCX w H s₁ e s'
/-! ### what the top has written -/
set_option maxHeartbeats 0 in
theorem all_mk {l : PySem.W.OpenLaw} {w : World} {K : PySem.W.Frag} {h : Heap} {mg : Str → Option Value} {fa : Addr} (X : K.In h) (G : h.Ns mainGlobals mg) (hfa : mg "law" = some (.ref fa)) (TO_is_move : TabOf "_is_move" mg h)
    {f_is_move : Addr} {od_is_move an_is_move : Option Addr} {sl_is_move : Array (Option Value)} {oc_is_move kV_is_move dc_is_move pm_is_move ct_is_move : Value}
    {cM_is_move tM_is_move : Addr} {eM_is_move : Value} {ddM_is_move : Option Addr} {vsM_is_move : Array Value} {slM_is_move : Array (Option Value)}
    {f_written : Addr} {od_written an_written : Option Addr} {sl_written : Array (Option Value)} {oc_written kV_written dc_written pm_written ct_written cd_written : Value}
    {f_read : Addr} {od_read an_read : Option Addr} {sl_read : Array (Option Value)} {oc_read kV_read dc_read pm_read ct_read cd_read : Value}
    {f_many : Addr} {od_many an_many : Option Addr} {sl_many : Array (Option Value)} {oc_many kV_many dc_many pm_many ct_many cd_many : Value}
    {f_move : Addr} {od_move an_move : Option Addr} {sl_move : Array (Option Value)} {oc_move kV_move dc_move pm_move ct_move cd_move : Value}
    {f_number : Addr} {od_number an_number : Option Addr} {sl_number : Array (Option Value)} {oc_number kV_number dc_number pm_number ct_number cd_number : Value}
    {f_law_cell : Addr} {od_law_cell an_law_cell : Option Addr} {sl_law_cell : Array (Option Value)} {oc_law_cell kV_law_cell dc_law_cell pm_law_cell ct_law_cell cd_law_cell : Value}
    {f_law_dice : Addr} {od_law_dice an_law_dice : Option Addr} {sl_law_dice : Array (Option Value)} {oc_law_dice kV_law_dice dc_law_dice pm_law_dice ct_law_dice cd_law_dice : Value}
    {f_law_off : Addr} {od_law_off an_law_off : Option Addr} {sl_law_off : Array (Option Value)} {oc_law_off kV_law_off dc_law_off pm_law_off ct_law_off cd_law_off : Value}
    {f_law_chain : Addr} {od_law_chain an_law_chain : Option Addr} {sl_law_chain : Array (Option Value)} {oc_law_chain kV_law_chain dc_law_chain pm_law_chain ct_law_chain cd_law_chain : Value}
    {f_law_figure : Addr} {od_law_figure an_law_figure : Option Addr} {sl_law_figure : Array (Option Value)} {oc_law_figure kV_law_figure dc_law_figure pm_law_figure ct_law_figure cd_law_figure : Value}
    {f_law_move : Addr} {od_law_move an_law_move : Option Addr} {sl_law_move : Array (Option Value)} {oc_law_move kV_law_move dc_law_move pm_law_move ct_law_move cd_law_move : Value}
    {f_law_read : Addr} {od_law_read an_law_read : Option Addr} {sl_law_read : Array (Option Value)} {oc_law_read kV_law_read dc_law_read pm_law_read ct_law_read cd_law_read : Value}
    {f_law_is_chain : Addr} {od_law_is_chain an_law_is_chain : Option Addr} {sl_law_is_chain : Array (Option Value)} {oc_law_is_chain kV_law_is_chain dc_law_is_chain pm_law_is_chain ct_law_is_chain cd_law_is_chain : Value}
    {f_law_spoilt : Addr} {od_law_spoilt an_law_spoilt : Option Addr} {sl_law_spoilt : Array (Option Value)} {oc_law_spoilt kV_law_spoilt dc_law_spoilt pm_law_spoilt ct_law_spoilt cd_law_spoilt : Value}
    {f_law_word : Addr} {od_law_word an_law_word : Option Addr} {sl_law_word : Array (Option Value)} {oc_law_word kV_law_word dc_law_word pm_law_word ct_law_word cd_law_word : Value}
    {f_law : Addr} {od_law an_law : Option Addr} {sl_law : Array (Option Value)} {oc_law kV_law dc_law pm_law ct_law cd_law : Value}
    {C : Addr}
    {f_minit : Addr} {od_minit an_minit : Option Addr} {sl_minit : Array (Option Value)} {oc_minit kV_minit dc_minit pm_minit cd_minit ct_minit : Value}
    {f_mplaces : Addr} {od_mplaces an_mplaces : Option Addr} {sl_mplaces : Array (Option Value)} {oc_mplaces kV_mplaces dc_mplaces pm_mplaces cd_mplaces ct_mplaces : Value}
    {f_mtold : Addr} {od_mtold an_mtold : Option Addr} {sl_mtold : Array (Option Value)} {oc_mtold kV_mtold dc_mtold pm_mtold cd_mtold ct_mtold : Value}
    {tMOST_PLACES : Tok}
    {tMOST_MOVES : Tok}
    {tMOST_WEIGHT : Tok}
    {ALongError : Addr}
    {ABadChain : Addr}
    {ABadText : Addr}
    {ANoSuch : Addr}
    {ANotOne : Addr}
    {ANeverOne : Addr}
    {ANotOrdered : Addr}
    {ATooMany : Addr}
    {f_iBadText cc_iBadText cda_iBadText : Addr} {od_iBadText an_iBadText cdd_iBadText cld_iBadText : Option Addr} {sl_iBadText ccs_iBadText csl_iBadText : Array (Option Value)} {oc_iBadText kV_iBadText dc_iBadText pm_iBadText ct_iBadText ccl_iBadText cl_iBadText : Value} {vs_iBadText : Array Value} {fi_iBadText : Str} {tf_iBadText : Tok}
    (a_is_move : PySem.W.nsIn K mainGlobals "_is_move" = some (some (.ref f_is_move)))
    (l_is_move : K.lookup f_is_move = some ⟨oc_is_move, od_is_move, .func (PySem.W.fnOf "_is_move" "_is_move" (defArgs sIsMove) (defBody sIsMove) (defScope sIsMove) .none kV_is_move dc_is_move pm_is_move an_is_move (.ref cM_is_move) ct_is_move), sl_is_move⟩)
    (c_is_move : PySem.W.codeIn K (.ref cM_is_move) "_is_move" = true)
    (k_is_move : PySem.W.keepIn K (.ref f_is_move) = true)
    (a_written : PySem.W.nsIn K mainGlobals "written" = some (some (.ref f_written)))
    (l_written : K.lookup f_written = some ⟨oc_written, od_written, .func (PySem.W.fnOf "written" "written" (defArgs sWritten) (defBody sWritten) (defScope sWritten) .none kV_written dc_written pm_written an_written cd_written ct_written), sl_written⟩)
    (c_written : PySem.W.codeIn K cd_written "written" = true)
    (k_written : PySem.W.keepIn K (.ref f_written) = true)
    (a_read : PySem.W.nsIn K mainGlobals "read" = some (some (.ref f_read)))
    (l_read : K.lookup f_read = some ⟨oc_read, od_read, .func (PySem.W.fnOf "read" "read" (defArgs sRead) (defBody sRead) (defScope sRead) .none kV_read dc_read pm_read an_read cd_read ct_read), sl_read⟩)
    (c_read : PySem.W.codeIn K cd_read "read" = true)
    (k_read : PySem.W.keepIn K (.ref f_read) = true)
    (a_many : PySem.W.nsIn K mainGlobals "_many" = some (some (.ref f_many)))
    (l_many : K.lookup f_many = some ⟨oc_many, od_many, .func (PySem.W.fnOf "_many" "_many" (defArgs sMany) (defBody sMany) (defScope sMany) .none kV_many dc_many pm_many an_many cd_many ct_many), sl_many⟩)
    (c_many : PySem.W.codeIn K cd_many "_many" = true)
    (k_many : PySem.W.keepIn K (.ref f_many) = true)
    (a_move : PySem.W.nsIn K mainGlobals "_move" = some (some (.ref f_move)))
    (l_move : K.lookup f_move = some ⟨oc_move, od_move, .func (PySem.W.fnOf "_move" "_move" (defArgs sMove) (defBody sMove) (defScope sMove) .none kV_move dc_move pm_move an_move cd_move ct_move), sl_move⟩)
    (c_move : PySem.W.codeIn K cd_move "_move" = true)
    (k_move : PySem.W.keepIn K (.ref f_move) = true)
    (a_number : PySem.W.nsIn K mainGlobals "_number" = some (some (.ref f_number)))
    (l_number : K.lookup f_number = some ⟨oc_number, od_number, .func (PySem.W.fnOf "_number" "_number" (defArgs sNumber) (defBody sNumber) (defScope sNumber) .none kV_number dc_number pm_number an_number cd_number ct_number), sl_number⟩)
    (c_number : PySem.W.codeIn K cd_number "_number" = true)
    (k_number : PySem.W.keepIn K (.ref f_number) = true)
    (a_law_cell : PySem.W.nsIn K mainGlobals "_law_cell" = some (some (.ref f_law_cell)))
    (l_law_cell : K.lookup f_law_cell = some ⟨oc_law_cell, od_law_cell, .func (PySem.W.fnOf "_law_cell" "_law_cell" (defArgs sCell) (defBody sCell) (defScope sCell) .none kV_law_cell dc_law_cell pm_law_cell an_law_cell cd_law_cell ct_law_cell), sl_law_cell⟩)
    (c_law_cell : PySem.W.codeIn K cd_law_cell "_law_cell" = true)
    (k_law_cell : PySem.W.keepIn K (.ref f_law_cell) = true)
    (a_law_dice : PySem.W.nsIn K mainGlobals "_law_dice" = some (some (.ref f_law_dice)))
    (l_law_dice : K.lookup f_law_dice = some ⟨oc_law_dice, od_law_dice, .func (PySem.W.fnOf "_law_dice" "_law_dice" (defArgs sDice) (defBody sDice) (defScope sDice) .none kV_law_dice dc_law_dice pm_law_dice an_law_dice cd_law_dice ct_law_dice), sl_law_dice⟩)
    (c_law_dice : PySem.W.codeIn K cd_law_dice "_law_dice" = true)
    (k_law_dice : PySem.W.keepIn K (.ref f_law_dice) = true)
    (a_law_off : PySem.W.nsIn K mainGlobals "_law_off" = some (some (.ref f_law_off)))
    (l_law_off : K.lookup f_law_off = some ⟨oc_law_off, od_law_off, .func (PySem.W.fnOf "_law_off" "_law_off" (defArgs sOff) (defBody sOff) (defScope sOff) .none kV_law_off dc_law_off pm_law_off an_law_off cd_law_off ct_law_off), sl_law_off⟩)
    (c_law_off : PySem.W.codeIn K cd_law_off "_law_off" = true)
    (k_law_off : PySem.W.keepIn K (.ref f_law_off) = true)
    (a_law_chain : PySem.W.nsIn K mainGlobals "_law_chain" = some (some (.ref f_law_chain)))
    (l_law_chain : K.lookup f_law_chain = some ⟨oc_law_chain, od_law_chain, .func (PySem.W.fnOf "_law_chain" "_law_chain" (defArgs sChain) (defBody sChain) (defScope sChain) .none kV_law_chain dc_law_chain pm_law_chain an_law_chain cd_law_chain ct_law_chain), sl_law_chain⟩)
    (c_law_chain : PySem.W.codeIn K cd_law_chain "_law_chain" = true)
    (k_law_chain : PySem.W.keepIn K (.ref f_law_chain) = true)
    (a_law_figure : PySem.W.nsIn K mainGlobals "_law_figure" = some (some (.ref f_law_figure)))
    (l_law_figure : K.lookup f_law_figure = some ⟨oc_law_figure, od_law_figure, .func (PySem.W.fnOf "_law_figure" "_law_figure" (defArgs sLawFigure) (defBody sLawFigure) (defScope sLawFigure) .none kV_law_figure dc_law_figure pm_law_figure an_law_figure cd_law_figure ct_law_figure), sl_law_figure⟩)
    (c_law_figure : PySem.W.codeIn K cd_law_figure "_law_figure" = true)
    (k_law_figure : PySem.W.keepIn K (.ref f_law_figure) = true)
    (a_law_move : PySem.W.nsIn K mainGlobals "_law_move" = some (some (.ref f_law_move)))
    (l_law_move : K.lookup f_law_move = some ⟨oc_law_move, od_law_move, .func (PySem.W.fnOf "_law_move" "_law_move" (defArgs sLawMove) (defBody sLawMove) (defScope sLawMove) .none kV_law_move dc_law_move pm_law_move an_law_move cd_law_move ct_law_move), sl_law_move⟩)
    (c_law_move : PySem.W.codeIn K cd_law_move "_law_move" = true)
    (k_law_move : PySem.W.keepIn K (.ref f_law_move) = true)
    (a_law_read : PySem.W.nsIn K mainGlobals "_law_read" = some (some (.ref f_law_read)))
    (l_law_read : K.lookup f_law_read = some ⟨oc_law_read, od_law_read, .func (PySem.W.fnOf "_law_read" "_law_read" (defArgs sLawRead) (defBody sLawRead) (defScope sLawRead) .none kV_law_read dc_law_read pm_law_read an_law_read cd_law_read ct_law_read), sl_law_read⟩)
    (c_law_read : PySem.W.codeIn K cd_law_read "_law_read" = true)
    (k_law_read : PySem.W.keepIn K (.ref f_law_read) = true)
    (a_law_is_chain : PySem.W.nsIn K mainGlobals "_law_is_chain" = some (some (.ref f_law_is_chain)))
    (l_law_is_chain : K.lookup f_law_is_chain = some ⟨oc_law_is_chain, od_law_is_chain, .func (PySem.W.fnOf "_law_is_chain" "_law_is_chain" (defArgs sLawIsChain) (defBody sLawIsChain) (defScope sLawIsChain) .none kV_law_is_chain dc_law_is_chain pm_law_is_chain an_law_is_chain cd_law_is_chain ct_law_is_chain), sl_law_is_chain⟩)
    (c_law_is_chain : PySem.W.codeIn K cd_law_is_chain "_law_is_chain" = true)
    (k_law_is_chain : PySem.W.keepIn K (.ref f_law_is_chain) = true)
    (a_law_spoilt : PySem.W.nsIn K mainGlobals "_law_spoilt" = some (some (.ref f_law_spoilt)))
    (l_law_spoilt : K.lookup f_law_spoilt = some ⟨oc_law_spoilt, od_law_spoilt, .func (PySem.W.fnOf "_law_spoilt" "_law_spoilt" (defArgs sLawSpoilt) (defBody sLawSpoilt) (defScope sLawSpoilt) .none kV_law_spoilt dc_law_spoilt pm_law_spoilt an_law_spoilt cd_law_spoilt ct_law_spoilt), sl_law_spoilt⟩)
    (c_law_spoilt : PySem.W.codeIn K cd_law_spoilt "_law_spoilt" = true)
    (k_law_spoilt : PySem.W.keepIn K (.ref f_law_spoilt) = true)
    (a_law_word : PySem.W.nsIn K mainGlobals "_law_word" = some (some (.ref f_law_word)))
    (l_law_word : K.lookup f_law_word = some ⟨oc_law_word, od_law_word, .func (PySem.W.fnOf "_law_word" "_law_word" (defArgs sLawWord) (defBody sLawWord) (defScope sLawWord) .none kV_law_word dc_law_word pm_law_word an_law_word cd_law_word ct_law_word), sl_law_word⟩)
    (c_law_word : PySem.W.codeIn K cd_law_word "_law_word" = true)
    (k_law_word : PySem.W.keepIn K (.ref f_law_word) = true)
    (a_law : PySem.W.nsIn K mainGlobals "law" = some (some (.ref f_law)))
    (l_law : K.lookup f_law = some ⟨oc_law, od_law, .func (PySem.W.fnOf "law" "law" (defArgs sLaw) (defBody sLaw) (defScope sLaw) .none kV_law dc_law pm_law an_law cd_law ct_law), sl_law⟩)
    (c_law : PySem.W.codeIn K cd_law "law" = true)
    (k_law : PySem.W.keepIn K (.ref f_law) = true)
    (aC : PySem.W.nsIn K mainGlobals "Chain" = some (some (.ref C)))
    (a_minit : PySem.W.findIn K (.ref C) "__init__" = some (some (.ref f_minit)))
    (i_minit : PySem.W.isFn K (.ref f_minit) = true)
    (l_minit : K.lookup f_minit = some ⟨oc_minit, od_minit, .func (PySem.W.fnOf "__init__" "Chain.__init__" (defArgs (inClass cChain 0)) (defBody (inClass cChain 0)) (defScope (inClass cChain 0)) .none kV_minit dc_minit pm_minit an_minit cd_minit ct_minit), sl_minit⟩)
    (c_minit : PySem.W.codeIn K cd_minit "Chain.__init__" = true)
    (k_minit : PySem.W.keepIn K (.ref f_minit) = true)
    (a_mplaces : PySem.W.findIn K (.ref C) "places" = some (some (.ref f_mplaces)))
    (i_mplaces : PySem.W.isFn K (.ref f_mplaces) = true)
    (l_mplaces : K.lookup f_mplaces = some ⟨oc_mplaces, od_mplaces, .func (PySem.W.fnOf "places" "Chain.places" (defArgs (inClass cChain 1)) (defBody (inClass cChain 1)) (defScope (inClass cChain 1)) .none kV_mplaces dc_mplaces pm_mplaces an_mplaces cd_mplaces ct_mplaces), sl_mplaces⟩)
    (c_mplaces : PySem.W.codeIn K cd_mplaces "Chain.places" = true)
    (k_mplaces : PySem.W.keepIn K (.ref f_mplaces) = true)
    (a_mtold : PySem.W.findIn K (.ref C) "told" = some (some (.ref f_mtold)))
    (i_mtold : PySem.W.isFn K (.ref f_mtold) = true)
    (l_mtold : K.lookup f_mtold = some ⟨oc_mtold, od_mtold, .func (PySem.W.fnOf "told" "Chain.told" (defArgs (inClass cChain 2)) (defBody (inClass cChain 2)) (defScope (inClass cChain 2)) .none kV_mtold dc_mtold pm_mtold an_mtold cd_mtold ct_mtold), sl_mtold⟩)
    (c_mtold : PySem.W.codeIn K cd_mtold "Chain.told" = true)
    (k_mtold : PySem.W.keepIn K (.ref f_mtold) = true)
    (pg : PySem.W.plainGet K C Str.empty = true)
    (hd : PySem.W.hasDictIn K C = true)
    (po : PySem.W.plainOver K C = true)
    (sa : PySem.W.findIn K (.ref C) "__setattr__" = some (some (.builtin "object.__setattr__")))
    (mk : PySem.W.makesIn K C = true)
    (kc : PySem.W.keepIn K (.ref C) = true)
    (nM : PySem.W.findIn K (.ref C) "_many" = some none)
    (nV : PySem.W.findIn K (.ref C) "_moves" = some none)
    (gMOST_PLACES : PySem.W.nsIn K mainGlobals "MOST_PLACES" = some (some (.int 6 tMOST_PLACES)))
    (gMOST_MOVES : PySem.W.nsIn K mainGlobals "MOST_MOVES" = some (some (.int 8 tMOST_MOVES)))
    (gMOST_WEIGHT : PySem.W.nsIn K mainGlobals "MOST_WEIGHT" = some (some (.int 99 tMOST_WEIGHT)))
    (zlen : PySem.W.nsIn K mainGlobals "len" = some none)
    (zabs : PySem.W.nsIn K mainGlobals "abs" = some none)
    (zmax : PySem.W.nsIn K mainGlobals "max" = some none)
    (zmin : PySem.W.nsIn K mainGlobals "min" = some none)
    (zint : PySem.W.nsIn K mainGlobals "int" = some none)
    (zrange : PySem.W.nsIn K mainGlobals "range" = some none)
    (zsorted : PySem.W.nsIn K mainGlobals "sorted" = some none)
    (ztuple : PySem.W.nsIn K mainGlobals "tuple" = some none)
    (zisinstance : PySem.W.nsIn K mainGlobals "isinstance" = some none)
    (zall : PySem.W.nsIn K mainGlobals "all" = some none)
    (zenumerate : PySem.W.nsIn K mainGlobals "enumerate" = some none)
    (zlist : PySem.W.nsIn K mainGlobals "list" = some none)
    (zbool : PySem.W.nsIn K mainGlobals "bool" = some none)
    (zValueError : PySem.W.nsIn K mainGlobals "ValueError" = some none)
    (zstr : PySem.W.nsIn K mainGlobals "str" = some none)
    (eLongError : PySem.W.nsIn K mainGlobals "LongError" = some (some (.ref ALongError)))
    (eBadChain : PySem.W.nsIn K mainGlobals "BadChain" = some (some (.ref ABadChain)))
    (eBadText : PySem.W.nsIn K mainGlobals "BadText" = some (some (.ref ABadText)))
    (eNoSuch : PySem.W.nsIn K mainGlobals "NoSuch" = some (some (.ref ANoSuch)))
    (eNotOne : PySem.W.nsIn K mainGlobals "NotOne" = some (some (.ref ANotOne)))
    (eNeverOne : PySem.W.nsIn K mainGlobals "NeverOne" = some (some (.ref ANeverOne)))
    (eNotOrdered : PySem.W.nsIn K mainGlobals "NotOrdered" = some (some (.ref ANotOrdered)))
    (eTooMany : PySem.W.nsIn K mainGlobals "TooMany" = some (some (.ref ATooMany)))
    (xkBadChain : PySem.W.keepIn K (.ref ABadChain) = true)
    (xxBadChain : PySem.W.excIn K ABadChain [.type "ValueError", .type "Exception", .type "BaseException", .type "object"] "ValueError.__new__" = true)
    (xbBadChain : PySem.W.subIn K (.ref ABadChain) (.type "BaseException") = some true)
    (xtBadChain : PySem.W.typeIn K (.ref ABadChain) = some (.type "type"))
    (oeiBadText : oexB K ABadText = true)
    (osiBadText : PySem.W.findIn K (.ref ABadText) "__setattr__" = some (some (.builtin "object.__setattr__")))
    (obiBadText : PySem.W.subIn K (.ref ABadText) (.type "BaseException") = some true)
    (otiBadText : PySem.W.typeIn K (.ref ABadText) = some (.type "type"))
    (okiBadText : PySem.W.keepIn K (.ref ABadText) = true)
    (oiiBadText : PySem.W.findIn K (.ref ABadText) "__init__" = some (some (.ref f_iBadText)))
    (ofiBadText : PySem.W.typeIn K (.ref f_iBadText) = some (.type "function"))
    (oniBadText : PySem.W.findIn K (.ref ABadText) "row" = some none)
    (l_iBadText : K.lookup f_iBadText = some ⟨oc_iBadText, od_iBadText, .func (PySem.W.fnX "__init__" "BadText.__init__" (defArgs (inClass cBadText 0)) (defBody (inClass cBadText 0)) (defScope (inClass cBadText 0)) [("__class__", cc_iBadText)] .none kV_iBadText dc_iBadText pm_iBadText an_iBadText (.ref cda_iBadText) ct_iBadText), sl_iBadText⟩)
    (c_iBadText : PySem.W.codeIn K (.ref cda_iBadText) "BadText.__init__" = true)
    (oc1iBadText : K.lookup cda_iBadText = some ⟨ccl_iBadText, cdd_iBadText, .fields vs_iBadText, ccs_iBadText⟩)
    (oc2iBadText : vs_iBadText[2]? = some (.str fi_iBadText tf_iBadText))
    (oc3iBadText : ((l.prog.main.file : Str) == fi_iBadText) = true)
    (oliBadText : K.lookup cc_iBadText = some ⟨cl_iBadText, cld_iBadText, .cell (some (.ref ABadText)), csl_iBadText⟩)
    (odiBadText : (PySem.W.clsIn K ABadText).isSome = true)
    (omiBadText : PySem.W.mroIn K ABadText (.ref ABadText) = some true)
    (oaiBadText : PySem.W.ks_superIn K ABadText ABadText "__init__" = some (some (.builtin "ValueError.__init__")))
    (oviBadText : PySem.W.subIn K (.ref ABadText) (.type "ValueError") = some true)
    (zsuper : PySem.W.nsIn K mainGlobals "super" = some none)
    (ztop : (l.prog.main.scope.names.lookup ("super" : Str)).isSome = false)
    (zstat : PySem.W.nsIn K cStatics "thirdparty.any" = some none)
    (wexT : PySem.W.exmOne K (.ref ABadText) (.ref ALongError) = some true)
    (wgT : PySem.W.findIn K (.ref ABadText) "__getattribute__" = some (some (.builtin "BaseException.__getattribute__")))
    (whT : PySem.W.findIn K (.ref ABadText) "__getattr__" = some none)
    (wdT : PySem.W.hasDictIn K ABadText = true)
    (waT : PySem.W.findIn K (.ref ABadText) "__class__" = some (some (.builtin "object.__class__")))
    (wmT : PySem.W.mroIn K ABadText (.type "object") = some true)
    (wnoT : PySem.W.kitAny K (.ref ABadText) [.ref ANeverOne, .ref ANoSuch, .ref ANotOne, .ref ANotOrdered, .ref ATooMany] = some false)
    (wvT : PySem.W.kitOne K (.ref ABadText) (.type "ValueError") = some true)
    (wexC : PySem.W.exmOne K (.ref ABadChain) (.ref ALongError) = some true)
    (wgC : PySem.W.findIn K (.ref ABadChain) "__getattribute__" = some (some (.builtin "BaseException.__getattribute__")))
    (whC : PySem.W.findIn K (.ref ABadChain) "__getattr__" = some none)
    (wdC : PySem.W.hasDictIn K ABadChain = true)
    (waC : PySem.W.findIn K (.ref ABadChain) "__class__" = some (some (.builtin "object.__class__")))
    (wmC : PySem.W.mroIn K ABadChain (.type "object") = some true)
    (wnoC : PySem.W.kitAny K (.ref ABadChain) [.ref ANeverOne, .ref ANoSuch, .ref ANotOne, .ref ANotOrdered, .ref ATooMany] = some false)
    (wvC : PySem.W.kitOne K (.ref ABadChain) (.type "ValueError") = some true)
    (wn : PySem.W.specialIn K (.builtin "object.__class__") "__get__" = some (some (.builtin "getset_descriptor.__get__")))
    (ws : PySem.W.takesIn K (.builtin "object.__class__") = some true)
    (wtt : PySem.W.kitOne K (.ref ABadText) (.ref ABadText) = some true)
    (wtc : PySem.W.kitOne K (.ref ABadText) (.ref ABadChain) = some false)
    (wcc : PySem.W.kitOne K (.ref ABadChain) (.ref ABadChain) = some true)
    (wct : PySem.W.kitOne K (.ref ABadChain) (.ref ABadText) = some false)
    (lM_is_move : K.lookup cM_is_move = some ⟨eM_is_move, ddM_is_move, .fields vsM_is_move, slM_is_move⟩)
    (vM_is_move : vsM_is_move[11]? = some (.ref tM_is_move))
    (hM_is_move : PySem.W.codeHdIn K cM_is_move tM_is_move = true)
    (nT_is_move : K.lookup tM_is_move = none) :
    LamX.LawAtS l w K CX0 6 63 "_law_script" mg fa h := by
  have e := hfa.symm.trans (PySem.W.mg_of X G a_law)
  cases e
  have FM_is_move : FunT K "_is_move" "_is_move" sIsMove f_is_move _ cM_is_move := ⟨⟨_, _, _, _, _, _, _, _, rfl, l_is_move, c_is_move⟩, k_is_move⟩
  have F_is_move := fun_mk (st := sIsMove) l_is_move c_is_move k_is_move
  have b_is_move := F_is_move.binds (ps := ["many", "move"]) fun _ _ _ _ _ _ us hl => match us, hl with | [_, _], _ => rfl
  have g_is_move := PySem.W.mg_of X G a_is_move
  have D_is_move : Df K mg "_is_move" sIsMove ["many", "move"] f_is_move _ := ⟨F_is_move, b_is_move, g_is_move⟩
  have F_written := fun_mk (st := sWritten) l_written c_written k_written
  have b_written := F_written.binds (ps := ["chain"]) fun _ _ _ _ _ _ us hl => match us, hl with | [_], _ => rfl
  have g_written := PySem.W.mg_of X G a_written
  have D_written : Df K mg "written" sWritten ["chain"] f_written _ := ⟨F_written, b_written, g_written⟩
  have F_read := fun_mk (st := sRead) l_read c_read k_read
  have b_read := F_read.binds (ps := ["text"]) fun _ _ _ _ _ _ us hl => match us, hl with | [_], _ => rfl
  have g_read := PySem.W.mg_of X G a_read
  have D_read : Df K mg "read" sRead ["text"] f_read _ := ⟨F_read, b_read, g_read⟩
  have F_many := fun_mk (st := sMany) l_many c_many k_many
  have b_many := F_many.binds (ps := ["row"]) fun _ _ _ _ _ _ us hl => match us, hl with | [_], _ => rfl
  have g_many := PySem.W.mg_of X G a_many
  have D_many : Df K mg "_many" sMany ["row"] f_many _ := ⟨F_many, b_many, g_many⟩
  have F_move := fun_mk (st := sMove) l_move c_move k_move
  have b_move := F_move.binds (ps := ["row"]) fun _ _ _ _ _ _ us hl => match us, hl with | [_], _ => rfl
  have g_move := PySem.W.mg_of X G a_move
  have D_move : Df K mg "_move" sMove ["row"] f_move _ := ⟨F_move, b_move, g_move⟩
  have F_number := fun_mk (st := sNumber) l_number c_number k_number
  have b_number := F_number.binds (ps := ["word"]) fun _ _ _ _ _ _ us hl => match us, hl with | [_], _ => rfl
  have g_number := PySem.W.mg_of X G a_number
  have D_number : Df K mg "_number" sNumber ["word"] f_number _ := ⟨F_number, b_number, g_number⟩
  have F_law_cell := fun_mk (st := sCell) l_law_cell c_law_cell k_law_cell
  have b_law_cell := F_law_cell.binds (ps := ["_law_script", "_law_k"]) fun _ _ _ _ _ _ us hl => match us, hl with | [_, _], _ => rfl
  have g_law_cell := PySem.W.mg_of X G a_law_cell
  have D_law_cell : Df K mg "_law_cell" sCell ["_law_script", "_law_k"] f_law_cell _ := ⟨F_law_cell, b_law_cell, g_law_cell⟩
  have F_law_dice := fun_mk (st := sDice) l_law_dice c_law_dice k_law_dice
  have b_law_dice := F_law_dice.binds (ps := ["_law_script", "_law_k"]) fun _ _ _ _ _ _ us hl => match us, hl with | [_, _], _ => rfl
  have g_law_dice := PySem.W.mg_of X G a_law_dice
  have D_law_dice : Df K mg "_law_dice" sDice ["_law_script", "_law_k"] f_law_dice _ := ⟨F_law_dice, b_law_dice, g_law_dice⟩
  have F_law_off := fun_mk (st := sOff) l_law_off c_law_off k_law_off
  have b_law_off := F_law_off.binds (ps := ["_law_d", "_law_most"]) fun _ _ _ _ _ _ us hl => match us, hl with | [_, _], _ => rfl
  have g_law_off := PySem.W.mg_of X G a_law_off
  have D_law_off : Df K mg "_law_off" sOff ["_law_d", "_law_most"] f_law_off _ := ⟨F_law_off, b_law_off, g_law_off⟩
  have F_law_chain := fun_mk (st := sChain) l_law_chain c_law_chain k_law_chain
  have b_law_chain := F_law_chain.binds (ps := ["_law_d", "_law_most"]) fun _ _ _ _ _ _ us hl => match us, hl with | [_, _], _ => rfl
  have g_law_chain := PySem.W.mg_of X G a_law_chain
  have D_law_chain : Df K mg "_law_chain" sChain ["_law_d", "_law_most"] f_law_chain _ := ⟨F_law_chain, b_law_chain, g_law_chain⟩
  have F_law_figure := fun_mk (st := sLawFigure) l_law_figure c_law_figure k_law_figure
  have b_law_figure := F_law_figure.binds (ps := ["_law_word_here"]) fun _ _ _ _ _ _ us hl => match us, hl with | [_], _ => rfl
  have g_law_figure := PySem.W.mg_of X G a_law_figure
  have D_law_figure : Df K mg "_law_figure" sLawFigure ["_law_word_here"] f_law_figure _ := ⟨F_law_figure, b_law_figure, g_law_figure⟩
  have F_law_move := fun_mk (st := sLawMove) l_law_move c_law_move k_law_move
  have b_law_move := F_law_move.binds (ps := ["_law_words"]) fun _ _ _ _ _ _ us hl => match us, hl with | [_], _ => rfl
  have g_law_move := PySem.W.mg_of X G a_law_move
  have D_law_move : Df K mg "_law_move" sLawMove ["_law_words"] f_law_move _ := ⟨F_law_move, b_law_move, g_law_move⟩
  have F_law_read := fun_mk (st := sLawRead) l_law_read c_law_read k_law_read
  have b_law_read := F_law_read.binds (ps := ["_law_text"]) fun _ _ _ _ _ _ us hl => match us, hl with | [_], _ => rfl
  have g_law_read := PySem.W.mg_of X G a_law_read
  have D_law_read : Df K mg "_law_read" sLawRead ["_law_text"] f_law_read _ := ⟨F_law_read, b_law_read, g_law_read⟩
  have F_law_is_chain := fun_mk (st := sLawIsChain) l_law_is_chain c_law_is_chain k_law_is_chain
  have b_law_is_chain := F_law_is_chain.binds (ps := ["_law_many", "_law_moves"]) fun _ _ _ _ _ _ us hl => match us, hl with | [_, _], _ => rfl
  have g_law_is_chain := PySem.W.mg_of X G a_law_is_chain
  have D_law_is_chain : Df K mg "_law_is_chain" sLawIsChain ["_law_many", "_law_moves"] f_law_is_chain _ := ⟨F_law_is_chain, b_law_is_chain, g_law_is_chain⟩
  have F_law_spoilt := fun_mk (st := sLawSpoilt) l_law_spoilt c_law_spoilt k_law_spoilt
  have b_law_spoilt := F_law_spoilt.binds (ps := ["_law_d", "_law_text"]) fun _ _ _ _ _ _ us hl => match us, hl with | [_, _], _ => rfl
  have g_law_spoilt := PySem.W.mg_of X G a_law_spoilt
  have D_law_spoilt : Df K mg "_law_spoilt" sLawSpoilt ["_law_d", "_law_text"] f_law_spoilt _ := ⟨F_law_spoilt, b_law_spoilt, g_law_spoilt⟩
  have F_law_word := fun_mk (st := sLawWord) l_law_word c_law_word k_law_word
  have b_law_word := F_law_word.binds (ps := ["_law_text"]) fun _ _ _ _ _ _ us hl => match us, hl with | [_], _ => rfl
  have g_law_word := PySem.W.mg_of X G a_law_word
  have D_law_word : Df K mg "_law_word" sLawWord ["_law_text"] f_law_word _ := ⟨F_law_word, b_law_word, g_law_word⟩
  have F_law := fun_mk (st := sLaw) l_law c_law k_law
  have g_law := PySem.W.mg_of X G a_law
  have F_minit := fun_mk (st := inClass cChain 0) l_minit c_minit k_minit
  have b_minit := F_minit.binds (ps := ["self", "many", "moves"]) fun _ _ _ _ _ _ us hl => match us, hl with | [_, _, _], _ => rfl
  have F_mplaces := fun_mk (st := inClass cChain 1) l_mplaces c_mplaces k_mplaces
  have b_mplaces := F_mplaces.binds (ps := ["self"]) fun _ _ _ _ _ _ us hl => match us, hl with | [_], _ => rfl
  have F_mtold := fun_mk (st := inClass cChain 2) l_mtold c_mtold k_mtold
  have b_mtold := F_mtold.binds (ps := ["self"]) fun _ _ _ _ _ _ us hl => match us, hl with | [_], _ => rfl
  have gC := PySem.W.mg_of X G aC
  have GMOST_PLACES := PySem.W.mg_of X G gMOST_PLACES
  have GMOST_MOVES := PySem.W.mg_of X G gMOST_MOVES
  have GMOST_WEIGHT := PySem.W.mg_of X G gMOST_WEIGHT
  have Zlen := PySem.W.mg_none_of X G zlen
  have Zabs := PySem.W.mg_none_of X G zabs
  have Zmax := PySem.W.mg_none_of X G zmax
  have Zmin := PySem.W.mg_none_of X G zmin
  have Zint := PySem.W.mg_none_of X G zint
  have Zrange := PySem.W.mg_none_of X G zrange
  have Zsorted := PySem.W.mg_none_of X G zsorted
  have Ztuple := PySem.W.mg_none_of X G ztuple
  have Zisinstance := PySem.W.mg_none_of X G zisinstance
  have Zall := PySem.W.mg_none_of X G zall
  have Zenumerate := PySem.W.mg_none_of X G zenumerate
  have Zlist := PySem.W.mg_none_of X G zlist
  have Zbool := PySem.W.mg_none_of X G zbool
  have ZValueError := PySem.W.mg_none_of X G zValueError
  have Zstr := PySem.W.mg_none_of X G zstr
  have tabE_is_move : h.get? tM_is_move = some { cls := .none, data := .fields #[] } := by
    obtain ⟨a', o', fd', c', P', oc, vc, g1, g2, g3, g4, e1, e3, e4, e5⟩ := TO_is_move
    rw [g_is_move] at g1
    cases g1
    have q1 := X _ _ l_is_move
    rw [q1] at g2
    cases g2
    cases g3
    cases g4
    have q2 := X _ _ lM_is_move
    rw [q2] at e1
    cases e1
    cases e3
    rw [vM_is_move] at e4
    cases e4
    exact e5
  have LT : LawTxt K mg f_law_cell f_law_dice f_law_off _ _ _ := ⟨F_law_cell, b_law_cell, g_law_cell, F_law_dice, b_law_dice, g_law_dice, F_law_off, b_law_off, g_law_off, Zlen, Zabs, Zmax, Zmin, Zint, Zrange, Zsorted, Ztuple⟩
  have CL' : Cls K C := ⟨pg, hd, po, sa⟩
  have CH : ChTxt K mg f_is_move cM_is_move tM_is_move _ C f_minit _ := ⟨FM_is_move, b_is_move, g_is_move, F_minit, b_minit, ⟨mk, a_minit, i_minit, kc⟩, CL', nM, nV, gC, ⟨_, GMOST_PLACES⟩, ⟨_, GMOST_MOVES⟩, ⟨_, GMOST_WEIGHT⟩, Zlen, Zisinstance, Ztuple, Zrange, Zall, Zenumerate, Zlist⟩
  have CM : ChM K C f_mplaces f_mtold _ _ := ⟨F_mplaces, b_mplaces, ⟨a_mplaces, i_mplaces, k_mplaces⟩, F_mtold, b_mtold, ⟨a_mtold, i_mtold, k_mtold⟩, CL', nM, nV⟩
  have N_BadChain : OwnE K mg "BadChain" ABadChain := ⟨PySem.W.mg_of X G eBadChain, xkBadChain, xxBadChain, xbBadChain, xtBadChain⟩
  have X_BadText : OexC K ABadText := oexB_ok oeiBadText osiBadText obiBadText otiBadText okiBadText
  have T_BadText : SupE l.prog K ABadText cc_iBadText cda_iBadText := ⟨X_BadText, ⟨_, _, _, _, _, _, oc1iBadText, oc2iBadText, oc3iBadText⟩, ⟨_, _, _, oliBadText⟩, Option.isSome_iff_exists.mp odiBadText, omiBadText, zsuper, ztop, zstat, oaiBadText, oviBadText⟩
  have N_BadText : OwnI K mg "BadText" ABadText f_iBadText (PySem.W.fnX "__init__" "BadText.__init__" (defArgs (inClass cBadText 0)) (defBody (inClass cBadText 0)) (defScope (inClass cBadText 0)) [("__class__", cc_iBadText)] .none kV_iBadText dc_iBadText pm_iBadText an_iBadText (.ref cda_iBadText) ct_iBadText) ["self", "row"] "row" := ⟨PySem.W.mg_of X G eBadText, X_BadText, oiiBadText, ofiBadText, oniBadText, Binds.all (fun us hl => match us, hl with | [_, _], _ => rfl)⟩
  refine ⟨PySem.W.fnOf "law" "law" (defArgs sLaw) (defBody sLaw) (defScope sLaw) .none kV_law dc_law pm_law an_law cd_law ct_law, [(cM_is_move, tM_is_move)], spLaw K tM_is_move, fun p hp => ?_, fun p hp => ?_, fun p hp => ?_, fun s v => .of_eq rfl, fun H a ns hl hbits hT hS => ?_, fun base hK hG hTB => ?_⟩
  · have e : p = (cM_is_move, tM_is_move) := by simpa using hp
    rw [e]
    exact tabE_is_move
  · have e : p = (cM_is_move, tM_is_move) := by simpa using hp
    rw [e]
    exact nT_is_move
  · have e : p = (cM_is_move, tM_is_move) := by simpa using hp
    rw [e]
    exact PySem.W.codeHd_of_K X hM_is_move
  · exact ⟨a, ns, rfl, hS, hl, ⟨#[], hT (cM_is_move, tM_is_move) (by simp), by simp [TriplesOk]⟩, fun _ => rfl⟩
  · have TBx := hTB (cM_is_move, tM_is_move) (by simp)
    have TB : GxR.TabB base mg cM_is_move tM_is_move := ⟨TBx.code, TBx.bm, TBx.gP⟩
    have GNb : FnOk l.prog w K mg base CX0 1 f_number _ ["word"] spNb := ok_number F_number Zrange Zstr
    have GMy : FnOk l.prog w K mg base CX0 2 f_many _ ["row"] spMy := ok_many F_many D_number Zlen Zrange Zstr
    have GMo : FnOk l.prog w K mg base CX0 2 f_move _ ["row"] spMo := ok_move F_move D_number Zlen Zrange Zstr Ztuple
    have GWt : FnOk l.prog w K mg base CX0 2 f_written _ ["chain"] (spWt C) := ok_written F_written CM Zlist Zstr
    have GI : FnOk l.prog w K mg base CX0 1 f_iBadText _ ["self", "row"] (spBT K ABadText) := ok_bt T_BadText l_iBadText c_iBadText
    have G1 : FnOk l.prog w K mg base (L2.CX l.prog w) 4 f_read _ ["text"] (spRdT ABadText) := ok_readT F_read D_many GMy D_move GMo N_BadText GI
    have G2 : FnOk l.prog w K mg base (L2.CX l.prog w) 4 f_read _ ["text"] (spRdC ABadChain tM_is_move) := ok_readC F_read D_many GMy D_move GMo CH N_BadChain TB
    have R : RefT K mg ALongError ABadText ABadChain ANeverOne ANoSuch ANotOne ANotOrdered ATooMany := ⟨PySem.W.mg_of X G eLongError, wexT, wexC, PySem.W.mg_of X G eBadText, PySem.W.mg_of X G eBadChain, ⟨wgT, whT, obiBadText, wdT, waT, wn, ws, wmT⟩, ⟨wgC, whC, xbBadChain, wdC, waC, wn, ws, wmC⟩,
      PySem.W.mg_of X G eNeverOne, PySem.W.mg_of X G eNoSuch, PySem.W.mg_of X G eNotOne, PySem.W.mg_of X G eNotOrdered, PySem.W.mg_of X G eTooMany, wnoT, wnoC, wvT, wvC, wtt, wtc, wcc, wct, oniBadText, Zisinstance, ZValueError, Zbool, Zint⟩
    have GRd : FnOk l.prog w K mg base CX0 4 f_read _ ["text"] (spRd C tM_is_move) := ok_read F_read D_many GMy D_move GMo CH TB
    have GLw : FnOk l.prog w K mg base CX0 5 f_law_word _ ["_law_text"] (spLw tM_is_move) := ok_lword F_law_word R D_read G1 G2
    exact ok_law F_law LT D_law_chain D_law_spoilt D_law_read D_law_move D_law_figure D_law_word D_law_is_chain D_written D_read CM GLw GRd GWt Zlist Zstr
end Lg
open PySem PySem.W PyProof.Rows
set_option maxRecDepth 100000 in
set_option maxHeartbeats 0 in
theorem PySem.Challenge.cw_longago_k22_texts_spoilt_anywhere_holds : PySem.Challenge.rw_longago_k22_texts_spoilt_anywhere.Holds := by
  w_on; o_law; k_head; (case hw => w_witness2)
  k_fill
  refine Lg.walk_tab (l := PySem.Challenge.rw_longago_k22_texts_spoilt_anywhere) (n := 63) (k := 6) (x := "_law_script") (CX := fun _ => L2.CX0) "_is_move" rfl (by decide) rfl ⟨rfl, by decide, by decide⟩ (by decide +kernel) (fun w h Y => PySem.W.kIn_of Y) ?F (fun _ _ _ _ _ z => z)
  case F =>
    intro w mg fa h KX G hmg TO0
    refine' Lg.all_mk KX G hmg TO0 ?a_is_move ?l_is_move ?c_is_move ?k_is_move ?a_written ?l_written ?c_written ?k_written ?a_read ?l_read ?c_read ?k_read ?a_many ?l_many ?c_many ?k_many ?a_move ?l_move ?c_move ?k_move ?a_number ?l_number ?c_number ?k_number ?a_law_cell ?l_law_cell ?c_law_cell ?k_law_cell ?a_law_dice ?l_law_dice ?c_law_dice ?k_law_dice ?a_law_off ?l_law_off ?c_law_off ?k_law_off ?a_law_chain ?l_law_chain ?c_law_chain ?k_law_chain ?a_law_figure ?l_law_figure ?c_law_figure ?k_law_figure ?a_law_move ?l_law_move ?c_law_move ?k_law_move ?a_law_read ?l_law_read ?c_law_read ?k_law_read ?a_law_is_chain ?l_law_is_chain ?c_law_is_chain ?k_law_is_chain ?a_law_spoilt ?l_law_spoilt ?c_law_spoilt ?k_law_spoilt ?a_law_word ?l_law_word ?c_law_word ?k_law_word ?a_law ?l_law ?c_law ?k_law ?aC ?a_minit ?i_minit ?l_minit ?c_minit ?k_minit ?a_mplaces ?i_mplaces ?l_mplaces ?c_mplaces ?k_mplaces ?a_mtold ?i_mtold ?l_mtold ?c_mtold ?k_mtold ?pg ?hd ?po ?sa ?mk ?kc ?nM ?nV ?gMOST_PLACES ?gMOST_MOVES ?gMOST_WEIGHT ?zlen ?zabs ?zmax ?zmin ?zint ?zrange ?zsorted ?ztuple ?zisinstance ?zall ?zenumerate ?zlist ?zbool ?zValueError ?zstr ?eLongError ?eBadChain ?eBadText ?eNoSuch ?eNotOne ?eNeverOne ?eNotOrdered ?eTooMany ?xkBadChain ?xxBadChain ?xbBadChain ?xtBadChain ?oeiBadText ?osiBadText ?obiBadText ?otiBadText ?okiBadText ?oiiBadText ?ofiBadText ?oniBadText ?l_iBadText ?c_iBadText ?oc1iBadText ?oc2iBadText ?oc3iBadText ?oliBadText ?odiBadText ?omiBadText ?oaiBadText ?oviBadText ?zsuper ?ztop ?zstat ?wexT ?wgT ?whT ?wdT ?waT ?wmT ?wnoT ?wvT ?wexC ?wgC ?whC ?wdC ?waC ?wmC ?wnoC ?wvC ?wn ?ws ?wtt ?wtc ?wcc ?wct ?lM_is_move ?vM_is_move ?hM_is_move ?nT_is_move
    (case a_is_move => k_is)
    (case l_is_move => k_is)
    (case c_is_move => k_is)
    (case k_is_move => k_is)
    (case a_written => k_is)
    (case l_written => k_is)
    (case c_written => k_is)
    (case k_written => k_is)
    (case a_read => k_is)
    (case l_read => k_is)
    (case c_read => k_is)
    (case k_read => k_is)
    (case a_many => k_is)
    (case l_many => k_is)
    (case c_many => k_is)
    (case k_many => k_is)
    (case a_move => k_is)
    (case l_move => k_is)
    (case c_move => k_is)
    (case k_move => k_is)
    (case a_number => k_is)
    (case l_number => k_is)
    (case c_number => k_is)
    (case k_number => k_is)
    (case a_law_cell => k_is)
    (case l_law_cell => k_is)
    (case c_law_cell => k_is)
    (case k_law_cell => k_is)
    (case a_law_dice => k_is)
    (case l_law_dice => k_is)
    (case c_law_dice => k_is)
    (case k_law_dice => k_is)
    (case a_law_off => k_is)
    (case l_law_off => k_is)
    (case c_law_off => k_is)
    (case k_law_off => k_is)
    (case a_law_chain => k_is)
    (case l_law_chain => k_is)
    (case c_law_chain => k_is)
    (case k_law_chain => k_is)
    (case a_law_figure => k_is)
    (case l_law_figure => k_is)
    (case c_law_figure => k_is)
    (case k_law_figure => k_is)
    (case a_law_move => k_is)
    (case l_law_move => k_is)
    (case c_law_move => k_is)
    (case k_law_move => k_is)
    (case a_law_read => k_is)
    (case l_law_read => k_is)
    (case c_law_read => k_is)
    (case k_law_read => k_is)
    (case a_law_is_chain => k_is)
    (case l_law_is_chain => k_is)
    (case c_law_is_chain => k_is)
    (case k_law_is_chain => k_is)
    (case a_law_spoilt => k_is)
    (case l_law_spoilt => k_is)
    (case c_law_spoilt => k_is)
    (case k_law_spoilt => k_is)
    (case a_law_word => k_is)
    (case l_law_word => k_is)
    (case c_law_word => k_is)
    (case k_law_word => k_is)
    (case a_law => k_is)
    (case l_law => k_is)
    (case c_law => k_is)
    (case k_law => k_is)
    (case aC => k_is)
    (case a_minit => k_is)
    (case i_minit => k_is)
    (case l_minit => k_is)
    (case c_minit => k_is)
    (case k_minit => k_is)
    (case a_mplaces => k_is)
    (case i_mplaces => k_is)
    (case l_mplaces => k_is)
    (case c_mplaces => k_is)
    (case k_mplaces => k_is)
    (case a_mtold => k_is)
    (case i_mtold => k_is)
    (case l_mtold => k_is)
    (case c_mtold => k_is)
    (case k_mtold => k_is)
    (case pg => k_is)
    (case hd => k_is)
    (case po => k_is)
    (case sa => k_is)
    (case mk => k_is)
    (case kc => k_is)
    (case nM => k_is)
    (case nV => k_is)
    (case gMOST_PLACES => k_is)
    (case gMOST_MOVES => k_is)
    (case gMOST_WEIGHT => k_is)
    (case zlen => k_is)
    (case zabs => k_is)
    (case zmax => k_is)
    (case zmin => k_is)
    (case zint => k_is)
    (case zrange => k_is)
    (case zsorted => k_is)
    (case ztuple => k_is)
    (case zisinstance => k_is)
    (case zall => k_is)
    (case zenumerate => k_is)
    (case zlist => k_is)
    (case zbool => k_is)
    (case zValueError => k_is)
    (case zstr => k_is)
    (case eLongError => first | k_is | rfl | decide +kernel)
    (case eBadChain => first | k_is | rfl | decide +kernel)
    (case eBadText => first | k_is | rfl | decide +kernel)
    (case eNoSuch => first | k_is | rfl | decide +kernel)
    (case eNotOne => first | k_is | rfl | decide +kernel)
    (case eNeverOne => first | k_is | rfl | decide +kernel)
    (case eNotOrdered => first | k_is | rfl | decide +kernel)
    (case eTooMany => first | k_is | rfl | decide +kernel)
    (case xkBadChain => first | k_is | rfl | decide +kernel)
    (case xxBadChain => k_exc)
    (case xbBadChain => first | k_is | rfl | decide +kernel)
    (case xtBadChain => first | k_is | rfl | decide +kernel)
    (case oeiBadText => first | k_is | rfl | decide +kernel)
    (case osiBadText => first | k_is | rfl | decide +kernel)
    (case obiBadText => first | k_is | rfl | decide +kernel)
    (case otiBadText => first | k_is | rfl | decide +kernel)
    (case okiBadText => first | k_is | rfl | decide +kernel)
    (case oiiBadText => k_is)
    (case ofiBadText => first | k_is | rfl | decide +kernel)
    (case oniBadText => first | k_is | rfl | decide +kernel)
    (case l_iBadText => k_is)
    (case c_iBadText => k_is)
    (case oc1iBadText => k_is)
    (case oc2iBadText => first | rfl | k_is)
    (case oc3iBadText => first | rfl | decide +kernel)
    (case oliBadText => k_is)
    (case odiBadText => first | k_is | rfl | decide +kernel)
    (case omiBadText => first | k_is | rfl | decide +kernel)
    (case oaiBadText => first | k_is | rfl | decide +kernel)
    (case oviBadText => first | k_is | rfl | decide +kernel)
    (case zsuper => k_is)
    (case ztop => first | rfl | decide +kernel)
    (case zstat => first | k_is | rfl | decide +kernel)
    (case wexT => first | k_is | rfl | decide +kernel)
    (case wgT => first | k_is | rfl | decide +kernel)
    (case whT => first | k_is | rfl | decide +kernel)
    (case wdT => first | k_is | rfl | decide +kernel)
    (case waT => first | k_is | rfl | decide +kernel)
    (case wmT => first | k_is | rfl | decide +kernel)
    (case wnoT => first | k_is | rfl | decide +kernel)
    (case wvT => first | k_is | rfl | decide +kernel)
    (case wexC => first | k_is | rfl | decide +kernel)
    (case wgC => first | k_is | rfl | decide +kernel)
    (case whC => first | k_is | rfl | decide +kernel)
    (case wdC => first | k_is | rfl | decide +kernel)
    (case waC => first | k_is | rfl | decide +kernel)
    (case wmC => first | k_is | rfl | decide +kernel)
    (case wnoC => first | k_is | rfl | decide +kernel)
    (case wvC => first | k_is | rfl | decide +kernel)
    (case wn => first | k_is | rfl | decide +kernel)
    (case ws => first | k_is | rfl | decide +kernel)
    (case wtt => first | k_is | rfl | decide +kernel)
    (case wtc => first | k_is | rfl | decide +kernel)
    (case wcc => first | k_is | rfl | decide +kernel)
    (case wct => first | k_is | rfl | decide +kernel)
    (case lM_is_move => k_is)
    (case vM_is_move => first | rfl | k_is)
    (case hM_is_move => first | k_is | rfl | decide +kernel)
    (case nT_is_move => first | k_is | rfl | decide +kernel)

