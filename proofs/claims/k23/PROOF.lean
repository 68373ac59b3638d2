import PyProof.Rows.All
import Wide.All
import OpenK.AllK
import Wide.FinOn
import PyProof.EqAt
import PyProof.EqKinds
import PyProof.TupleCall
import HandS.ForMost
import HandS.FStrTup
import HandS.FStr
import KE.KExcSuper
import HandS.Nested
import HandS.ExcInit
import HandS.ExcIs
import HandS.IsInst
import HandS.ExcField
import KE.KExcIs
import HandS.WordsExc
import HandS.ExcOwn
import HandS.RaiseMore
import HandS.Conv
import HandS.Codes
import HandS.AnyAll
import HandS.Sort
import HandS.Zip
import HandS.Walk
import KE.KEqSeq
import HandS.SetFor
import HandS.Strs
import HandS.Rev
import HandS.Deep
import KE.KEqDeep
import HandS.Style
import KE.KDflt
import HandS.EndTab
import PySem.Challenge.RW_longago_k23_numbers_refused_anywhere
set_option Elab.async false
set_option linter.all false
set_option maxRecDepth 100000
set_option maxHeartbeats 4000000
namespace Lg
open PySem PySem.Spec PyProof.Rows L2
def topS (i : Nat) : Stmt := PySem.Challenge.pw_longago_k23_numbers_refused_anywhere.main.body.getD i (.Pass ⟨0, 0, 0, 0⟩)
abbrev cLongError : Stmt := topS 2
abbrev cBadChain : Stmt := topS 3
abbrev cBadText : Stmt := topS 4
abbrev cNoSuch : Stmt := topS 5
abbrev cNotOne : Stmt := topS 6
abbrev cNeverOne : Stmt := topS 7
abbrev cNotOrdered : Stmt := topS 8
abbrev cTooMany : Stmt := topS 9
abbrev sStepsOf : Stmt := topS 11
abbrev sWalked : Stmt := topS 12
abbrev sTogether : Stmt := topS 13
abbrev sEnds : Stmt := topS 14
abbrev sDrawn : Stmt := topS 15
abbrev sDrawnFrom : Stmt := topS 16
abbrev sAreOne : Stmt := topS 17
abbrev sTries : Stmt := topS 18
abbrev sByEnds : Stmt := topS 20
abbrev sFirstBreaking : Stmt := topS 21
abbrev sKeeps : Stmt := topS 22
abbrev sFraction : Stmt := topS 24
abbrev sEverywhere : Stmt := topS 26
abbrev sLedTo : Stmt := topS 27
abbrev cChain : Stmt := topS 32
abbrev sIsMove : Stmt := topS 33
abbrev sShares : Stmt := topS 36
abbrev sBehindAStep : Stmt := topS 37
abbrev sCell : Stmt := topS 39
abbrev sDice : Stmt := topS 40
abbrev sOff : Stmt := topS 41
abbrev sChain : Stmt := topS 42
abbrev sMade : Stmt := topS 43
abbrev sNumbers : Stmt := topS 44
abbrev sLawWord : Stmt := topS 45
abbrev sLawFar : Stmt := topS 46
abbrev sLawFirstUnkept : Stmt := topS 47
abbrev sLaw : Stmt := topS 48
/-! ### {a list of ints} in an f-string: some text of bounded length -/
namespace Fl
open PySem PySem.Spec PyProof.Rows
section
variable {prog : Program} {w : World} {A : Around} {E : Value → Shared → Prop} {s : Shared} {a : Addr} {oa : Obj} {x : Value} {l : List Value} {na : Nat} {ts : List Str}
theorem repr_fin {R : Result → Shared → Prop} (ha : s.heap.get? a = some oa) (hda : oa.data = .seq (x :: l).toArray na) (hlen : ts.length = (x :: l).toArray.size)
    (hT : ∀ (i : Nat) (y : Value), (x :: l).toArray[i]? = some y → ∃ t, ts[i]? = some t ∧ ReprIs prog w y t)
    (hR : ∀ m h' u tk, m.length ≤ (listText ts).length + 5 → (∀ b o, s.heap.get? b = some o → h'.get? b = some o) → R (.ok (.ret (.str m u))) { s with heap := h', toks := tk }) (hsz : (listText ts).length ≤ sizeLine) :
    wpAny (model prog w) A.in1 (Builtin.listReprAt 0 ⟨[.ref a], []⟩)
      (fun fin s' => match fin with | .done f => R (.ok f) s' | .again c' => c'.quiet = true ∧ codeAny (model prog w) A c' R s') (fun e s' => R (.error e) s') s := by
  unfold Builtin.listReprAt
  show wpAny _ _ (Builtin.List.listItems (.ref a) >>= _) _ _ s
  unfold Builtin.List.listItems
  refine wpAny_bind (wpAny_bind (wpAny_seqItems ha hda (wpAny_pure ?_)))
  refine PySem.W.KFB.if_not rfl ?_
  refine wpAny_bind (wpAny_stack_any fun st => ?_)
  refine wpAny_ite_split (fun _ => ?_) (fun _ => ?_)
  · refine wpAny_bind (wpAny_rule ?_)
    refine wpAny_bind (wpAny_mkStr (wpAny_pure ?_) (by decide +kernel))
    exact hR "[...]" _ _ _ (Nat.le_trans (by decide +kernel) (Nat.le_add_left _ _)) fun b o e => e
  · refine wpAny_bind (m := newList []) (wpAny_newObj_type ?_)
    refine wpAny_pure ⟨F.quiet_list_repr_loop _, ?_⟩
    refine codeAny_list_repr_start (b := 0) (P := s.heap.objs.size) (Nat.ne_of_lt (Heap.lt_size ha)) hlen hT (Heap.get?_push_of_some _ ha) hda (Heap.get?_push_size _ rfl) (fun h' u tk hk => ?_) (by omega)
    exact hR _ h' u tk (Nat.le_add_right _ _) fun b o e => hk b o (Nat.ne_of_lt (Heap.lt_size e)) (Heap.get?_push_of_some _ e)
theorem call_repr {Q : Value → Shared → Prop} (hTy : s.TypeIs (.ref a) "list") (ha : s.heap.get? a = some oa) (hda : oa.data = .seq (x :: l).toArray na) (hlen : ts.length = (x :: l).toArray.size)
    (hT : ∀ (i : Nat) (y : Value), (x :: l).toArray[i]? = some y → ∃ t, ts[i]? = some t ∧ ReprIs prog w y t)
    (hQ : ∀ m h' u tk, m.length ≤ (listText ts).length + 5 → (∀ b o, s.heap.get? b = some o → h'.get? b = some o) → Q (.str m u) { s with heap := h', toks := tk }) (hsz : (listText ts).length ≤ sizeLine) :
    wpAny (model prog w) A (call (.builtin "list.__repr__") [.ref a]) Q E s :=
  wpAny_call (codeAny_call_builtin F.slot_list_repr.plain F.entry_list_repr (F.slot_list_repr.check _ _ _ _ _ _ _ _ hTy (F.args_list_repr_1 _)
    (repr_fin (R := fun r s' => match r with | .ok (.ret v) => Q v s' | .ok _ => False | .error e => E e s') ha hda hlen hT hQ hsz)))
/-- the signs of a list's text -/
theorem textFrom_up : ∀ (ts : List Str) (k : Nat) (acc : Str), (textFrom k acc ts).length ≤ acc.length + piled ts
  | [], k, acc => Nat.le_add_right _ _
  | t :: ts, k, acc => by
    have h := textFrom_up ts (k + 1) (acc ++ (if k > 0 then ", " else "" : String) ++ t)
    have e : ((if k > 0 then ", " else "" : String) : Str).length ≤ 2 := by split <;> decide +kernel
    rw [strLen_append, strLen_append] at h
    rw [piled_cons]
    show (textFrom (k + 1) _ ts).length ≤ _
    omega
theorem listText_up (ts : List Str) : (listText ts).length ≤ piled ts + 2 := by
  unfold listText
  rw [strLen_append]
  have h := textFrom_up ts 0 "["
  have e1 : (("[" : String) : Str).length = 1 := rfl
  have e2 : (("]" : String) : Str).length = 1 := rfl
  omega
end
end Fl
section
/-- {l}, l a list of ints -/
def tFmtL (K : PySem.W.Frag) (te : TE) : TE := fun σ H Q => te σ H fun x H1 => ∃ (a : Addr) (ns : List Int), x = .ref a ∧ SqL K H1 a (ns.map V.int) ∧ ns.length ≤ 64 ∧ (∀ n ∈ ns, n.natAbs.log2 < 1920) ∧ ∀ m : Str, m.length ≤ 200000 → Q (.str m) H1
theorem ints_repr {prog : Program} {w : World} : ∀ {ns : List Int} {its : List Value}, Vals (ns.map V.int) its → (∀ n ∈ ns, n.natAbs.log2 < 1920) → ∃ ts : List Str, ts.length = its.length ∧ piled ts ≤ 1923 * ns.length ∧ ∀ (i : Nat) (y : Value), its[i]? = some y → ∃ t, ts[i]? = some t ∧ ReprIs prog w y t
  | [], _, r, _ => by
    cases r
    exact ⟨[], rfl, Nat.le_refl _, fun i y e => by simp at e⟩
  | n :: ns, _, r, h => by
    cases r with
    | cons r1 r2 =>
      obtain ⟨t, rfl⟩ := r1
      obtain ⟨ts, l1, l2, l3⟩ := ints_repr (prog := prog) (w := w) r2 fun z hz => h z (List.mem_cons_of_mem _ hz)
      have hn := h n List.mem_cons_self
      refine ⟨Str.ofString (toString n) :: ts, by rw [List.length_cons, List.length_cons, l1], ?_, fun i y e => ?_⟩
      · rw [piled_cons, List.length_cons]
        have := int_text_length_le (k := 1920) (by decide) hn
        rw [PySem.ofString_length]
        omega
      · cases i with
        | zero =>
          simp at e
          subst e
          exact ⟨_, rfl, ReprIs.int t hn⟩
        | succ i => simpa using l3 i y (by simpa using e)
theorem pe_fmtL {X : Cx} {te : TE} {e : Expr} {pos : Pos} {k : Nat} (hr : Room k X.A) (he : PE X e te) : PE X (.FormattedValue e (-1) none pos) (tFmtL X.K te) := by
  refine ⟨fun pins s σ H Q I h => ?_⟩
  refine wpAny_FormattedValue_plain (thn (he.run pins s σ H _ I h) fun v s1 hv => ?_)
  obtain ⟨x, H1, I1, r1, a, ns, rfl, hl, h64, hb, q⟩ := hv
  cases r1
  obtain ⟨its, rv, ⟨⟨oc, od, odt, osl⟩, n, ho, hcl, hdn, hd⟩, hz⟩ := I1.list hl
  have hd : odt = .seq its.toArray n := hd
  have hcl : oc = .type "list" := hcl
  have hdn : od = none := hdn
  subst hd hcl hdn
  have hu := hr.units
  obtain ⟨ts, l1, l2, l3⟩ := ints_repr (prog := X.prog) (w := X.w) rv hb
  have up := Fl.listText_up ts
  refine wpAny_formatField_slot (fun _ _ => nofun) (by omega) ⟨_, ho, rfl⟩ F.slot_list_format F.slot_list_str F.slot_list_repr.toG ?_
  cases its with
  | nil =>
    refine call_list_repr_empty (s := { s1 with toks := s1.toks + 1 }) ⟨_, ho, rfl⟩ ho rfl ?_
    exact ⟨"[]", _, rfl, .str "[]", H1, I1.tok _, ⟨_, rfl⟩, q "[]" (by decide +kernel)⟩
  | cons y r =>
    refine Fl.call_repr (s := { s1 with toks := s1.toks + 1 }) (ts := ts) ⟨_, ho, rfl⟩ ho rfl (by rw [l1, List.size_toArray]) (fun i z e => l3 i z (by simpa using e)) (fun m h' u tk hm hk => ?_) (by rw [sizeLine_eq]; omega)
    exact ⟨m, u, rfl, .str m, H1, I1.kept hk, ⟨u, rfl⟩, q m (by omega)⟩
end
section
open PySem.W PySem.Calls NdefX
/-! ### an own error whose __init__ begins with super().__init__(..) -/
theorem inv_pin {X : Cx} {σ : L2.St} {H : Hp} {s : Shared} {u : Addr} {o : Obj} (I : Inv X [] σ H s) (hu : s.heap.get? u = some o) (n : H u = none) (nl : u ≠ X.env.locals) (nf : u ∉ X.fs) (nc : ∀ v, o.data ≠ .cell v) : Inv X [(u, o)] σ H s :=
  ⟨I.ok, I.os, I.bare, I.base, I.loc, I.cell, I.free, I.freeC, fun p hp => by
    rcases List.mem_append.mp hp with hp | hp
    · exact I.pin p (List.mem_append_left _ hp)
    · rw [List.mem_singleton.mp hp]
      exact ⟨hu, n, nl, nf, nc⟩, I.hok, I.len⟩
theorem inv_unpin {X : Cx} {σ : L2.St} {H : Hp} {s : Shared} {pins : List (Addr × Obj)} (I : Inv X pins σ H s) : Inv X [] σ H s := by
  refine ⟨I.ok, I.os, I.bare, I.base, I.loc, I.cell, I.free, I.freeC, fun p hp => ?_, I.hok, I.len⟩
  rw [List.append_nil] at hp
  exact I.pin p (List.mem_append_left _ hp)
def oexB (K : PySem.W.Frag) (C : Addr) : Bool := match K.lookup C with
  | some ⟨.type "type", _, .cls cd, sl⟩ => (match cd.mro, sl.toList with
    | .ref C' :: bm, [_, _, _, _, some (.builtin n), _] => C' == C && n == "ValueError.__new__" && !cd.hasDel && cd.hasDict && PySem.HandSPX.refsVE bm
    | _, _ => false)
  | _ => false
theorem oexB_ok {K : PySem.W.Frag} {C : Addr} (q : oexB K C = true) (h1 : PySem.W.findIn K (.ref C) "__setattr__" = some (some (.builtin "object.__setattr__"))) (h2 : PySem.W.subIn K (.ref C) (.type "BaseException") = some true) (h3 : PySem.W.typeIn K (.ref C) = some (.type "type")) (h4 : PySem.W.keepIn K (.ref C) = true) : OexC K C := by
  refine ⟨?_, h1, h2, h3, h4⟩
  unfold oexB at q
  split at q
  · rename_i dd cd sl ho
    split at q
    · rename_i C' bm k0 k1 k2 k3 n k5 hm hs
      simp only [Bool.and_eq_true, beq_iff_eq, Bool.not_eq_true'] at q
      obtain ⟨⟨⟨⟨rfl, rfl⟩, hdel⟩, hdict⟩, hr⟩ := q
      obtain ⟨nm, bs, mro, ns, qn, hd, sn, sub, ab, col, del⟩ := cd
      dsimp only at hm hdel hdict
      subst hm hdel hdict
      have hsl : sl = #[k0, k1, k2, k3, some (.builtin "ValueError.__new__"), k5] := by
        obtain ⟨l⟩ := sl
        simp only at hs
        rw [hs]
      subst hsl
      exact ⟨nm, qn, ns, bs, bm, sn, sub, ab, col, dd, k0, k1, k2, k3, k5, ho, hr⟩
    · cases q
  · cases q
structure SupE (P : Program) (K : PySem.W.Frag) (C cc cda : Addr) : Prop where
  X : OexC K C
  code : ∃ ccl cdd vs ccs file tf, K.lookup cda = some ⟨ccl, cdd, .fields vs, ccs⟩ ∧ vs[2]? = some (.str file tf) ∧ ((P.main.file : Str) == file) = true
  cell : ∃ cl cld csl, K.lookup cc = some ⟨cl, cld, .cell (some (.ref C)), csl⟩
  cls : ∃ cd, clsIn K C = some cd
  sub : mroIn K C (.ref C) = some true
  gs : nsIn K mainGlobals "super" = some none
  htop : (P.main.scope.names.lookup ("super" : Str)).isSome = false
  op : nsIn K cStatics "thirdparty.any" = some none
  al : ks_superIn K C C "__init__" = some (some (.builtin "ValueError.__init__"))
  ve : subIn K (.ref C) (.type "ValueError") = some true
variable {CX : CXT} {P : Program} {w : World} {K : PySem.W.Frag} {mg : Str → Option Value} {base : Heap}
/-- super().__init__ of a def: what comes of the name -/
theorem sup_method {X : Cx} {σ : L2.St} {H : Hp} {s : Shared} {C cc cda f x : Addr} {qual : Str} {scope : Scope} {body : List Stmt} {p0 p1 : Pos} {whole : Sem Value} {fd : FuncData} {ar : Arg} {oc : Value} {od : Option Addr} {osl : Array (Option Value)} {pl : Sem Bool} {Q : Value × List Value → Shared → Prop}
    (T : SupE X.prog X.K C cc cda) (I : Inv X [] σ H s) (henv : X.env = envX qual scope s_loc f (.ref cda) [("__class__", cc)])
    (lk : X.K.lookup f = some ⟨oc, od, .func fd, osl⟩) (hp : (fd.params.posonlyargs ++ fd.params.args).head? = some ar) (hN : X.N[0]? = some ar.arg) (hσ : σ[0]? = some (some (.ref x))) (hx : H x = some (exo x C none))
    (hks : scope.names.lookup ("super" : Str) = some .globalImplicit) (hkc : scope.names.lookup ("__class__" : Str) = some .free) (hka : scope.names.lookup ar.arg = some .local)
    (q : ∀ u s', u ≠ x → s'.heap.get? u = some (kxs_mw "ValueError.__init__" x) → Inv X [(u, kxs_mw "ValueError.__init__" x)] σ H s' → Q (.ref u, []) s') :
    PySem.wpAt (model X.prog X.w) X.A (.func body X.env) (attributeBase (.Call (.Name "super" p0) [] [] p1) "__init__" X.env whole) (fun ov s₁ => wpAny (model X.prog X.w) X.A (getMethod ov "__init__" pl) Q X.xe s₁) X.xe s := by
  obtain ⟨ccl, cdd, vs, ccs, file, tf, hc1, hc2, hc3⟩ := T.code
  obtain ⟨cl, cld, csl, hcell⟩ := T.cell
  obtain ⟨cd, hcd⟩ := T.cls
  have KX := I.kIn
  obtain ⟨oD, hD1, hD2⟩ : ∃ oD, s.heap.get? C = some oD ∧ oD.data = .cls cd := by
    have hD := hcd
    unfold clsIn at hD
    split at hD
    · rename_i c d cd' sl ho
      cases hD
      exact ⟨_, KX _ _ ho, rfl⟩
    · cases hD
  obtain ⟨t1, ho⟩ := exo_at I.hok hx
  have J : InstAt s.heap x _ C none := ⟨ho, rfl, rfl, trivial⟩
  obtain ⟨m, hns, hl⟩ := I.loc
  have hks' : X.env.kindOf "super" = some .globalImplicit := by rw [henv]; exact hks
  have hkc' : X.env.kindOf "__class__" = some .free := by rw [henv]; exact hkc
  have hka' : X.env.kindOf ar.arg = some .local := by rw [henv]; exact hka
  have hscn : X.env.scope.names = scope.names := by rw [henv]
  have hv : m ar.arg = some (.ref x) := by
    obtain ⟨u, ru, lu⟩ := hl 0 ar.arg (.ref x) hN hσ (.inl (by show X.env.scope.names.lookup ar.arg = _; rw [hscn]; exact hka))
    have eu : u = .ref x := ru
    subst eu
    rcases lu with ⟨_, h⟩ | ⟨h, _⟩
    · exact h
    · rw [hka'] at h
      rcases h with h | h <;> cases h
  obtain ⟨mb, hmb, hmb2⟩ := I.ok.mod.blt
  refine ks_wpAt_super_base (env := X.env) hks' hkc' (by decide) (by rw [henv]) (KX _ _ lk) rfl hp (by rw [henv]) (KX _ _ hc1) rfl hc2 hc3 T.htop ?_
  have hsc : X.env.scope.kind = .function := I.ok.kind
  refine ks_loadName_global hsc hks' (loadGlobal_builtin (env := X.env) (by rw [I.ok.glob]; exact I.ok.mod.glob.keeps I.bk) (mg_none_of I.ok.mod.kin I.ok.mod.glob T.gs) (by rw [I.ok.blt]; exact hmb.keeps I.bk) ((hmb2 _ (by decide)).trans (by decide +kernel)) ⟨rfl, ?_⟩)
  refine wpAny_loadName_free hsc hkc' (c := cc) (by rw [henv]; rfl) ⟨_, KX _ _ hcell, rfl⟩ ?_
  refine wpAny_loadName_local hsc hka' hns hv ?_
  refine ks_wpAny_isType_cls hD1 hD2 ⟨rfl, ?_⟩
  obtain ⟨hh, g, d, t, os⟩ := s
  refine ks_wpAny_call_super hD1 hD2 ho rfl (fun c e => by cases e) (looks_mroIn KX T.sub) (fun h' e k => ?_)
  have I2 : Inv X [] σ H ⟨h', g, d, t, os⟩ := I.un (h' := h') (t' := t) (Un.kept k) (I.hok.kept k)
  have KX2 : X.K.In h' := I2.kIn
  obtain ⟨t2, ho2⟩ := exo_at I2.hok hx
  have J2 : InstAt h' x _ C none := ⟨ho2, rfl, rfl, trivial⟩
  have hI : Looks (model X.prog X.w) h' (isInstance (.ref x) (.type "ValueError")) true := J2.type.andThen (looks_subIn KX2 T.ve)
  have al := T.al
  unfold ks_superIn at al
  rw [hcd] at al
  refine kxs_getMethod kxs_ValueError e (looks_opaque KX2 T.op) (l₀ := cd.mro) (fun A Q E s k q => wpAny_bind ((looks_clsIn KX2 hcd) A _ E s k (wpAny_pure q))) rfl KX2 al hI (ks_ne KX2 J2 hcd) (by decide) ?_
  have I3 : Inv X [] σ H ⟨h'.push (kxs_mw "ValueError.__init__" x), g, d, t + 1, os⟩ := I2.un (h' := h'.push (kxs_mw "ValueError.__init__" x)) (t' := t + 1) (Un.kept fun b o e => Heap.get?_push_of_some _ e) (I2.hok.kept fun b o e => Heap.get?_push_of_some _ e)
  have hu : (h'.push (kxs_mw "ValueError.__init__" x)).get? h'.objs.size = some (kxs_mw "ValueError.__init__" x) := Heap.get?_push_at rfl rfl
  have hn : H h'.objs.size = none := I2.hok.fresh (Nat.le_refl _)
  refine q _ _ (fun z => ?_) hu (inv_pin I3 hu hn (Ne.symm (Nat.ne_of_lt I2.lt)) (I2.nofs (Nat.le_refl _)) fun v z => by cases z)
  rw [z, hx] at hn
  cases hn

/-- the wrapper called: the arguments are laid anew, the error stays as new -/
theorem sup_call {X : Cx} {σ : L2.St} {H : Hp} {s : Shared} {C x u : Addr} {us : List Value} {E : Value → Shared → Prop} {Q : Value → Shared → Prop} (T : OexC X.K C) (I : Inv X [(u, kxs_mw "ValueError.__init__" x)] σ H s) (hx : H x = some (exo x C none)) (hz : us.length ≤ sizeLine)
    (q : ∀ s', Inv X [] σ H s' → Q .none s') : wpAny (model X.prog X.w) X.A (call (.ref u) us) Q E s := by
  obtain ⟨nm, qn, N, bs, bm, sn, sub, ab, col, dd, k0, k1, k2, k3, k5, hC, hbm⟩ := T.cls
  obtain ⟨t1, he⟩ := exo_at I.hok hx
  have hu : s.heap.get? u = some (kxs_mw "ValueError.__init__" x) := (I.pin (u, kxs_mw "ValueError.__init__" x) (by simp)).1
  have hC' := I.kIn _ _ hC
  have I0 := inv_unpin I
  obtain ⟨hh, g, d, t, os⟩ := s
  have FB := F.excBase_ValueError
  refine wpAny_call (codeAny_of_tree ?_)
  show wpAny _ X.A.in1 (callAny (.ref u) ⟨us, []⟩) _ _ _
  simp only [callAny]
  refine wpAny_bind (wpAny_load hu ?_)
  simp only [kxs_mw, show (Value.type "method-wrapper" == Value.type "method" || Value.type "method-wrapper" == Value.type "builtin_function_or_method" || Value.type "method-wrapper" == Value.type "method-wrapper") = true by decide, if_true]
  refine KFB.if_so (by decide) ?_
  refine wpAny_bind (check_bound_init F.excBase_ValueError.toExcCallFacts hC' he rfl ?_)
  refine wpAny_bind (wpAny_pure (wpAny_pure ?_))
  refine ⟨plainId_quiet F.excBase_ValueError.init.plain _, codeAny_builtin F.excBase_ValueError.initEntry ?_⟩
  refine exc_init_tree (cls := .ref C) (t0 := t1) (dv := none) (c2 := .none) (c3 := .none) (b4 := .bool false) he hz (fun h' k hx' ht => ?_)
  have J := I0.write (t' := t) (x := x) (e := x) (o := exo x C none) (by rw [hx]; exact True.intro) (.inl rfl) k ⟨_, hx'⟩ (exo_ok hx')
  have eu : upd H x (exo x C none) = H := by
    funext b
    by_cases hb : b = x
    · rw [hb, upd_same, hx]
    · rw [upd_ne hb]
  rw [eu] at J
  exact q _ J
/-- THE RULE: such a def by its arguments' reading and the rest's -/
theorem fn_sup {k : Nat} {f C cc cda : Addr} {name qual : Str} {params : Arguments} {scope : Scope} {e : Expr} {es : List Expr} {rest : List Stmt} {p0 p1 p2 p3 p4 : Pos} {dV kV doc pm ct oc : Value} {an od : Option Addr} {osl : Array (Option Value)} {N ps : List Str} {sp : Sp} {ar : Arg} {pl : Sem Bool}
    (T : SupE P K C cc cda)
    (lk : K.lookup f = some ⟨oc, od, .func (fnX name qual params (.Expr (.Call (.Attribute (.Call (.Name "super" p0) [] [] p1) "__init__" p2) (e :: es) [] p3) p4 :: rest) scope [("__class__", cc)] dV kV doc pm an (.ref cda) ct), osl⟩) (hcd : codeIn K (.ref cda) qual = true)
    (S : NScope N ps ["__class__"] scope) (hp : (params.posonlyargs ++ params.args).head? = some ar) (hN : N[0]? = some ar.arg) (hks : scope.names.lookup ("super" : Str) = some .globalImplicit) (hka : scope.names.lookup ar.arg = some .local)
    (hev : ∀ env : Env, env.scope = scope → eval (.Call (.Attribute (.Call (.Name "super" p0) [] [] p1) "__init__" p2) (e :: es) [] p3) env = (do
      let ov ← attributeBase (.Call (.Name "super" p0) [] [] p1) "__init__" env (eval (.Call (.Name "super" p0) [] [] p1) env)
      standAt p2.atName
      let (f, first) ← holding [ov] (getMethod ov "__init__" pl)
      callWith p3 f first (backTo p3 (starEach (e :: es) env)) []))
    (hst : ∀ env : Env, starEach (e :: es) env = (false, eval e env) :: starEach es env) (hpl : ∀ env : Env, (backTo p3 (starEach es env)).any (·.1) = false)
    (hin : ∀ env : Env, env.scope = scope → interactive env = false) (hsw : ∀ env : Env, env.scope = scope → swapsWith (.Call (.Attribute (.Call (.Name "super" p0) [] [] p1) "__init__" p2) (e :: es) [] p3) none p4.line env = pure false)
    (len : ∀ vs H Q E, sp vs H Q E → vs.length = ps.length)
    (hbody : ∀ (A : Around) (outer : List Env) (s : Shared) (H : Hp) (vs : List V) (Q : VK) (E : XK), Room k (A.deeper (envF ⟨name, qual, params, rest, scope, [("__class__", cc)], cda⟩ f s.heap.objs.size)) → sp vs H Q E →
      ∃ (x : Addr) (ta : TA) (t : TS), vs[0]? = some (.ref x) ∧ H x = some (exo x C none) ∧ PA (ncx CX P w K mg base N ⟨name, qual, params, rest, scope, [("__class__", cc)], cda⟩ f A outer s H E) (e :: es) ta ∧ PSs (ncx CX P w K mg base N ⟨name, qual, params, rest, scope, [("__class__", cc)], cda⟩ f A outer s H E) rest t ∧
        ta (startF N vs [none]) H (fun ws H1 => ws.length ≤ 1000 ∧ H1 x = some (exo x C none) ∧ t { nx := fun _ H' => Q .non H', rt := Q } (startF N vs [none]) H1)) :
    FnOk P w K mg base CX (k + 1) f (fnX name qual params (.Expr (.Call (.Attribute (.Call (.Name "super" p0) [] [] p1) "__init__" p2) (e :: es) [] p3) p4 :: rest) scope [("__class__", cc)] dV kV doc pm an (.ref cda) ct) ps sp := by
  refine ⟨len, fun A outer s H args us vs Q E hr e0 hb r hsp => ?_⟩
  have hl := len _ _ _ _ hsp
  have KX : K.In s.heap := e0.mod.kin.keeps fun b o e => (e0.bs b o e).1
  have lim : s.heap.NoLimit := e0.mod.nolimit.keeps fun b o e => (e0.bs b o e).1
  obtain ⟨cl, cld, csl, hcell⟩ := T.cell
  refine codeAny_call_function hr.depth (KX _ _ lk) rfl S.co S.gen rfl (PySem.W.codeRec_of KX hcd) (hb _ _ _ _ ?_)
  refine wpAny_newFunctionEnv S.nocell (fun ⟨n, _⟩ hy => S.par n (List.of_mem_zip hy).1) (fun h₁ hns hsb => ⟨lim.fresh _ hsb, ?_⟩) S.kind
  have kp : ∀ b o, s.heap.get? b = some o → h₁.get? b = some o := fun b o e => hsb.extBut b o (Nat.ne_of_lt (Heap.lt_size e)) (Heap.get?_push_of_some _ e)
  obtain ⟨x, ta, t, hx0, hx, hA, hS, hq⟩ := hbody A outer s H vs Q E (hr.deeper _) hsp
  have CA : CellsAt [("__class__", cc)] ["__class__"] [none] s.heap H := by
    have lc : ∀ {y c}, ([("__class__", cc)] : List (Str × Addr)).lookup y = some c → c = cc := fun {y c} h => by
      have := PySem.mem_of_lookup h
      rw [List.mem_singleton] at this
      exact (Prod.mk.inj this).2
    have ln : ∀ {y c}, ([("__class__", cc)] : List (Str × Addr)).lookup y = some c → y = "__class__" := fun {y c} h => by
      have := PySem.mem_of_lookup h
      rw [List.mem_singleton] at this
      exact (Prod.mk.inj this).1
    have bc : base.get? cc = some ⟨cl, cld, .cell (some (.ref C)), csl⟩ := e0.mod.kin _ _ hcell
    refine ⟨rfl, fun y c h => ?_, fun a b c h1 h2 => (ln h1).trans (ln h2).symm, fun i y h => ?_⟩
    · rw [lc h]
      exact ⟨(e0.bs _ _ bc).2, _, _, (e0.bs _ _ bc).1, rfl⟩
    · cases i with
      | zero =>
        simp at h
        subst h
        exact ⟨cc, rfl, fun v hv => by simp at hv⟩
      | succ i => simp at h
  have I : Inv (ncx CX P w K mg base N ⟨name, qual, params, rest, scope, [("__class__", cc)], cda⟩ f A outer s H E) [] (startF N vs [none]) H { s with heap := h₁, toks := s.toks + (ps.zip us).length } := inv_startN S hr.hd e0 hl r CA hns kp
  show codeAny _ _ (.func (.Expr _ p4 :: rest) (envF ⟨name, qual, params, rest, scope, [("__class__", cc)], cda⟩ f s.heap.objs.size)) _ _
  refine ks_codeAny_funcAt (ks_wpAt_execs_cons (ks_wpAt_Expr_any (ks_wpAt_MethodCall (pl := pl) ?_ (hev _ rfl)) (hin _ rfl) (hsw _ rfl)))
  have hσ : (startF N vs [none])[0]? = some (some (.ref x)) := by
    unfold startF
    cases vs with
    | nil => simp at hx0
    | cons v r =>
      simp at hx0
      subst hx0
      rfl
  have fin : ∀ {σ' : L2.St} {H' : Hp} {v : V} {u : Value} {s' : Shared}, Inv (ncx CX P w K mg base N ⟨name, qual, params, rest, scope, [("__class__", cc)], cda⟩ f A outer s H E) [] σ' H' s' → L2.RelV v u → Q v H' → CE outer P w H s Q u s' :=
    fun {σ' H' v u s'} J rv q => ⟨v, H', J.os, J.bare, J.base, J.hok, rv, q⟩
  refine sup_method (X := ncx CX P w K mg base N ⟨name, qual, params, rest, scope, [("__class__", cc)], cda⟩ f A outer s H E) (s_loc := s.heap.objs.size) T I rfl lk hp hN hσ hx hks (S.frk _ (by simp)) hka (fun u s1 nux hu I1 => ?_)
  show wpAny _ _ (callWith p3 (.ref u) [] (backTo p3 (starEach (e :: es) _)) []) _ _ _
  have hrun := hA.run p3 [(u, kxs_mw "ValueError.__init__" x)] s1 (startF N vs [none]) H _ I1 hq
  rw [hst] at hrun ⊢
  refine kxs_callWith (i := "ValueError.__init__") (x := x) (by show (false || (backTo p3 (starEach es _)).any (·.1)) = false; rw [hpl]; rfl) ?_
  refine evalArgs_plain (thn hrun fun us1 s2 ⟨ws, H1, I2, r1, hw, hx1, q1⟩ => ⟨(I2.pin (u, kxs_mw "ValueError.__init__" x) (by simp)).1, ?_⟩)
  refine sup_call (X := ncx CX P w K mg base N ⟨name, qual, params, rest, scope, [("__class__", cc)], cda⟩ f A outer s H E) T.X I2 hx1 (by show us1.length ≤ sizeLine; rw [← r1.length, sizeLine_eq]; omega) (fun s3 I3 => ?_)
  refine wpAt_of_wpAny (wpAny_mono (hS.run [] _ (startF N vs [none]) H1 _ I3 q1) (fun fl s' hs => ?_) fun e s' hs => hs)
  cases fl with
  | ret u =>
    obtain ⟨v, σ', H', J, rv, q⟩ := hs
    exact fin J rv q
  | next =>
    obtain ⟨σ', H', J, q⟩ := hs
    exact fin (v := V.non) (u := Value.none) J rfl q
  | brk =>
    obtain ⟨_, _, _, q⟩ := hs
    exact False.elim q
  | cont =>
    obtain ⟨_, _, _, q⟩ := hs
    exact False.elim q
end
/-! ### isinstance(e, (A, B, ..)) of the exception that an except suite holds: a rule of our own -/
/-- e, the classes in a tuple -/
def rExT (K : PySem.W.Frag) (D a : Addr) : List V → Hp → VK → Prop := fun xs H Q =>
  ∃ (tp : Addr) (cs : List V) (us : List Value) (b : Bool), xs = [.ref a, .ref tp] ∧ H tp = some (.tup cs) ∧ Paired ClsV cs us ∧ PySem.W.kitAny K (.ref D) us = some b ∧ Q (.bl b) H
theorem held_at {oe : Obj} {a D : Addr} {h : Heap} (got : h.get? a = some oe) (z : Zc (.ref D) none oe) (f : ∃ vs, oe.data = .fields vs) : PySem.W.InstAt h a oe D none := by
  obtain ⟨vs, fv⟩ := f
  obtain ⟨c0, d0, data0, s0⟩ := oe
  have z1 : c0 = .ref D := z.1
  have z2 : d0 = none := z.2
  have z3 : data0 = .fields vs := fv
  subst z1
  subst z2
  subst z3
  exact ⟨got, rfl, rfl, trivial⟩
theorem call_exT {X : Cx} {a D : Addr} {oe : Obj} {pn : List (Addr × Obj)} (C : ExcC X.K D) (z : Zc (.ref D) none oe) (f : ∃ vs, oe.data = .fields vs) : CallR (X.suite a ((a, oe) :: pn)) (.builtin "isinstance") (rExT X.K D a) := by
  intro pins s σ H xs us Q I r h
  obtain ⟨tp, cs, ws, b, rfl, hT, k, e, q⟩ := h
  obtain ⟨u1, u2, rfl, r1, r2⟩ := vals2 r
  cases (show u1 = Value.ref a from r1)
  cases (show u2 = Value.ref tp from r2)
  have got := (I.pin (a, oe) (List.mem_append.mpr (.inl List.mem_cons_self))).1
  obtain ⟨_, its, rv, ⟨oc, od, dt, sl⟩, g1, g2, n, g3⟩ := (show ObjOk X.prog X.w H s.heap tp (.tup cs) from I.hok tp _ hT)
  have same := ClsV.all k rv
  subst same
  have c1 : oc = .type "tuple" := g2
  have c2 : dt = .seq its.toArray n := g3
  subst c1
  subst c2
  exact PySem.W.kia_tup (PySem.W.handS_kitx_exc C.hg C.hk C.hs C.hd C.ha C.hn C.ht C.hm) I.kIn (held_at got z f) g1 e (fun z => nomatch z) fun tk => ⟨.bl b, H, I.tok tk, rfl, q⟩
/-! ### isinstance of a caught error that bears fields -/
/-- isinstance(e, c), the dict of e at dd -/
def rIsD (K : PySem.W.Frag) (D a dd : Addr) : List V → Hp → VK → Prop := fun xs H Q => ∃ (c : V) (cv : Value) (b : Bool) (fs : List (Str × V)), xs = [.ref a, c] ∧ (∀ u, RelV c u → u = cv) ∧ PySem.W.kitOne K (.ref D) cv = some b ∧ H dd = some (.xd fs) ∧ Q (.bl b) H
/-- .. the classes in a tuple -/
def rExD (K : PySem.W.Frag) (D a dd : Addr) : List V → Hp → VK → Prop := fun xs H Q =>
  ∃ (tp : Addr) (cs : List V) (us : List Value) (b : Bool) (fs : List (Str × V)), xs = [.ref a, .ref tp] ∧ H tp = some (.tup cs) ∧ Paired ClsV cs us ∧ PySem.W.kitAny K (.ref D) us = some b ∧ H dd = some (.xd fs) ∧ Q (.bl b) H
theorem instD {X : Cx} {pins : List (Addr × Obj)} {σ : L2.St} {H : Hp} {s : Shared} {a D dd : Addr} {oe : Obj} {fs : List (Str × V)} (I : Inv X pins σ H s) (got : s.heap.get? a = some oe) (z : Zc (.ref D) (some dd) oe) (f : ∃ vs, oe.data = .fields vs) (e : H dd = some (.xd fs)) : ∃ od, PySem.W.InstAt s.heap a oe D (some od) := by
  have hx : ObjOk X.prog X.w H s.heap dd (.xd fs) := I.hok dd _ e
  obtain ⟨mA, hns, hr⟩ := hx
  obtain ⟨od, ho, hl⟩ := lookIn_ns hns
  obtain ⟨vs, hd⟩ := f
  exact ⟨od, got, z.1, by unfold PySem.W.notCls; rw [hd] <;> rfl, by rw [z.2]; exact ho⟩
theorem kitD {K : PySem.W.Frag} {x D : Addr} {ox : Obj} {od : Option Obj} (C : ExcC K D) : PySem.W.KitX K (.ref x) (.ref D) (fun h => PySem.W.InstAt h x ox D od) := by
  obtain ⟨cd, hc, _⟩ := PySem.W.any_some C.hd
  exact PySem.W.kitx_exc (by rw [hc]; rfl) C.hg C.hk C.hs C.ha C.hn C.ht C.hm
theorem call_isD {X : Cx} {a D dd : Addr} {oe : Obj} {pn : List (Addr × Obj)} (C : ExcC X.K D) (hz : Zc (.ref D) (some dd) oe) (hf : ∃ vs, oe.data = .fields vs) : CallR (X.suite a ((a, oe) :: pn)) (.builtin "isinstance") (rIsD X.K D a dd) := by
  intro pins s σ H xs us Q I r h
  obtain ⟨c, cv, b, fs, rfl, hcv, e, ed, q⟩ := h
  cases r with
  | cons rx rr =>
    cases rr with
    | cons rt rr =>
      cases rr
      cases rx
      have ec := hcv _ rt
      subst ec
      obtain ⟨hget, _⟩ := I.pin (a, oe) (List.mem_append.mpr (.inl List.mem_cons_self))
      obtain ⟨od, J⟩ := instD I hget hz hf ed
      exact PySem.W.kia_one (kitD C) I.kIn J e (fun z => nomatch z) fun tk => ⟨.bl b, H, I.kept (t' := tk) fun _ _ z => z, rfl, q⟩
theorem call_exD {X : Cx} {a D dd : Addr} {oe : Obj} {pn : List (Addr × Obj)} (C : ExcC X.K D) (z : Zc (.ref D) (some dd) oe) (f : ∃ vs, oe.data = .fields vs) : CallR (X.suite a ((a, oe) :: pn)) (.builtin "isinstance") (rExD X.K D a dd) := by
  intro pins s σ H xs us Q I r h
  obtain ⟨tp, cs, ws, b, fs, rfl, hT, k, e, ed, q⟩ := h
  obtain ⟨u1, u2, rfl, r1, r2⟩ := vals2 r
  cases (show u1 = Value.ref a from r1)
  cases (show u2 = Value.ref tp from r2)
  have got := (I.pin (a, oe) (List.mem_append.mpr (.inl List.mem_cons_self))).1
  obtain ⟨_, its, rv, ⟨oc, od', dt, sl⟩, g1, g2, n, g3⟩ := (show ObjOk X.prog X.w H s.heap tp (.tup cs) from I.hok tp _ hT)
  have same := ClsV.all k rv
  subst same
  have c1 : oc = .type "tuple" := g2
  have c2 : dt = .seq its.toArray n := g3
  subst c1
  subst c2
  obtain ⟨od, J⟩ := instD I got z f ed
  exact PySem.W.kia_tup (kitD C) I.kIn J g1 e (fun z => nomatch z) fun tk => ⟨.bl b, H, I.tok tk, rfl, q⟩
/-- an own error without an __init__ of its own, at C -/
structure OwnE (K : PySem.W.Frag) (mg : Str → Option Value) (x : Str) (C : Addr) : Prop where
  g : mg x = some (.ref C)
  k : PySem.W.keepIn K (.ref C) = true
  x : PySem.W.excIn K C [.type "ValueError", .type "Exception", .type "BaseException", .type "object"] "ValueError.__new__" = true
  b : PySem.W.subIn K (.ref C) (.type "BaseException") = some true
  t : PySem.W.typeIn K (.ref C) = some (.type "type")
theorem app_fits {a b : Str} (h1 : a.length ≤ 1000) (h2 : b.length ≤ 1921) : (a ++ b).length ≤ sizeLine := by
  have e : (a ++ b).length = a.length + b.length := by
    show (a.cps ++ b.cps).size = a.cps.size + b.cps.size
    rw [Array.size_append]
  rw [e]
  exact Nat.le_trans (show a.length + b.length ≤ 2921 by omega) (by decide)
theorem app_le {a b : Str} {m n : Nat} (h1 : a.length ≤ m) (h2 : b.length ≤ n) : (a ++ b).length ≤ m + n := by
  have e : (a ++ b).length = a.length + b.length := by
    show (a.cps ++ b.cps).size = a.cps.size + b.cps.size
    rw [Array.size_append]
  omega
theorem line4k {n : Nat} (h : n ≤ 9000) : n ≤ sizeLine := Nat.le_trans h (by decide)
theorem log_small {n : Int} (h : n.natAbs ≤ 2000000) : n.natAbs.log2 < 1920 := by
  by_cases c : n.natAbs = 0
  · rw [c]
    decide
  · exact (Nat.log2_lt c).mpr (Nat.lt_of_le_of_lt h (by decide))
theorem int_len {n : Int} (h : n.natAbs.log2 < 1920) : (Str.ofString (toString n)).length ≤ 1921 := by
  have e := int_text_length_le (k := 1920) (by decide) h
  rw [PySem.ofString_length]
  omega
theorem fitA {a b : Str} {m n : Nat} (h1 : a.length ≤ m) (h2 : b.length ≤ n) (h : m + n ≤ 9000) : (a ++ b).length ≤ sizeLine := Nat.le_trans (app_le h1 h2) (line4k h)
/-! ### an error that is caught and looked at: isinstance(e, (six others)), then isinstance(e, its own) and isinstance(e, ValueError) -/
theorem FnOk.or {P : Program} {w : World} {K : PySem.W.Frag} {mg : Str → Option Value} {base : Heap} {CX : CXT} {k : Nat} {f : Addr} {fd : FuncData} {ps : List Str} {sp sq : Sp} (F : FnOk P w K mg base CX k f fd ps sp) (G : FnOk P w K mg base CX k f fd ps sq) : FnOk P w K mg base CX k f fd ps (fun vs H Q E => sp vs H Q E ∨ sq vs H Q E) :=
  ⟨fun vs H Q E h => h.elim (F.len vs H Q E) (G.len vs H Q E), fun A outer s H args us vs Q E hr e b v h => h.elim (F.run A outer s H args us vs Q E hr e b v) (G.run A outer s H args us vs Q E hr e b v)⟩
theorem pss_given {X : Cx} {ss : List Stmt} {t : TS} {p : Prop} (h : p → PSs X ss t) : PSs X ss (fun D σ H => p ∧ t D σ H) := ⟨fun pins s σ H D I hh => (h hh.1).run pins s σ H D I hh.2⟩
structure RefG (K : PySem.W.Frag) (mg : Str → Option Value) (xE x1 x2 x3 x4 x5 x6 : Str) (CL CE c1 c2 c3 c4 c5 c6 : Addr) : Prop where
  gL : mg "LongError" = some (.ref CL)
  ex : PySem.W.exmOne K (.ref CE) (.ref CL) = some true
  N : OwnE K mg xE CE
  E : ExcC K CE
  g1 : mg x1 = some (.ref c1)
  g2 : mg x2 = some (.ref c2)
  g3 : mg x3 = some (.ref c3)
  g4 : mg x4 = some (.ref c4)
  g5 : mg x5 = some (.ref c5)
  g6 : mg x6 = some (.ref c6)
  no : PySem.W.kitAny K (.ref CE) [.ref c1, .ref c2, .ref c3, .ref c4, .ref c5, .ref c6] = some false
  yes : PySem.W.kitOne K (.ref CE) (.ref CE) = some true
  val : PySem.W.kitOne K (.ref CE) (.type "ValueError") = some true
  mi : mg "isinstance" = none
  mv : mg "ValueError" = none
def t_suiteG (K : PySem.W.Frag) (i : Nat) (CE c1 c2 c3 c4 c5 c6 : Addr) (a : Addr) : TS :=
  tSeq (tIfS (tB (tCB (rExT K CE a) (tCons (tVar i) (tCons (tTup (tCons (tC (.ref c1)) (tCons (tC (.ref c2)) (tCons (tC (.ref c3)) (tCons (tC (.ref c4)) (tCons (tC (.ref c5)) (tCons (tC (.ref c6)) tNil))))))) tNil)))) (tRet (tC (.bl false))) tNext)
    (tRet (tAndV (tCB (rIsE K CE a) (tCons (tVar i) (tCons (tC (.ref CE)) tNil))) (tCB (rIsE K CE a) (tCons (tVar i) (tCons (tC (.ty "ValueError")) tNil)))))
/-- what the suite comes to -/
theorem suiteG {K : PySem.W.Frag} {mg : Str → Option Value} {xE x1 x2 x3 x4 x5 x6 : Str} {CL CE c1 c2 c3 c4 c5 c6 a : Addr} (R : RefG K mg xE x1 x2 x3 x4 x5 x6 CL CE c1 c2 c3 c4 c5 c6) {i : Nat} {D : Ends} {σ : L2.St} {H : Hp} (hi : σ[i]? = some (some (.ref a)))
    (q : ∀ p o, H p = none → D.rt (.bl true) (upd H p o)) : t_suiteG K i CE c1 c2 c3 c4 c5 c6 a D σ H := by
  refine ⟨.ref a, hi, (by show 6 ≤ sizeLine; decide), fun tp ntp => ?_⟩
  refine ⟨tp, _, _, false, rfl, upd_same, .cons (.own _) (.cons (.own _) (.cons (.own _) (.cons (.own _) (.cons (.own _) (.cons (.own _) .nil))))), R.no, false, rfl, iteF ?_⟩
  refine ⟨.ref a, hi, .ref CE, _, true, rfl, (fun u r => r), R.yes, true, rfl, iteT ?_⟩
  exact ⟨.ref a, hi, .ty "ValueError", _, true, rfl, (fun u r => r), R.val, q _ _ ntp⟩
def goK (f : List Int) (p : Int) : Int := f.getD p.toNat 0
theorem rise_same : ∀ {xs ys : List Int}, xs.Pairwise (· < ·) → ys.Pairwise (· < ·) → (∀ k, k ∈ xs ↔ k ∈ ys) → xs = ys
  | [], [], _, _, _ => rfl
  | [], y :: ys, _, _, h => by have := (h y).mpr List.mem_cons_self; simp at this
  | x :: xs, [], _, _, h => by have := (h x).mp List.mem_cons_self; simp at this
  | x :: xs, y :: ys, hx, hy, h => by
    obtain ⟨x1, x2⟩ := List.pairwise_cons.mp hx
    obtain ⟨y1, y2⟩ := List.pairwise_cons.mp hy
    have e : x = y := by
      rcases List.mem_cons.mp ((h x).mp List.mem_cons_self) with a | a
      · exact a
      · rcases List.mem_cons.mp ((h y).mpr List.mem_cons_self) with b | b
        · exact b.symm
        · have := y1 x a
          have := x1 y b
          omega
    subst e
    rw [rise_same x2 y2 fun k => ⟨fun hk => ?_, fun hk => ?_⟩]
    · rcases List.mem_cons.mp ((h k).mp (List.mem_cons_of_mem _ hk)) with a | a
      · have := x1 k hk
        omega
      · exact a
    · rcases List.mem_cons.mp ((h k).mpr (List.mem_cons_of_mem _ hk)) with a | a
      · have := y1 k hk
        omega
      · exact a
/-! ### what is the same in all these texts: heaps -/
/-- all that is tracked, but at d, is as it was -/
def Gr (d : Addr) (H H' : Hp) : Prop := ∀ b o, b ≠ d → H b = some o → H' b = some o
theorem Gr.refl (d : Addr) (H : Hp) : Gr d H H := fun _ _ _ e => e
theorem Gr.trans {d : Addr} {H H1 H2 : Hp} (a : Gr d H H1) (b : Gr d H1 H2) : Gr d H H2 := fun c o n e => b c o n (a c o n e)
theorem Gr.new {d : Addr} {H H1 : Hp} {p : Addr} {o : HO} (a : Gr d H H1) (h : H1 p = none) : Gr d H (upd H1 p o) := fun b u n e => by
  have q := a b u n e
  rw [upd_ne (ne_of_none q h)]
  exact q
theorem Gr.off {d : Addr} {H H1 H2 : Hp} (a : Gr d H H1) (h : ∀ b, b ≠ d → H2 b = H1 b) : Gr d H H2 := fun b u n e => by
  rw [h b n]
  exact a b u n e
theorem same_new {H : Hp} {p : Addr} {o : HO} (h : H p = none) : Same H (upd H p o) := fun b x e => by
  rw [upd_ne (ne_of_none e h)]
  exact e
theorem Gr.of_same {d : Addr} {H H' : Hp} (s : Same H H') : Gr d H H' := fun b o _ e => s b o e
/-- the dice at d -/
def dl (s0 : Int) (l : Addr) (k big : Int) : List V := [.int s0, .ref l, .int k, .int big]
theorem map_int_dl {ns : List Int} {s0 k big : Int} {l : Addr} : ns.map V.int ≠ dl s0 l k big := by
  intro e
  have h : (ns.map V.int)[1]? = some (V.ref l) := by rw [e]; rfl
  rw [List.getElem?_map] at h
  cases q : ns[1]? with
  | none => rw [q] at h; cases h
  | some z => rw [q] at h; cases h
/-- a list that is known ahead of p's making, and p's writing -/
theorem seq_put {K : PySem.W.Frag} {H0 H : Hp} {l p : Addr} {xs : List V} {o : HO} (h0 : SqL K H0 l xs) (n0 : H0 p = none) (h : SqL K H l xs) : SqL K (upd H p o) l xs := by
  have ne : Rd H0 l (.lst xs) → l ≠ p := fun r => by
    rcases r with r | ⟨o', r⟩
    · exact ne_of_none r n0
    · exact ne_of_none r n0
  rcases h0 with r0 | k
  · have n := ne r0
    rcases h with (h | ⟨o', h⟩) | h
    · exact .inl (.inl (by rw [upd_ne n]; exact h))
    · exact .inl (.inr ⟨o', by rw [upd_ne n]; exact h⟩)
    · exact .inr h
  · exact .inr k
/-- the script stands when the dice turns -/
theorem seq_turn {K : PySem.W.Frag} {H H' : Hp} {d l l' : Addr} {ns : List Int} {s0 k big : Int} (hd : H d = some (.lst (dl s0 l' k big))) (h : SqL K H l (ns.map V.int)) (q : ∀ b, b ≠ d → H' b = H b) : SqL K H' l (ns.map V.int) := by
  rcases h with (h | ⟨o, h⟩) | h
  · refine .inl (.inl ?_)
    rw [q]
    · exact h
    · intro z
      rw [z, hd] at h
      injection h with h
      injection h with h
      exact map_int_dl h.symm
  · refine .inl (.inr ⟨o, ?_⟩)
    rw [q]
    · exact h
    · intro z
      rw [z, hd] at h
      cases h
  · exact .inr h
def Dc (K : PySem.W.Frag) (l : Addr) (ns : List Int) (H : Hp) (d : Addr) : Prop := ∃ (s0 k big : Int), H d = some (.lst (dl s0 l k big)) ∧ SqL K H l (ns.map V.int) ∧ ns.length ≤ 63 ∧ 0 ≤ s0 ∧ s0 < 2147483647 ∧ 0 ≤ k ∧ 0 ≤ big
theorem Dc.same {K : PySem.W.Frag} {H H' : Hp} {l d : Addr} {ns : List Int} (s : Same H H') (h : Dc K l ns H d) : Dc K l ns H' d := by
  obtain ⟨s0, k, big, h1, h2, h3⟩ := h
  exact ⟨s0, k, big, s _ _ h1, s.seq h2, h3⟩
theorem Dc.seq {K : PySem.W.Frag} {H : Hp} {l d : Addr} {ns : List Int} (h : Dc K l ns H d) : SqL K H l (ns.map V.int) := by
  obtain ⟨s0, k, big, h1, h2, h3⟩ := h
  exact h2
theorem Dc.new {K : PySem.W.Frag} {H : Hp} {l d p : Addr} {ns : List Int} {o : HO} (h : Dc K l ns H d) (n : H p = none) : Dc K l ns (upd H p o) d := h.same (same_new n)
theorem Dc.some {K : PySem.W.Frag} {H : Hp} {l d : Addr} {ns : List Int} (h : Dc K l ns H d) : ∃ s0 k big, H d = Option.some (HO.lst (dl s0 l k big)) := by
  obtain ⟨s0, k, big, h1, _⟩ := h
  exact ⟨s0, k, big, h1⟩
theorem Dc.ne {K : PySem.W.Frag} {H : Hp} {l d p : Addr} {ns : List Int} (h : Dc K l ns H d) (n : H p = none) : p ≠ d := by
  obtain ⟨s0, k, big, e⟩ := h.some
  exact (ne_of_none e n).symm
/-- the dice is a list that begins with an int and a ref: no other list that we know -/
theorem Dc.ne_of {K : PySem.W.Frag} {H : Hp} {l d p : Addr} {ns : List Int} {u : HO} (h : Dc K l ns H d) (n : H p = Option.some u) (q : ∀ s0 l k big, u ≠ .lst (dl s0 l k big)) : p ≠ d := by
  obtain ⟨s0, k, big, e⟩ := h.some
  intro z
  rw [z, e] at n
  exact q _ _ _ _ (Option.some.inj n).symm
/-- another list is written, one that is newer than the script -/
theorem Dc.turn {K : PySem.W.Frag} {H0 H : Hp} {l d d0 p : Addr} {ns : List Int} {o : HO} (h : Dc K l ns H d) (h0 : Dc K l ns H0 d0) (n0 : H0 p = none) (n : p ≠ d) : Dc K l ns (upd H p o) d := by
  obtain ⟨s0, k, big, h1, h2, h3⟩ := h
  refine ⟨s0, k, big, ?_, seq_put h0.seq n0 h2, h3⟩
  rw [upd_ne n.symm]
  exact h1
/-! ### a chain's data -/
abbrev Mv := Int × List Int
def GoodRow (many : Nat) (row : List Int) : Prop := row.length = many ∧ ∀ x ∈ row, 0 ≤ x ∧ x < (many : Int)
def GoodMv (many : Nat) (m : Mv) : Prop := 1 ≤ m.1 ∧ m.1 ≤ 99 ∧ GoodRow many m.2
structure Good (many : Nat) (ms : List Mv) : Prop where
  m1 : 1 ≤ many
  m6 : many ≤ 6
  l1 : 1 ≤ ms.length
  l8 : ms.length ≤ 8
  mv : ∀ m ∈ ms, GoodMv many m
def MoveAt (H : Hp) (v : V) (m : Mv) : Prop := ∃ a q, v = .ref a ∧ H a = some (.tup [.int m.1, .ref q]) ∧ H q = some (.tup (m.2.map V.int))
abbrev MovesAt (H : Hp) : List V → List Mv → Prop := Paired (MoveAt H)
theorem MoveAt.same {H H' : Hp} {v : V} {m : Mv} (s : ∀ b xs, H b = some (.tup xs) → H' b = some (.tup xs)) (h : MoveAt H v m) : MoveAt H' v m := by
  obtain ⟨a, q, e, h1, h2⟩ := h
  exact ⟨a, q, e, s _ _ h1, s _ _ h2⟩
theorem MovesAt.same {H H' : Hp} (s : ∀ b xs, H b = some (.tup xs) → H' b = some (.tup xs)) : ∀ {vs : List V} {ms : List Mv}, MovesAt H vs ms → MovesAt H' vs ms
  | _, _, .nil => .nil
  | _, _, .cons h t => .cons (h.same s) (MovesAt.same s t)
theorem MovesAt.snoc {H : Hp} {v : V} {m : Mv} (h : MoveAt H v m) : ∀ {vs : List V} {ms : List Mv}, MovesAt H vs ms → MovesAt H (vs ++ [v]) (ms ++ [m])
  | _, _, .nil => .cons h .nil
  | _, _, .cons q t => .cons q (MovesAt.snoc h t)
theorem MovesAt.get {H : Hp} : ∀ {vs : List V} {ms : List Mv} {i : Nat} {m : Mv}, MovesAt H vs ms → ms[i]? = some m → ∃ v, vs[i]? = some v ∧ MoveAt H v m
  | _, _, _, _, .nil, e => by simp at e
  | _, _, 0, _, .cons h _, e => by
    simp at e
    subst e
    exact ⟨_, rfl, h⟩
  | _, _, i + 1, m, .cons _ t, e => by
    obtain ⟨v, h1, h2⟩ := MovesAt.get (i := i) (m := m) t (by simpa using e)
    exact ⟨v, by simpa using h1, h2⟩
theorem MovesAt.get' {H : Hp} : ∀ {vs : List V} {ms : List Mv} {i : Nat} {v : V}, MovesAt H vs ms → vs[i]? = some v → ∃ m, ms[i]? = some m ∧ MoveAt H v m
  | _, _, _, _, .nil, e => by simp at e
  | _, _, 0, _, .cons h _, e => by
    simp at e
    subst e
    exact ⟨_, rfl, h⟩
  | _, _, i + 1, v, .cons _ t, e => by
    obtain ⟨m, h1, h2⟩ := MovesAt.get' (i := i) (v := v) t (by simpa using e)
    exact ⟨m, by simpa using h1, h2⟩
/-- a told chain: (many, moves) at t, the moves' list at m -/
def ToldAt (H : Hp) (t m : Addr) (many : Nat) (vs : List V) (ms : List Mv) : Prop := H t = some (.tup [.int (many : Int), .ref m]) ∧ H m = some (.lst vs) ∧ MovesAt H vs ms
theorem Gr.tups {d l : Addr} {ns : List Int} {H H' : Hp} {K : PySem.W.Frag} (hd : Dc K l ns H d) (g : Gr d H H') : ∀ b xs, H b = some (.tup xs) → H' b = some (.tup xs) := fun b xs e =>
  g b _ (hd.ne_of e fun _ _ _ _ q => nomatch q) e
theorem Same.tups {H H' : Hp} (g : Same H H') : ∀ b xs, H b = some (.tup xs) → H' b = some (.tup xs) := fun b xs e => g b _ e
theorem ifD {c A B : Prop} [Decidable c] (hc : c) (h : A) : if decide c = true then A else B := by
  rw [decide_eq_true hc]
  exact iteT h
theorem small8 {n : Nat} (h : n ≤ 8) : n < sizeLine := Nat.lt_of_le_of_lt h (by decide)
section
variable {P : Program} {w : World} {K : PySem.W.Frag} {mg : Str → Option Value} {base : Heap}
/-! ### _law_cell -/
theorem scCell : FnScope ["_law_script", "_law_k"] ["_law_script", "_law_k"] (defScope sCell) := ⟨rfl, rfl, rfl, by decide +kernel, rfl, by decide +kernel, by decide +kernel⟩
def spCell (K : PySem.W.Frag) : Sp := fun vs H Q _ => ∃ (l : Addr) (ns : List Int) (j : Int), vs = [.ref l, .int j] ∧ SqL K H l (ns.map V.int) ∧ 0 ≤ j ∧ ∀ x : Int, Q (.int x) H
theorem ok_cell {f : Addr} {fd : FuncData} {k : Nat} (F : Fun K "_law_cell" "_law_cell" sCell f fd) (ml : mg "len" = none) : FnOk P w K mg base CX0 (k + 1) f fd ["_law_script", "_law_k"] (spCell K) := by
  refine F.ok scCell (fun vs H Q E h => ?_) (fun cdv A outer s H vs Q E hr h => ?_)
  · obtain ⟨l, ns, j, rfl, _⟩ := h
    rfl
  · obtain ⟨l, ns, j, rfl, hS, hj, q⟩ := h
    refine ⟨_, pss_cons (ps_if (pt_cmpR op_lt (pv 1) (pe_callB call_len_seq (by rfl) ml PySem.boot_len (pa_cons (pv 0) pa_nil)) (nomark _))
        (pss_one (ps_ret (pe_ix ix_list (pv 0) (pv 1) (fun _ _ => rfl)))) pss_nil)
      (pss_one (ps_ret pe_int)), ?_⟩
    refine ⟨.int j, rfl, .ref l, rfl, l, ns.map V.int, rfl, .inl hS, j, _, rfl, rfl, _, rfl, ite2 (fun e => ?_) (fun e => ?_)⟩
    · have e1 : j < ((ns.map V.int).length : Int) := of_decide_eq_true e
      rw [List.length_map] at e1
      have hn : j.toNat < ns.length := by omega
      have ej : j = ((j.toNat : Nat) : Int) := by omega
      have g : (ns.map V.int)[j.toNat]? = some (.int ns[j.toNat]) := by
        rw [List.getElem?_map, List.getElem?_eq_getElem hn]
        rfl
      exact ⟨.ref l, rfl, .int j, rfl, l, _, j, _, rfl, rfl, hS, at_of ej g, q _⟩
    · exact q 0
/-! ### _law_dice -/
theorem scDice : FnScope ["_law_script", "_law_k", "_law_cell_here"] ["_law_script", "_law_k"] (defScope sDice) := ⟨rfl, rfl, rfl, by decide +kernel, rfl, by decide +kernel, by decide +kernel⟩
def spDice (K : PySem.W.Frag) : Sp := fun vs H Q _ => ∃ (l : Addr) (ns : List Int) (j : Int), vs = [.ref l, .int j] ∧ SqL K H l (ns.map V.int) ∧ ns.length ≤ 63 ∧ 0 ≤ j ∧ ∀ H' d, Same H H' → H d = none → Dc K l ns H' d → Q (.ref d) H'
theorem abs_nn (x : Int) : 0 ≤ (if x < 0 then -x else x) := by
  split <;> omega
theorem ok_dice {f fC : Addr} {fd fdC : FuncData} (F : Fun K "_law_dice" "_law_dice" sDice f fd) (FC : Fun K "_law_cell" "_law_cell" sCell fC fdC) (bC : Binds K fdC ["_law_script", "_law_k"] []) (gC : mg "_law_cell" = some (.ref fC))
    (ml : mg "len" = none) (ma : mg "abs" = none) (mi : mg "int" = none) : FnOk P w K mg base CX0 2 f fd ["_law_script", "_law_k"] (spDice K) := by
  have GC : FnOk P w K mg base CX0 1 fC fdC ["_law_script", "_law_k"] (spCell K) := ok_cell FC ml
  refine F.ok scDice (fun vs H Q E h => ?_) (fun cdv A outer s H vs Q E hr h => ?_)
  · obtain ⟨l, ns, j, rfl, _⟩ := h
    rfl
  · obtain ⟨l, ns, j, rfl, hS, hl, hj, q⟩ := h
    refine ⟨_, pss_cons (ps_set (i := 2) scDice.nd rfl (.inl rfl) (pe_callB call_abs (by rfl) ma (by decide +kernel) (pa_cons (pe_call GC hr (by rfl) gC FC.kp bC .nil pass0 (pa_cons (pv 0) (pa_cons (pv 1) pa_nil))) pa_nil)))
      (pss_one (ps_ret (pe_lst (pa_cons (pe_op op_mod (pv 2) pe_int) (pa_cons (pv 0) (pa_cons (pe_op op_add (pv 1) pe_int)
        (pa_cons (pe_op op_mul (pe_callTy call_int1 (by rfl) mi (by decide +kernel) (pa_cons (pe_cmpR op_ge (pv 2) (pe_op op_pow pe_int pe_int) (nomark _)) pa_nil)) (pv 2)) pa_nil))))))), ?_⟩
    refine ⟨.ref l, rfl, .int j, rfl, l, ns, j, rfl, hS, hj, fun x => ?_⟩
    refine ⟨x, rfl, ?_⟩
    have ha := abs_nn x
    generalize (if x < 0 then -x else x) = c at ha ⊢
    have m0 : 0 ≤ c % 2147483647 := Int.emod_nonneg _ (by decide)
    have m1 : c % 2147483647 < 2147483647 := Int.emod_lt_of_pos _ (by decide)
    refine ⟨.int c, rfl, c, 2147483647, rfl, rfl, (by show (0 : Int) < 2147483647; decide), .ref l, rfl, .int j, rfl, j, 1, rfl, rfl, ?_⟩
    refine ⟨.int c, rfl, 10, 18, rfl, rfl, ⟨by decide, by decide, by decide⟩, c, _, rfl, rfl, .inr ⟨_, rfl, ?_⟩⟩
    refine ⟨.int c, rfl, _, c, rfl, rfl, .inl ?_, ?_⟩
    · split <;> decide
    · refine ⟨by show 4 ≤ sizeLine; decide, fun d nd => ?_⟩
      refine q _ d (same_new nd) nd ⟨_, _, _, upd_same, (same_new nd).seq hS, hl, m0, m1, by omega, ?_⟩
      split
      · omega
      · omega
/-! ### _law_off -/
theorem scOff : FnScope ["_law_d", "_law_most", "_law_found", "_law_more"] ["_law_d", "_law_most"] (defScope sOff) := ⟨rfl, rfl, rfl, by decide +kernel, rfl, by decide +kernel, by decide +kernel⟩
def spOff (K : PySem.W.Frag) : Sp := fun vs H Q _ => ∃ (d l : Addr) (ns : List Int) (most : Int), vs = [.ref d, .int most] ∧ Dc K l ns H d ∧ 1 ≤ most ∧ most ≤ 1000000 ∧ ∀ (r : Nat) H', (r : Int) < most → Dc K l ns H' d → (∀ b, b ≠ d → H' b = H b) → Q (.int (r : Int)) H'
theorem max1 (x : Int) (h : 0 ≤ x) : 1 ≤ (if x > 1 then x else 1) := by
  split <;> omega
theorem ok_off {f fC : Addr} {fd fdC : FuncData} (F : Fun K "_law_off" "_law_off" sOff f fd) (FC : Fun K "_law_cell" "_law_cell" sCell fC fdC) (bC : Binds K fdC ["_law_script", "_law_k"] []) (gC : mg "_law_cell" = some (.ref fC))
    (ml : mg "len" = none) (ma : mg "abs" = none) (mm : mg "max" = none) : FnOk P w K mg base CX0 2 f fd ["_law_d", "_law_most"] (spOff K) := by
  have GC : FnOk P w K mg base CX0 1 fC fdC ["_law_script", "_law_k"] (spCell K) := ok_cell FC ml
  refine F.ok scOff (fun vs H Q E h => ?_) (fun cdv A outer s H vs Q E hr h => ?_)
  · obtain ⟨d, l, ns, most, rfl, _⟩ := h
    rfl
  · obtain ⟨d, l, ns, most, rfl, ⟨s0, k, big, hD, hS, hl, z0, z1, hk, hb⟩, hm1, hm2, q⟩ := h
    refine ⟨_, pss_cons (ps_if (pt_cmpR op_gt (pe_ix ix_list (pv 0) pe_int (fun _ _ => rfl)) pe_int (nomark _))
        (pss_cons (ps_set (i := 2) scOff.nd rfl (.inl rfl) (pe_op op_mod (pe_ix ix_list (pv 0) pe_int (fun _ _ => rfl)) (pv 1)))
          (pss_cons (ps_asg (pe_op op_fdiv (pe_ix ix_list (pv 0) pe_int (fun _ _ => rfl)) (pv 1)) (pg_sub (pv 0) pe_int set_list))
            (pss_one (ps_ret (pv 2))))) pss_nil)
      (pss_cons (ps_set (i := 3) scOff.nd rfl (.inl rfl) (pe_callB call_abs (by rfl) ma (by decide +kernel) (pa_cons (pe_call GC hr (by rfl) gC FC.kp bC .nil pass0
          (pa_cons (pe_ix ix_list (pv 0) pe_int (fun _ _ => rfl)) (pa_cons (pe_op op_mod (pe_ix ix_list (pv 0) pe_int (fun _ _ => rfl))
            (pe_callB (call_max2 rfl) (by rfl) mm (by decide +kernel) (pa_cons pe_int (pa_cons (pe_callB call_len_seq (by rfl) ml PySem.boot_len (pa_cons (pe_ix ix_list (pv 0) pe_int (fun _ _ => rfl)) pa_nil)) pa_nil)))) pa_nil))) pa_nil)))
      (pss_cons (ps_asg (pe_op op_add (pe_ix ix_list (pv 0) pe_int (fun _ _ => rfl)) pe_int) (pg_sub (pv 0) pe_int set_list))
      (pss_cons (ps_asg (pe_op op_mod (pe_op op_add (pe_op op_add (pe_op op_mul (pe_ix ix_list (pv 0) pe_int (fun _ _ => rfl)) pe_int) pe_int) (pv 3)) pe_int) (pg_sub (pv 0) pe_int set_list))
      (pss_one (ps_ret (pe_op op_mod (pe_op op_fdiv (pe_ix ix_list (pv 0) pe_int (fun _ _ => rfl)) pe_int) (pv 1)))))))
      , ?_⟩
    have hD0 : SqL K H d (dl s0 l k big) := SqL.of hD
    refine ⟨.ref d, rfl, d, _, 3, _, rfl, rfl, hD0, atI_nat (j := 3) rfl, big, 0, rfl, rfl, _, rfl, ite2 (fun e => ?_) (fun e => ?_)⟩
    · have e1 : 0 < big := of_decide_eq_true e
      refine ⟨.ref d, rfl, d, _, 3, _, rfl, rfl, hD0, atI_nat (j := 3) rfl, .int most, rfl, big, most, rfl, rfl, (by show 0 < most; omega), ?_⟩
      refine ⟨.ref d, rfl, d, _, 3, _, rfl, rfl, hD0, atI_nat (j := 3) rfl, .int most, rfl, big, most, rfl, rfl, ⟨by show 0 < most; omega, by show most < 1073741824; omega⟩, ?_⟩
      refine ⟨.ref d, rfl, d, _, 3, 3, rfl, rfl, hD, rfl, ?_⟩
      have r0 : 0 ≤ big % most := Int.emod_nonneg _ (by omega)
      have r1 : big % most < most := Int.emod_lt_of_pos _ (by omega)
      have er : big % most = (((big % most).toNat : Nat) : Int) := by omega
      refine ⟨.int (big % most), rfl, ?_⟩
      rw [er]
      refine q _ _ (by omega) ⟨s0, k, big / most, upd_same, seq_turn hD hS (fun b hb => upd_ne hb), hl, z0, z1, hk, Int.ediv_nonneg hb (by omega)⟩ (fun b hb => upd_ne hb)
    · refine ⟨.ref d, rfl, d, _, 1, _, rfl, rfl, hD0, atI_nat (j := 1) rfl, .ref d, rfl, d, _, 2, _, rfl, rfl, hD0, atI_nat (j := 2) rfl, ?_⟩
      refine ⟨.ref d, rfl, d, _, 1, _, rfl, rfl, hD0, atI_nat (j := 1) rfl, l, _, rfl, .inl hS, 1, _, rfl, ?_⟩
      have hx := max1 (((ns.map V.int).length : Nat) : Int) (by omega)
      generalize (if (((ns.map V.int).length : Nat) : Int) > 1 then (((ns.map V.int).length : Nat) : Int) else 1) = mx at hx ⊢
      refine ⟨k, mx, rfl, rfl, (by show 0 < mx; omega), l, ns, k % mx, rfl, hS, Int.emod_nonneg _ (by omega), fun x => ⟨x, rfl, ?_⟩⟩
      have ha := abs_nn x
      generalize (if x < 0 then -x else x) = c at ha ⊢
      -- d[2] = d[2] + 1
      refine ⟨.ref d, rfl, d, _, 2, _, rfl, rfl, hD0, atI_nat (j := 2) rfl, k, 1, rfl, rfl, .ref d, rfl, d, _, 2, 2, rfl, rfl, hD, rfl, ?_⟩
      have g1 : (upd H d (.lst (dl s0 l (k + 1) big))) d = some (.lst (dl s0 l (k + 1) big)) := upd_same
      have g2 : SqL K (upd H d (.lst (dl s0 l (k + 1) big))) d (dl s0 l (k + 1) big) := SqL.of g1
      refine ⟨.ref d, rfl, d, _, 0, _, rfl, rfl, g2, atI_nat (j := 0) rfl, s0, 48271, rfl, rfl, .inl ⟨by omega, by omega⟩, s0 * 48271, 11, rfl, rfl, .int c, rfl, s0 * 48271 + 11, c, rfl, rfl, s0 * 48271 + 11 + c, 2147483647, rfl, rfl, (by show (0 : Int) < 2147483647; decide), ?_⟩
      have m0 : 0 ≤ (s0 * 48271 + 11 + c) % 2147483647 := Int.emod_nonneg _ (by decide)
      have m1 : (s0 * 48271 + 11 + c) % 2147483647 < 2147483647 := Int.emod_lt_of_pos _ (by decide)
      refine ⟨.ref d, rfl, d, _, 0, 0, rfl, rfl, g1, rfl, ?_⟩
      rw [upd_upd]
      have g3 : (upd H d (.lst (dl ((s0 * 48271 + 11 + c) % 2147483647) l (k + 1) big))) d = some (.lst (dl ((s0 * 48271 + 11 + c) % 2147483647) l (k + 1) big)) := upd_same
      have g4 : SqL K (upd H d (.lst (dl ((s0 * 48271 + 11 + c) % 2147483647) l (k + 1) big))) d (dl ((s0 * 48271 + 11 + c) % 2147483647) l (k + 1) big) := SqL.of g3
      refine ⟨.ref d, rfl, d, _, 0, _, rfl, rfl, g4, atI_nat (j := 0) rfl, ((s0 * 48271 + 11 + c) % 2147483647), 64, rfl, rfl, ⟨by decide, by decide⟩, .int most, rfl, ((s0 * 48271 + 11 + c) % 2147483647) / 64, most, rfl, rfl, (by show 0 < most; omega), ?_⟩
      have r0 : 0 ≤ ((s0 * 48271 + 11 + c) % 2147483647) / 64 % most := Int.emod_nonneg _ (by omega)
      have r1 : ((s0 * 48271 + 11 + c) % 2147483647) / 64 % most < most := Int.emod_lt_of_pos _ (by omega)
      have er : ((s0 * 48271 + 11 + c) % 2147483647) / 64 % most = (((((s0 * 48271 + 11 + c) % 2147483647) / 64 % most).toNat : Nat) : Int) := by omega
      show Q (.int (((s0 * 48271 + 11 + c) % 2147483647) / 64 % most)) _
      rw [er]
      exact q _ _ (by omega) ⟨((s0 * 48271 + 11 + c) % 2147483647), k + 1, big, g3, seq_turn hD hS (fun b hb => upd_ne hb), hl, m0, m1, by omega, hb⟩ (fun b hb => upd_ne hb)
end
section
variable {P : Program} {w : World} {K : PySem.W.Frag} {mg : Str → Option Value} {base : Heap}
/-! ### _law_chain -/
def nChain : List Str := ["_law_d", "_law_most", "_law_many", "_law_way", "_law_moves", "_law_k", "_law_row", "_law_weight", "_law_place"]
theorem scChain : FnScope ["_law_d", "_law_most", "_law_many", "_law_way", "_law_moves", "_law_k", "_law_row", "_law_weight", "_law_place"] ["_law_d", "_law_most"] (defScope sChain) := ⟨rfl, rfl, rfl, by decide +kernel, rfl, by decide +kernel, by decide +kernel⟩
def spChain (K : PySem.W.Frag) : Sp := fun vs H Q _ => ∃ (d l : Addr) (ns : List Int) (most : Nat), vs = [.ref d, .int (most : Int)] ∧ Dc K l ns H d ∧ 1 ≤ most ∧ most ≤ 6 ∧
  ∀ (t m : Addr) (many : Nat) (ws : List V) (ms : List Mv) H', Good many ms → many ≤ most → ToldAt H' t m many ws ms → Dc K l ns H' d → Gr d H H' → Q (.ref t) H'
/-- what the law's texts call -/
structure LawTxt (K : PySem.W.Frag) (mg : Str → Option Value) (fC fD fO : Addr) (fdC fdD fdO : FuncData) : Prop where
  FC : Fun K "_law_cell" "_law_cell" sCell fC fdC
  bC : Binds K fdC ["_law_script", "_law_k"] []
  gC : mg "_law_cell" = some (.ref fC)
  FD : Fun K "_law_dice" "_law_dice" sDice fD fdD
  bD : Binds K fdD ["_law_script", "_law_k"] []
  gD : mg "_law_dice" = some (.ref fD)
  FO : Fun K "_law_off" "_law_off" sOff fO fdO
  bO : Binds K fdO ["_law_d", "_law_most"] []
  gO : mg "_law_off" = some (.ref fO)
  ml : mg "len" = none
  ma : mg "abs" = none
  mm : mg "max" = none
  mn : mg "min" = none
  mi : mg "int" = none
  mr : mg "range" = none
  ms : mg "sorted" = none
  mt : mg "tuple" = none
section
variable {fC fD fO : Addr} {fdC fdD fdO : FuncData}
theorem LawTxt.off (T : LawTxt K mg fC fD fO fdC fdD fdO) : FnOk P w K mg base CX0 2 fO fdO ["_law_d", "_law_most"] (spOff K) := ok_off T.FO T.FC T.bC T.gC T.ml T.ma T.mm
theorem LawTxt.dice (T : LawTxt K mg fC fD fO fdC fdD fdO) : FnOk P w K mg base CX0 2 fD fdD ["_law_script", "_law_k"] (spDice K) := ok_dice T.FD T.FC T.bC T.gC T.ml T.ma T.mi
theorem perm_row {many : Nat} {xs ys : List Int} (p : ys.Perm xs) (h : GoodRow many xs) : GoodRow many ys := ⟨p.length_eq.trans h.1, fun x hx => h.2 x (p.mem_iff.mp hx)⟩
theorem clamp (m x : Int) (h : 0 ≤ m) : 0 ≤ (if (if x < m then x else m) > 0 then (if x < m then x else m) else 0) ∧ (if (if x < m then x else m) > 0 then (if x < m then x else m) else 0) < m + 1 := by
  split <;> split at * <;> omega
theorem ok_chain {f : Addr} {fd : FuncData} (F : Fun K "_law_chain" "_law_chain" sChain f fd) (T : LawTxt K mg fC fD fO fdC fdD fdO) : FnOk P w K mg base CX0 3 f fd ["_law_d", "_law_most"] (spChain K) := by
  have GO : FnOk P w K mg base CX0 2 fO fdO ["_law_d", "_law_most"] (spOff K) := T.off
  refine F.ok scChain (fun vs H Q E h => ?_) (fun cdv A outer s H vs Q E hr h => ?_)
  · obtain ⟨d, l, ns, most, rfl, _⟩ := h
    rfl
  · obtain ⟨d, l, ns, most, rfl, hD, hm1, hm6, q⟩ := h
    refine ⟨_, pss_cons (ps_set (i := 2) scChain.nd rfl (.inr rfl) (pe_op op_add pe_int (pe_call GO hr (by rfl) T.gO T.FO.kp T.bO .nil pass0 (pa_cons (pv 0) (pa_cons (pv 1) pa_nil)))))
      (pss_cons (ps_set (i := 3) scChain.nd rfl (.inl rfl) (pe_call GO hr (by rfl) T.gO T.FO.kp T.bO .nil pass0 (pa_cons (pv 0) (pa_cons pe_int pa_nil))))
      (pss_cons (ps_set (i := 4) scChain.nd rfl (.inl rfl) (pe_lst pa_nil))
      (pss_cons (ps_for PassesOwn.never rfl (pi_range1 (by rfl) T.mr (pa_cons (pe_op op_add pe_int (pe_call GO hr (by rfl) T.gO T.FO.kp T.bO .nil pass0 (pa_cons (pv 0)
            (pa_cons (pe_ix ix_list (pe_lst (pa_cons pe_int (pa_cons pe_int (pa_cons pe_int pa_nil)))) (pe_call GO hr (by rfl) T.gO T.FO.kp T.bO .nil pass0 (pa_cons (pv 0) (pa_cons pe_int pa_nil))) (fun _ _ => rfl)) pa_nil)))) pa_nil))
          (pg_name (i := 5) scChain.nd rfl (.inl rfl))
          (pss_cons (ps_setLc (i := 6) (own := [("_law_place", 8)]) (g := gName 8) (tt := tYes) rfl scChain.nd rfl rfl (sw_true rfl rfl rfl (by decide +kernel)) (pi_range1 (by rfl) T.mr (pa_cons (pv 2) pa_nil)) (blkOk_by (N := nChain) (sc := defScope sChain) (by decide +kernel))
              (fun _ _ _ _ _ => pg_name (i := 8) scChain.nd rfl (.inl rfl)) (fun _ _ _ _ _ => pts_nil)
              (fun _ _ _ _ _ => pe_call GO hr (by rfl) T.gO T.FO.kp T.bO .nil pass0 (pa_cons (pv 0) (pa_cons (pv 2) pa_nil))))
          (C8.pss_cut (ps_if (pt_cmpR op_eq (pv 3) pe_int (nomark _)) (pss_one (ps_set (i := 6) scChain.nd rfl (.inl rfl) (pe_callB cr_sorted (by rfl) T.ms (by decide +kernel) (pa_cons (pv 6) pa_nil)))) pss_nil)
          (C8.pss_cut (ps_if (pt_cmpR op_eq (pv 3) pe_int (nomark _)) (pss_one
              (ps_setLc (i := 6) (own := [("_law_place", 8)]) (g := gName 8) (tt := tYes) rfl scChain.nd rfl rfl (sw_true rfl rfl rfl (by decide +kernel)) (pi_range1 (by rfl) T.mr (pa_cons (pv 2) pa_nil)) (blkOk_by (N := nChain) (sc := defScope sChain) (by decide +kernel))
              (fun _ _ _ _ _ => pg_name (i := 8) scChain.nd rfl (.inl rfl)) (fun _ _ _ _ _ => pts_nil)
              (fun _ _ _ _ _ => pe_callB (call_max2 rfl) (by rfl) T.mm (by decide +kernel) (pa_cons pe_int (pa_cons (pe_callB (call_min2 rfl) (by rfl) T.mn (by decide +kernel) (pa_cons (pe_op op_sub (pv 2) pe_int) (pa_cons
                (pe_op op_sub (pe_op op_add (pv 8) (pe_call GO hr (by rfl) T.gO T.FO.kp T.bO .nil pass0 (pa_cons (pv 0) (pa_cons pe_int pa_nil)))) pe_int) pa_nil))) pa_nil))))) pss_nil)
          (pss_cons (ps_set (i := 7) scChain.nd rfl (.inl rfl) (pe_ix ix_list (pe_lst (pa_cons pe_int (pa_cons (pe_op op_add pe_int (pe_call GO hr (by rfl) T.gO T.FO.kp T.bO .nil pass0 (pa_cons (pv 0) (pa_cons pe_int pa_nil))))
              (pa_cons (pe_op op_add pe_int (pe_call GO hr (by rfl) T.gO T.FO.kp T.bO .nil pass0 (pa_cons (pv 0) (pa_cons pe_int pa_nil)))) pa_nil)))) (pe_call GO hr (by rfl) T.gO T.FO.kp T.bO .nil pass0 (pa_cons (pv 0) (pa_cons pe_int pa_nil))) (fun _ _ => rfl)))
          (pss_one (ps_expr (pe_bm PySem.F.plainAttrs_list PySem.F.slot_list_append PySem.F.type_list_append mt_append (pv 4) (pa_cons (pe_tup (pa_cons (pv 7) (pa_cons (pe_callTy call_tuple_of (by rfl) T.mt (by decide +kernel) (pa_cons (pv 6) pa_nil)) pa_nil))) pa_nil)))))))))
      (pss_one (ps_ret (pe_tup (pa_cons (pv 2) (pa_cons (pv 4) pa_nil)))))))), ?_⟩
    -- many, way, moves
    refine ⟨.ref d, rfl, .int most, rfl, d, l, ns, _, rfl, hD, by omega, by omega, fun r H1 hr1 hD1 o1 => ?_⟩
    refine ⟨1, r, rfl, rfl, .ref d, rfl, d, l, ns, _, rfl, hD1, by omega, by omega, fun way H2 hr2 hD2 o2 => ?_⟩
    obtain ⟨many, em⟩ : ∃ many : Nat, many = 1 + r := ⟨_, rfl⟩
    have em2 : (1 : Int) + (r : Int) = (many : Int) := by omega
    have g2 : Gr d H H2 := ((Gr.refl d H).off o1).off o2
    refine ⟨Nat.zero_le _, fun m nm => ?_⟩
    have hD3 : Dc K l ns (upd H2 m (.lst [])) d := hD2.new nm
    have g3 : Gr d H (upd H2 m (.lst [])) := g2.new nm
    have hm3 : (upd H2 m (.lst [])) m = some (.lst []) := upd_same
    -- the loop's range
    refine ⟨.ref d, rfl, (by show 3 ≤ sizeLine; decide), fun L nL => ?_⟩
    have hD4 := hD3.new (o := .lst [.int 4, .int 4, .int 8]) nL
    have g4 : Gr d H (upd (upd H2 m (.lst [])) L (.lst [.int 4, .int 4, .int 8])) := g3.new nL
    have nLm : L ≠ m := fun z => by rw [z, upd_same] at nL; cases nL
    have hm4 : (upd (upd H2 m (.lst [])) L (.lst [.int 4, .int 4, .int 8])) m = some (.lst []) := by rw [upd_ne (Ne.symm nLm)]; exact hm3
    have hL4 : (upd (upd H2 m (.lst [])) L (.lst [.int 4, .int 4, .int 8])) L = some (.lst [.int 4, .int 4, .int 8]) := upd_same
    generalize (upd (upd H2 m (.lst [])) L (.lst [.int 4, .int 4, .int 8])) = H4 at hD4 g4 hm4 hL4 ⊢
    refine ⟨.ref d, rfl, d, l, ns, _, rfl, hD4, by omega, by omega, fun r3 H5 hr3 hD5 o5 => ?_⟩
    have nmd : m ≠ d := hD2.ne nm
    have nLd : L ≠ d := hD3.ne nL
    have hL5 : H5 L = some (.lst [.int 4, .int 4, .int 8]) := by rw [o5 _ nLd]; exact hL4
    have hm5 : H5 m = some (.lst []) := by rw [o5 _ nmd]; exact hm4
    have g5 : Gr d H H5 := g4.off o5
    obtain ⟨c, hc4, hc8, hc⟩ : ∃ c : Int, 4 ≤ c ∧ c ≤ 8 ∧ ([.int 4, .int 4, .int 8] : List V)[r3]? = some (.int c) := by
      have h3 : r3 < 3 := by omega
      match r3, h3 with
      | 0, _ => exact ⟨4, by decide, by decide, rfl⟩
      | 1, _ => exact ⟨4, by decide, by decide, rfl⟩
      | 2, _ => exact ⟨8, by decide, by decide, rfl⟩
    refine ⟨L, _, _, _, rfl, rfl, SqL.of hL5, atI_nat hc, d, l, ns, _, rfl, hD5, by omega, by omega, fun cnt H6 hr6 hD6 o6 => ?_⟩
    have hm6' : H6 m = some (.lst []) := by rw [o6 _ nmd]; exact hm5
    have g6 : Gr d H H6 := g5.off o6
    refine ⟨1, cnt, rfl, rfl, _, rfl, by omega, by omega, ?_⟩
    have en : ((1 : Int) + (cnt : Int)).toNat = 1 + cnt := by omega
    refine for_range (lo := 0) (n := ((1 : Int) + (cnt : Int)).toNat)
      (fun i σ H' => ∃ y5 y6 y7 ms ws, σ = [some (.ref d), some (.int (most : Int)), some (.int ((1 : Int) + (r : Int))), some (.int (way : Int)), some (.ref m), y5, y6, y7, none] ∧
        Dc K l ns H' d ∧ Gr d H H' ∧ H' m = some (.lst ws) ∧ MovesAt H' ws ms ∧ ms.length = i ∧ ∀ mv ∈ ms, GoodMv many mv)
      ⟨none, none, none, [], [], rfl, hD6, g6, hm6', .nil, rfl, fun _ z => nomatch z⟩ ?_ ?_
    · rintro i σ H7 hi ⟨y5, y6, y7, ms, ws, rfl, hD7, g7, hm7, hM7, hl7, hg7⟩
      rw [en] at hi
      -- row = [off(d, many) for place in range(many)]
      refine ⟨_, rfl, _, rfl, by omega, by omega, fun D nD => ?_⟩
      have nDd : D ≠ d := hD7.ne nD
      have er : ((1 : Int) + (r : Int)).toNat = many := by omega
      refine lc_range (lo := 0) (n := ((1 : Int) + (r : Int)).toNat)
        (fun j H' => ∃ row : List Int, H' D = some (.lst (row.map V.int)) ∧ row.length = j ∧ (∀ x ∈ row, 0 ≤ x ∧ x < (many : Int)) ∧ Dc K l ns H' d ∧ Gr d H7 H')
        ⟨[], upd_same, rfl, (fun _ z => nomatch z), hD7.new nD, (Gr.refl d H7).new nD⟩ ?_ ?_
      · rintro j H8 hj ⟨row, hrow, hrl, hrx, hD8, g8⟩
        refine ⟨rfl, .ref d, rfl, _, rfl, d, l, ns, _, rfl, hD8, by omega, by omega, fun x H9 hx hD9 o9 => ?_⟩
        have hrow9 : H9 D = some (.lst (row.map V.int)) := by rw [o9 _ nDd]; exact hrow
        refine ⟨_, hrow9, ?_, row ++ [(x : Int)], ?_, ?_, ?_, hD9.turn hD7 nD nDd, ?_⟩
        · rw [List.length_map, hrl]
          exact small8 (by omega)
        · rw [upd_same, List.map_append]
          rfl
        · rw [List.length_append, hrl]
          rfl
        · intro z hz
          rcases List.mem_append.mp hz with hz | hz
          · exact hrx z hz
          · have e : z = (x : Int) := by simpa using hz
            omega
        · intro b o nb e
          have e8 := g8.off o9 b o nb e
          rw [upd_ne (ne_of_none e nD)]
          exact e8
      · rintro H8 ⟨row, hrow, hrl, hrx, hD8, g8⟩
        have hR : GoodRow many row := ⟨hrl.trans er, hrx⟩
        let Mid : L2.St → Hp → Prop := fun σ H9 => ∃ D9 row, σ = [some (.ref d), some (.int (most : Int)), some (.int ((1 : Int) + (r : Int))), some (.int (way : Int)), some (.ref m), some (.int (0 + (i : Int))), some (.ref D9), y7, none] ∧
          H9 D9 = some (.lst (row.map V.int)) ∧ GoodRow many row ∧ Dc K l ns H9 d ∧ Gr d H7 H9
        have mid0 : Mid [some (.ref d), some (.int (most : Int)), some (.int ((1 : Int) + (r : Int))), some (.int (way : Int)), some (.ref m), some (.int (0 + (i : Int))), some (.ref D), y7, none] H8 := ⟨D, row, rfl, hrow, hR, hD8, g8⟩
        refine ⟨Mid, ⟨_, rfl, rfl, _, rfl, ite2 (fun e => ?_) (fun e => mid0)⟩, ?_⟩
        · -- row = sorted(row)
          refine ⟨_, rfl, D, row, rfl, SqL.of hrow, by omega, fun ns' p hp _ np => ?_⟩
          exact ⟨p, ns', rfl, upd_same, perm_row hp hR, hD8.new np, g8.new np⟩
        · rintro σ9 H9 ⟨D9, row9, rfl, hrow9, hR9, hD9, g9⟩
          refine ⟨Mid, ⟨_, rfl, rfl, _, rfl, ite2 (fun e => ?_) (fun e => ⟨D9, row9, rfl, hrow9, hR9, hD9, g9⟩)⟩, ?_⟩
          · -- row = [max(0, min(many - 1, ..)) ..]
            refine ⟨_, rfl, _, rfl, by omega, by omega, fun D' nD' => ?_⟩
            have nDd' : D' ≠ d := hD9.ne nD'
            refine lc_range (lo := 0) (n := ((1 : Int) + (r : Int)).toNat)
              (fun j H' => ∃ row : List Int, H' D' = some (.lst (row.map V.int)) ∧ row.length = j ∧ (∀ x ∈ row, 0 ≤ x ∧ x < (many : Int)) ∧ Dc K l ns H' d ∧ Gr d H9 H')
              ⟨[], upd_same, rfl, (fun _ z => nomatch z), hD9.new nD', (Gr.refl d H9).new nD'⟩ ?_ ?_
            · rintro j H10 hj ⟨row', hrow', hrl', hrx', hD10, g10⟩
              refine ⟨rfl, _, rfl, _, _, rfl, rfl, _, rfl, .ref d, rfl, d, l, ns, _, rfl, hD10, by omega, by omega, fun x H11 hx hD11 o11 => ?_⟩
              refine ⟨_, _, rfl, rfl, _, _, rfl, rfl, _, _, rfl, _, _, rfl, ?_⟩
              have cl := clamp ((1 : Int) + (r : Int) - 1) (0 + (j : Int) + (x : Int) - 1) (by omega)
              generalize (if (if 0 + (j : Int) + (x : Int) - 1 < (1 : Int) + (r : Int) - 1 then 0 + (j : Int) + (x : Int) - 1 else (1 : Int) + (r : Int) - 1) > 0 then
                (if 0 + (j : Int) + (x : Int) - 1 < (1 : Int) + (r : Int) - 1 then 0 + (j : Int) + (x : Int) - 1 else (1 : Int) + (r : Int) - 1) else 0) = z at cl ⊢
              have hrow9 : H11 D' = some (.lst (row'.map V.int)) := by rw [o11 _ nDd']; exact hrow'
              refine ⟨_, hrow9, ?_, row' ++ [z], ?_, ?_, ?_, hD11.turn hD9 nD' nDd', ?_⟩
              · rw [List.length_map, hrl']
                exact small8 (by omega)
              · rw [upd_same, List.map_append]
                rfl
              · rw [List.length_append, hrl']
                rfl
              · intro y hy
                rcases List.mem_append.mp hy with hy | hy
                · exact hrx' y hy
                · have e : y = z := by simpa using hy
                  omega
              · intro b o nb e
                have e8 := g10.off o11 b o nb e
                rw [upd_ne (ne_of_none e nD')]
                exact e8
            · rintro H10 ⟨row', hrow', hrl', hrx', hD10, g10⟩
              exact ⟨D', row', rfl, hrow', ⟨hrl'.trans er, hrx'⟩, hD10, g9.trans g10⟩
          · rintro σ10 H10 ⟨D10, row, rfl, hrow, hR, hD10, g10⟩
            -- weight = [1, 1 + off(d, 4), 1 + off(d, 99)][off(d, 3)]
            have g10' : Gr d H H10 := g7.trans g10
            refine ⟨.ref d, rfl, d, l, ns, _, rfl, hD10, by omega, by omega, fun x1 H11 hx1 hD11 o11 => ?_⟩
            refine ⟨1, x1, rfl, rfl, .ref d, rfl, d, l, ns, _, rfl, hD11, by omega, by omega, fun x2 H12 hx2 hD12 o12 => ?_⟩
            refine ⟨1, x2, rfl, rfl, (by show 3 ≤ sizeLine; decide), fun W nW => ?_⟩
            have hD13 := hD12.new (o := .lst [.int 1, .int (1 + (x1 : Int)), .int (1 + (x2 : Int))]) nW
            have nWd : W ≠ d := hD12.ne nW
            have g13 : Gr d H10 (upd H12 W (.lst [.int 1, .int (1 + (x1 : Int)), .int (1 + (x2 : Int))])) := (((Gr.refl d H10).off o11).off o12).new nW
            have hW13 : (upd H12 W (.lst [.int 1, .int (1 + (x1 : Int)), .int (1 + (x2 : Int))])) W = some (.lst [.int 1, .int (1 + (x1 : Int)), .int (1 + (x2 : Int))]) := upd_same
            refine ⟨.ref d, rfl, d, l, ns, _, rfl, hD13, by omega, by omega, fun x3 H14 hx3 hD14 o14 => ?_⟩
            have hW14 : H14 W = some (.lst [.int 1, .int (1 + (x1 : Int)), .int (1 + (x2 : Int))]) := by rw [o14 _ nWd]; exact hW13
            have g14 : Gr d H10 H14 := g13.off o14
            obtain ⟨wt, hw1, hw9, hw⟩ : ∃ c : Int, 1 ≤ c ∧ c ≤ 99 ∧ ([.int 1, .int (1 + (x1 : Int)), .int (1 + (x2 : Int))] : List V)[x3]? = some (.int c) := by
              have h3 : x3 < 3 := by omega
              match x3, h3 with
              | 0, _ => exact ⟨1, by decide, by decide, rfl⟩
              | 1, _ => exact ⟨1 + (x1 : Int), by omega, by omega, rfl⟩
              | 2, _ => exact ⟨1 + (x2 : Int), by omega, by omega, rfl⟩
            refine ⟨W, _, _, _, rfl, rfl, SqL.of hW14, atI_nat hw, ?_⟩
            -- moves.append((weight, tuple(row)))
            have nm' : ∀ {H'}, Dc K l ns H' d → H' m = H' m := fun _ => rfl
            have hm14 : H14 m = some (.lst ws) := (g10.trans g14) m _ nmd hm7
            have nD10 : D10 ≠ d := hD10.ne_of hrow fun s0 l k big z => by
              injection z with z
              exact map_int_dl z
            have hrow14 : H14 D10 = some (.lst (row.map V.int)) := g14 D10 _ nD10 hrow
            refine ⟨.ref m, rfl, .inl ⟨rfl, _, SqL.of hm14⟩, .int wt, rfl, .ref D10, rfl, D10, _, rfl, .inl ⟨SqL.of hrow14, fun tq ntq => ?_⟩⟩
            refine ⟨by show 2 ≤ sizeLine; decide, fun tp ntp => ?_⟩
            have g16 : Same H14 (upd (upd H14 tq (.tup (row.map V.int))) tp (.tup [.int wt, .ref tq])) := (same_new ntq).trans (same_new ntp)
            have htp : (upd (upd H14 tq (.tup (row.map V.int))) tp (.tup [.int wt, .ref tq])) tp = some (.tup [.int wt, .ref tq]) := upd_same
            have htq : (upd (upd H14 tq (.tup (row.map V.int))) tp (.tup [.int wt, .ref tq])) tq = some (.tup (row.map V.int)) := by
              rw [upd_ne (ne_of_none upd_same ntp)]
              exact upd_same
            have hD16 := hD14.same g16
            generalize (upd (upd H14 tq (.tup (row.map V.int))) tp (.tup [.int wt, .ref tq])) = H16 at g16 htp htq hD16 ⊢
            have hm16 := g16 m _ hm14
            have gt : Gr d H7 H16 := (g10.trans g14).trans (Gr.of_same g16)
            have hM16 : MovesAt H16 ws ms := hM7.same (gt.tups (K := K) hD7)
            have hl := hM16.length
            refine ⟨m, _, _, rfl, rfl, hm16, by rw [hl]; exact small8 (by omega), ?_⟩
            refine ⟨some (.int (0 + (i : Int))), some (.ref D10), some (.int wt), ms ++ [(wt, row)], ws ++ [.ref tp], rfl, hD16.turn hD2 nm nmd, ?_, upd_same, ?_, by rw [List.length_append, hl7]; rfl, ?_⟩
            · intro b o nb e
              by_cases hb : b = m
              · rw [hb] at e nb
                have z := g2 m o nb e
                rw [nm] at z
                cases z
              · rw [upd_ne hb]
                exact (g7.trans gt) b o nb e
            · refine MovesAt.same (H := H16) ?_ (MovesAt.snoc ⟨tp, tq, rfl, htp, htq⟩ hM16)
              intro b xs e
              rw [upd_ne]
              · exact e
              · intro z
                rw [z, hm16] at e
                cases e
            · intro mv hmv
              rcases List.mem_append.mp hmv with hmv | hmv
              · exact hg7 mv hmv
              · have e : mv = (wt, row) := by simpa using hmv
                subst e
                exact ⟨hw1, hw9, hR⟩
    · rintro σ7 H7 ⟨y5, y6, y7, ms, ws, rfl, hD7, g7, hm7, hM7, hl7, hg7⟩
      refine ⟨_, rfl, .ref m, rfl, (by show 2 ≤ sizeLine; decide), fun t nt => ?_⟩
      refine q t m many ws ms _ ⟨by omega, by omega, by omega, by omega, hg7⟩ (by omega) ⟨?_, same_new nt _ _ hm7, hM7.same (Same.tups (same_new nt))⟩ (hD7.new nt) (g7.new nt)
      rw [← em2]
      exact upd_same
end
end
/-! ### all(x in range(y) for x in a tuple of ints): a rule of our own -/
/-- the element: x in range(y), y a captured int -/
def eltR (x y : Str) (p1 p2 p3 p4 p5 : Pos) : Expr := .Compare (.Name x p1) [.In] [.Call (.Name "range" p2) [.Name y p3] [] p4] p5
def inR (n z : Int) : Bool := decide (0 ≤ z ∧ z < n)
theorem elt_range {prog : Program} {w : World} {cenv : Env} {A : Around} {E : Value → Shared → Prop} {x y : Str} {p1 p2 p3 p4 p5 : Pos} {s : Shared} {m mg mb : Str → Option Value} {cc : Addr} {z n : Int} {t u : Tok}
    (kf : cenv.scope.kind = .function) (kx : cenv.kindOf x = some .local) (ky : cenv.kindOf y = some .free) (kr : cenv.kindOf "range" = some .globalImplicit) (hm : s.heap.Ns cenv.locals m) (ex : m x = some (.int z t))
    (hc : cenv.cells.lookup y = some cc) (ec : s.heap.IsCell cc (some (.int n u))) (hg : s.heap.Ns cenv.globals mg) (nr : mg "range" = none) (hb : s.heap.Ns cenv.builtins mb) (br : mb "range" = some (.type "range"))
    (dx : (x == ("__debug__" : Str)) = false) (dy : (y == ("__debug__" : Str)) = false) (cy : (y == ("__classdict__" : Str)) = false) :
    wpAny (model prog w) A (eval (eltR x y p1 p2 p3 p4 p5) cenv) (fun v s' => v = .bool (inR n z) ∧ Keeps s s') E s := by
  refine wpAny_Compare1 (wpAny_Name (wpAny_loadName_local kf kx hm ex ?_) dx) (by rfl)
  refine wpAny_Call_Name_kw (Calls.Name_function_global kf kr (Calls.loadGlobal_builtin hg nr hb br ?_) (by decide))
  refine PyProof.Rows.callWith_type1 (Calls.spliced_cons (wpAny_Name (wpAny_loadName_free kf ky hc ec ?_ cy) dy)) (by rfl) (by rfl)
  refine Calls.spliced_nil (call_range_1 ?_)
  have ho := Heap.get?_push_size s.heap (o := { cls := .type "range", data := .fields #[.int 0 s.toks, .int n u, .int 1 (s.toks + 1)] }) rfl
  show wpAny _ _ (do return Value.bool (← contains (Value.ref s.heap.objs.size) (Value.int z t))) _ _ _
  refine wpAny_bind (wpAny_contains_slot (T := "range") ⟨_, ho, rfl⟩ F.slot_range_contains (call_meets F.slot_range_contains ⟨_, ho, rfl⟩ F.entry_range_contains (F.args_range_contains_2 _ _) (q_contains s.heap.objs.size 0 n z s.toks u (s.toks + 1) t) ⟨ho, ?_⟩))
  refine wpAny_truthy_bool (wpAny_pure ⟨?_, _, _, rfl, fun b o e => Heap.get?_push_of_some _ e⟩)
  rw [place1]
  rfl
open GxR in
/-- the walk that all(..) makes, once the generator stands at g -/
def AllReady (X : Cx) (pins : List (Addr × Obj)) (σ : L2.St) (H1 : Hp) (P : Addr) (bs : List Bool) (g : Addr) (s5 : Shared) : Prop :=
  ∃ (fp wr : List Addr) (G : Array GenState → Array GenState → Prop) (F : Nat → Value → Prop) (St : Nat → Shared → Prop) (tr : Nat → Bool),
    WalksS X.prog X.w X.A.in1 g fp wr G bs.length F St ∧ St 0 s5 ∧ TruthOf X.prog X.w X.A.in1 F tr ∧ (∀ j b, bs[j]? = some b → tr j = b) ∧
    ∀ s', Moved wr G s5 s' → ∃ H2, Tabbed P H1 H2 ∧ Inv X pins σ H2 s'
theorem clo_one {cells : List (Str × Addr)} : ∀ (names : List (Str × NameKind)) (acc : List (Str × Addr)) (y : Str) (cc : Addr), (∀ p ∈ names, p.2 = .free → cells.lookup p.1 = some ((cells.lookup p.1).getD 0)) → cells.lookup y = some cc →
    ((y, NameKind.free) ∈ names ∨ acc.lookup y = some cc) → (cloFrom cells names acc).lookup y = some cc := by
  intro names
  induction names with
  | nil =>
    intro acc y cc _ _ h
    rcases h with h | h
    · cases h
    · exact h
  | cons p r ih =>
    intro acc y cc hf hy h
    obtain ⟨n, kd⟩ := p
    unfold cloFrom
    have hf' : ∀ p ∈ r, p.2 = .free → cells.lookup p.1 = some ((cells.lookup p.1).getD 0) := fun p hp => hf p (List.mem_cons_of_mem _ hp)
    by_cases hk : (kd == NameKind.free) = true
    · rw [if_pos hk]
      refine ih _ y cc hf' hy ?_
      by_cases hn : y = n
      · subst hn
        refine .inr ?_
        rw [List.lookup_cons_self, hy]
        rfl
      · rcases h with h | h
        · rcases List.mem_cons.mp h with e | e
          · injection e with e1 _
            exact absurd e1 hn
          · exact .inl e
        · refine .inr ?_
          rw [List.lookup_cons, show (y == n) = false from by simpa using hn]
          exact h
    · rw [if_neg hk]
      refine ih _ y cc hf' hy ?_
      rcases h with h | h
      · rcases List.mem_cons.mp h with e | e
        · injection e with _ e2
          exact absurd (by rw [← e2]; rfl) hk
        · exact .inl e
      · exact .inr h
/-- the generator's code object: there already, or made and put into the table -/
theorem gen_code {M : Model} {A : Around} {env : Env} {c P : Addr} {gpos : Pos} {q : Str} {scope : Scope} {E : Value → Shared → Prop} {Q : Value → Shared → Prop} {s : Shared} {ps : Array Value} (hcode : env.code = .ref c) (cd : PySem.W.CodeHd s.heap c P)
    (hP : s.heap.get? P = some { cls := .none, data := .fields ps }) (ht : TriplesOk ps.toList)
    (h : ∀ (code : Value) (h3 : Heap) (tk : Nat) (more : Array Value), Heap.ExtBut P s.heap h3 → s.heap.objs.size ≤ h3.objs.size → h3.get? P = some { cls := .none, data := .fields (ps ++ more) } → TriplesOk (ps ++ more).toList → Q code { s with heap := h3, toks := tk }) :
    wpAny M A (genexprCode env gpos q scope) Q E s := by
  match hf : codeAmong gpos ps.toList with
  | some cv => exact wpAny_genexprCode_hit hcode (cd.code hP ht) hf (h cv s.heap s.toks #[] (Heap.ExtBut.refl _ _) (Nat.le_refl _) (by rw [Array.append_empty]; exact hP) (by rw [Array.append_empty]; exact ht))
  | none =>
    refine wpAny_genexprCodeX hcode (cd.code hP ht) (cd.tab hP) hf fun c' h' tk hx hge hlt hco _ htab _ => h _ h' tk _ hx (Nat.le_trans hge (Nat.le_of_lt hlt)) htab.2 ?_
    obtain ⟨_, _, _, _, _, _, _, _, _, _, _, _, _, _, _, _, _, _, _, htr, _⟩ := hco
    exact htr
section
variable {X : Cx} {pins : List (Addr × Obj)} {σ : L2.St} {H : Hp} {s : Shared}
open GxR in
theorem gen_range {c P : Addr} {iter : Expr} {x y : Str} {px gpos p1 p2 p3 p4 p5 : Pos} {scope : Scope} {te : TE} {k i : Nat} {Q' : Value → Shared → Prop} {R : List Int → Int → Hp → Prop}
    (hr : Room k X.A) (TB : TabB X.base X.mg c P) (hcode : X.env.code = .ref c) (S : GenS X.env scope x) (hi : PE X iter te) (hy : X.N[i]? = some y) (vy : X.env.kindOf y = some .cell) (fy : (y, NameKind.free) ∈ scope.names) (ly : scope.names.lookup y = some .free)
    (lr : scope.names.lookup ("range" : Str) = some .globalImplicit) (nr : X.mg "range" = none) (dx : (x == ("__debug__" : Str)) = false) (dy : (y == ("__debug__" : Str)) = false) (cy : (y == ("__classdict__" : Str)) = false)
    (hs : ∀ v, genFold iter X.env v = pure v) (I : Inv X pins σ H s) (h : te σ H fun v H1 => ∃ (a : Addr) (ns : List Int) (n : Int), v = .ref a ∧ SqT X.K H1 a (ns.map V.int) ∧ TabG H1 P ∧ σ[i]? = some (some (.int n)) ∧ R ns n H1)
    (hQ : ∀ ns n H1 g s5, R ns n H1 → AllReady X pins σ H1 P (ns.map (inR n)) g s5 → Q' (.ref g) s5) :
    wpAny (model X.prog X.w) X.A (eval (.GeneratorExp (eltR x y p1 p2 p3 p4 p5) [⟨.Name x px, iter, [], 0⟩] scope gpos) X.env) Q' X.xe s := by
  refine wpAny_GeneratorExp_walksQ hr.hd S.co (closure_ok S.free) S.cell S.dot S.loc S.kind (by have := hr.dp; omega) ?_ hs
  refine thn (hi.run pins s σ H _ I h) fun xv s1 ⟨v, H1, I1, r1, a, ns, n, ev, hT, hTab, hn, hR⟩ => ?_
  subst ev
  obtain rfl : xv = Value.ref a := r1
  obtain ⟨its, rv, hTup, hz⟩ := I1.tuple hT
  have tupAt : s1.heap.IsTuple a its.toArray := hTup
  -- the captured int
  obtain ⟨cc, u, hcc, hcell⟩ : ∃ (cc : Addr) (u : Tok), X.env.cells.lookup y = some cc ∧ s1.heap.IsCell cc (some (.int n u)) := by
    obtain ⟨m, _, hl⟩ := I1.loc
    obtain ⟨uv, ru, lk⟩ := hl i y (.int n) hy hn (.inr (.inl vy))
    obtain ⟨u, eu⟩ := ru
    subst eu
    rcases lk with ⟨k1, _⟩ | ⟨_, cc, e1, e2⟩
    · rw [vy] at k1
      cases k1
    · exact ⟨cc, u, e1, e2⟩
  obtain ⟨mb, bb1, bb2⟩ := I1.mod.blt
  have lenI : its.toArray.size = ns.length := by
    have e := rv.length
    rw [List.length_map] at e
    simp only [List.size_toArray]
    omega
  obtain ⟨ps, hP, hps⟩ := hTab
  refine wpAny_pyIter_tuple tupAt ?_
  -- it: the iterator's object
  let it : Obj := { cls := .type "tuple_iterator", data := .fields #[.ref a, .int 0 0] }
  have atP : s1.heap.get? P = some { cls := .none, data := .fields ps } := I1.hok P _ hP
  have ltP : P < s1.heap.objs.size := Heap.lt_size atP
  have limI : (s1.heap.push it).NoLimit := I1.nolimit.push it
  have keepI : ∀ b o, s1.heap.get? b = some o → (s1.heap.push it).get? b = some o := fun b o e => Heap.get?_push_of_some _ e
  have codeI : PySem.W.CodeHd (s1.heap.push it) c P := TB.code.keeps fun b o e => keepI b o (I1.bk b o e)
  have ltS : cStatics < s1.heap.objs.size := let ⟨_, q, _⟩ := I1.nolimit; q.lt
  have neS : cStatics ≠ P := fun e => by
    obtain ⟨_, ⟨o', es, ep, g1, g2, _⟩, _⟩ := I1.nolimit
    rw [e, atP] at g1
    cases g1
    cases g2
  have szI : (s1.heap.push it).objs.size = s1.heap.objs.size + 1 := Heap.size_push ..
  have iterI : (s1.heap.push it).IsTupleIter s1.heap.objs.size a 0 := ⟨_, Heap.get?_push_size _ rfl, rfl, rfl⟩
  have tupI : (s1.heap.push it).IsTuple a its.toArray := by
    obtain ⟨o, e, r⟩ := tupAt
    exact ⟨o, keepI _ _ e, r⟩
  have neIt : a ≠ s1.heap.objs.size := by
    obtain ⟨o, e, _⟩ := tupAt
    exact Nat.ne_of_lt (Heap.lt_size e)
  have neAP : a ≠ P := fun e => by
    obtain ⟨o, g, _, nn, dd⟩ := tupAt
    rw [e, atP] at g
    cases g
    cases dd
  have Wk : ∀ A' : Around, A'.handled = none → Walks X.prog X.w A' s1.heap.objs.size [s1.heap.objs.size, a] [s1.heap.objs.size] its.toArray.size (fun j v => its.toArray[j]? = some v) (fun j hp => hp.IsTupleIter s1.heap.objs.size a j ∧ hp.IsTuple a its.toArray) :=
    fun A' hA => Walks.tuple hA s1.heap.objs.size a neIt its.toArray
  refine ⟨limI, gen_code hcode codeI (keepI _ _ atP) hps fun code h3 tk more hx hge hP3 ht3 => ?_⟩
  have hge2 : s1.heap.objs.size + 1 ≤ h3.objs.size := by
    rw [← szI]
    exact hge
  have keep3 : ∀ b o, b ≠ P → s1.heap.get? b = some o → h3.get? b = some o := fun b o nb e => hx b o nb (keepI b o e)
  obtain ⟨bm, ob, f1, f2, f3, f4, f5, f6, f7, f8⟩ := TB.bm
  have glob3 : h3.Ns X.env.globals X.mg := by
    rw [I1.ok.glob]
    exact ((I1.mod.glob.keeps I1.bk).push it).extBut hx TB.gP
  refine wpAny_builtinsFor (m := X.mg) glob3 f1 f2 (keep3 _ _ f4 (I1.bk _ _ f5)) f6 f7 f8 ?_
  refine ⟨s1.heap.objs.size, [s1.heap.objs.size, a], [s1.heap.objs.size], its.toArray.size, fun j v => its.toArray[j]? = some v, _, fun _ => true, fun j v => ∃ z, ns[j]? = some z ∧ v = .bool (inR n z), rfl, Wk, ?_, ?_, limI.extBut hx neS, ?_, ?_, ?_⟩
  · refine ⟨?_, ?_⟩
    · obtain ⟨o, e, r⟩ := iterI
      exact ⟨o, hx _ _ (Nat.ne_of_gt ltP) e, r⟩
    · obtain ⟨o, e, r⟩ := tupI
      exact ⟨o, hx _ _ neAP e, r⟩
  · intro b hb
    show b < h3.objs.size
    rcases List.mem_cons.mp hb with e | e
    · rw [e]
      exact Nat.lt_of_succ_le hge2
    · have e2 : b = a := by simpa using e
      obtain ⟨o, g, _⟩ := tupAt
      have lta := Heap.lt_size g
      rw [e2]
      exact Nat.lt_of_lt_of_le lta (by omega)
  · intro hmem
    have e : cStatics = s1.heap.objs.size := by simpa using hmem
    rw [e] at ltS
    exact Nat.lt_irrefl _ ltS
  · intro href hhref
    refine ⟨fun A' E' j v s₂ m₂ hA hPv ha2 hb2 hk => ?_, fun A' E' j v s₂ m₂ hA hPv _ ha2 hb2 hk => ?_⟩
    · simp only [List.forIn_nil]
      exact wpAny_pure ⟨rfl, s₂.heap, s₂.toks, rfl, fun _ _ e => e⟩
    · -- what stood ahead of the generator stands
      have old : ∀ b o, b ≠ P → s1.heap.get? b = some o → s₂.heap.get? b = some o := fun b o nb e => by
        refine hk b (List.mem_range.mpr ?_) (fun z => ?_) o (hhref b o (keep3 b o nb e))
        · exact Nat.lt_of_lt_of_le (Heap.lt_size e) (by show s1.heap.objs.size ≤ h3.objs.size; omega)
        · have e2 : b = s1.heap.objs.size := by simpa using z
          exact Nat.ne_of_lt (Heap.lt_size e) e2
      have nPb : ∀ b o, X.base.get? b = some o → b ≠ P := fun b o e z => by
        have q := (I1.bs b o e).2
        rw [z, hP] at q
        cases q
      have hjv : its[j]? = some v := by simpa using hPv
      obtain ⟨zv, ez, rz⟩ : ∃ z, ns[j]? = some z ∧ RelV (.int z) v := by
        have hj : j < ns.length := by
          obtain ⟨h, _⟩ := List.getElem?_eq_some_iff.mp hjv
          simpa [lenI] using (show j < its.toArray.size by simpa using h)
        obtain ⟨uu, g1, g2⟩ := rv.get (i := j) (x := .int ns[j]) (by rw [List.getElem?_map, List.getElem?_eq_getElem hj]; rfl)
        rw [hjv] at g1
        cases g1
        exact ⟨_, List.getElem?_eq_getElem hj, g2⟩
      obtain ⟨tz, rfl⟩ := rz
      have cellS : s₂.heap.IsCell cc (some (.int n u)) := by
        obtain ⟨o, e, d⟩ := hcell
        refine ⟨o, old _ _ (fun z => ?_) e, d⟩
        rw [z, atP] at e
        cases e
        cases d
      have gS : s₂.heap.Ns mainGlobals X.mg := by
        obtain ⟨o, es, ep, e, r⟩ := I1.mod.glob
        exact ⟨o, es, ep, old _ _ (nPb _ _ e) (I1.bk _ _ e), r⟩
      have bS : s₂.heap.Ns builtinsNs mb := by
        obtain ⟨o, es, ep, e, r⟩ := bb1
        exact ⟨o, es, ep, old _ _ (nPb _ _ e) (I1.bk _ _ e), r⟩
      have hclo : (cloFrom X.env.cells scope.names []).lookup y = some cc := clo_one _ _ _ _ (fun p hp hf => by
        obtain ⟨c', ec'⟩ := S.free p hp hf
        rw [ec']
        rfl) hcc (.inl fy)
      refine thn (elt_range (x := x) (y := y) S.kind S.loc ly lr ha2 hb2 hclo cellS (mg := X.mg) (by show s₂.heap.Ns X.env.globals X.mg; rw [I1.ok.glob]; exact gS) nr bS ((bb2 "range" (by decide)).trans (by decide +kernel)) dx dy cy) fun v' s3 hv => ⟨⟨zv, ez, hv.1⟩, hv.2⟩
  · intro g h5 tk5 gs hbare hag hsz5 hk5 W5 hat
    have e0 : passing (fun _ => true) its.toArray.size 0 = List.range its.toArray.size := GxR.passing_true _
    rw [e0] at W5
    rw [List.length_range, lenI] at W5
    have oldA : ∀ b o, s1.heap.get? b = some o → b ∉ h3.objs.size :: [s1.heap.objs.size] := fun b o e hb => by
      have l0 := Heap.lt_size e
      rcases List.mem_cons.mp hb with z | z
      · rw [z] at l0
        exact absurd (Nat.lt_of_lt_of_le l0 (Nat.le_of_succ_le hge2)) (Nat.lt_irrefl _)
      · have z2 : b = s1.heap.objs.size := by simpa using z
        exact Nat.ne_of_lt l0 z2
    have W6 := W5.in4_1
    rw [show ns.length = (ns.map (inR n)).length from (List.length_map _).symm] at W6
    rw [lenI, show ns.length = (ns.map (inR n)).length from (List.length_map _).symm] at hat
    refine hQ ns n H1 g _ hR ⟨_, _, _, _, _, fun j => (ns.map (inR n)).getD j false, W6, hat, ?_, fun j b hb => by show (ns.map (inR n)).getD j false = b; rw [List.getD_eq_getElem?_getD, hb]; rfl, fun s' hm => ?_⟩
    · intro j yv sj Qj Ej hy hQj
      obtain ⟨i', hij, z, hz', rfl⟩ := hy
      obtain ⟨hj, ej⟩ := List.getElem?_eq_some_iff.mp hij
      rw [List.getElem_range] at ej
      subst ej
      refine wpAny_truthy_bool ?_
      have eb : (ns.map (inR n)).getD j false = inR n z := by
        rw [List.getD_eq_getElem?_getD, List.getElem?_map, hz']
        rfl
      have hQj' : Qj ((ns.map (inR n)).getD j false) sj := hQj
      rw [eb] at hQj'
      exact hQj'
    · have J := inv_tab (more := more) (h' := s'.heap) (g' := s'.gens) (d' := s'.drawn) (t' := s'.toks) I1 hP (fun b o nb e => hm.heap b o (oldA b o e) (hk5 b o (keep3 b o nb e))) (hm.heap P _ (oldA P _ atP) (hk5 P _ hP3)) (AllBare.movedS (I1.bare.push hbare) hm)
      rw [sh_eta s1 s' hm.os] at J
      exact ⟨upd H1 P (.tbl (ps ++ more)), ⟨⟨ps ++ more, upd_same, ht3⟩, fun b hb => upd_ne hb⟩, J⟩
/-- all(x in range(y) for x in e): e a tuple of ints, y an int in slot i -/
def tAllR (K : PySem.W.Frag) (P : Addr) (i : Nat) (te : TE) : TE := fun σ H Q => te σ H fun v H1 => ∃ (a : Addr) (ns : List Int) (n : Int), v = .ref a ∧ SqT K H1 a (ns.map V.int) ∧ GxR.TabG H1 P ∧ σ[i]? = some (some (.int n)) ∧
  ∀ H2, GxR.Tabbed P H1 H2 → Q (.bl (ns.all (inR n))) H2
theorem all_tr : ∀ (bs : List Bool) (tr : Nat → Bool), (∀ j b, bs[j]? = some b → tr j = b) → (List.range bs.length).all tr = bs.all id := by
  intro bs tr h
  rw [Bool.eq_iff_iff, List.all_eq_true, List.all_eq_true]
  constructor
  · intro g b hb
    obtain ⟨j, hj, e⟩ := List.getElem_of_mem hb
    have q := g j (List.mem_range.mpr hj)
    rw [h j b (by rw [List.getElem?_eq_getElem hj, e])] at q
    exact q
  · intro g j hj
    have hj' := List.mem_range.mp hj
    rw [h j bs[j] (List.getElem?_eq_getElem hj')]
    exact g _ (List.getElem_mem hj')
theorem pe_allR {c P : Addr} {iter : Expr} {x y : Str} {px p pos gpos p1 p2 p3 p4 p5 : Pos} {scope : Scope} {te : TE} {k i : Nat}
    (hr : Room k X.A) (hg : Gl X "all") (hm : X.mg "all" = none) (TB : GxR.TabB X.base X.mg c P) (hcode : X.env.code = .ref c) (S : GxR.GenS X.env scope x) (hi : PE X iter te) (hy : X.N[i]? = some y) (vy : X.env.kindOf y = some .cell) (fy : (y, NameKind.free) ∈ scope.names) (ly : scope.names.lookup y = some .free)
    (lr : scope.names.lookup ("range" : Str) = some .globalImplicit) (nr : X.mg "range" = none) (dx : (x == ("__debug__" : Str)) = false) (dy : (y == ("__debug__" : Str)) = false) (cy : (y == ("__classdict__" : Str)) = false)
    (hs : ∀ v, genFold iter X.env v = pure v)
    (he : starEach [.GeneratorExp (eltR x y p1 p2 p3 p4 p5) [⟨.Name x px, iter, [], 0⟩] scope gpos] X.env = (false, eval (.GeneratorExp (eltR x y p1 p2 p3 p4 p5) [⟨.Name x px, iter, [], 0⟩] scope gpos) X.env) :: starEach [] X.env := by rfl) :
    PE X (.Call (.Name "all" p) [.GeneratorExp (eltR x y p1 p2 p3 p4 p5) [⟨.Name x px, iter, [], 0⟩] scope gpos] [] pos) (tAllR X.K P i te) := by
  refine ⟨fun pins s σ H Q I h => wpAny_Call_Name_kw (ld_blt I hg hm (by decide +kernel) (PyProof.Rows.callWith_builtin1 (id := "all") ?_ he (by rfl)))⟩
  rw [he]
  show wpAny _ _ (spliced (_ :: backTo pos (starEach [] X.env))) _ _ s
  refine Calls.spliced_cons (gen_range (R := fun ns n H1 => ∀ H2, GxR.Tabbed P H1 H2 → Q (.bl (ns.all (inR n))) H2) hr TB hcode S hi hy vy fy ly lr nr dx dy cy hs I h fun ns n H1 g s5 hR ⟨fp, wr, G, F, St', tr, W, hst, htr, hb, hI⟩ => Calls.spliced_nil ?_)
  refine call_all_walkS (W.self 0 _ _ _ hst ⟨g, fp, wr, G, _, F, St', _, rfl, W, hst, htr, fun s' hmv => ?_⟩)
  obtain ⟨H2, hT, J⟩ := hI s' hmv
  refine ⟨.bl _, H2, J, rfl, ?_⟩
  rw [all_tr _ tr hb, List.all_map]
  exact hR H2 hT
end
/-! ### a def of the text whose code object is known -/
structure FunT (K : PySem.W.Frag) (x qual : Str) (st : Stmt) (f : Addr) (fd : FuncData) (c : Addr) : Prop where
  ex : ∃ (oc : Value) (od : Option Addr) (kV doc pm : Value) (an : Option Addr) (ct : Value) (osl : Array (Option Value)),
    fd = PySem.W.fnOf x qual (defArgs st) (defBody st) (defScope st) .none kV doc pm an (.ref c) ct ∧ K.lookup f = some ⟨oc, od, .func fd, osl⟩ ∧ PySem.W.codeIn K (.ref c) qual = true
  kp : PySem.W.keepIn K (.ref f) = true
/-- x not in range(..) -/
theorem op_notIn_rng {X : Cx} : OpR X (compareOp .NotIn) (fun x y H Q => ∃ i a lo hi, x = V.int i ∧ y = V.ref a ∧ H a = some (.rng lo hi) ∧ Q (.bl (!decide (lo ≤ i ∧ i < hi))) H) := by
  intro pins s σ H x y v u Q I rx ry ⟨i, a, lo, hi, ex, ey, ha, q⟩
  subst ex ey
  obtain ⟨k, rfl⟩ := rx
  have e2 : u = Value.ref a := ry
  subst e2
  obtain ⟨t1, t2, t3, ho⟩ := I.hok a _ ha
  show wpAny _ _ (do return Value.bool (!(← contains (Value.ref a) (Value.int i k)))) _ _ s
  refine wpAny_bind (wpAny_contains_slot (T := "range") ⟨_, ho, rfl⟩ F.slot_range_contains (call_meets F.slot_range_contains ⟨_, ho, rfl⟩ F.entry_range_contains (F.args_range_contains_2 _ _) (q_contains a lo hi i t1 t2 t3 k) ⟨ho, wpAny_truthy_bool ?_⟩))
  refine wpAny_pure ⟨.bl _, H, I, rfl, ?_⟩
  rw [place1]
  exact q
section
variable {P : Program} {w : World} {K : PySem.W.Frag} {mg : Str → Option Value} {base : Heap}
/-! ### _is_move -/
theorem scIsMove : FnScope ["many", "move", "weight", "whither"] ["many", "move"] (defScope sIsMove) := ⟨rfl, rfl, rfl, by decide +kernel, rfl, by decide +kernel, by decide +kernel⟩
def isMv (many : Int) (m : Mv) : Bool := decide (1 ≤ m.1 ∧ m.1 < 100) && decide ((m.2.length : Int) = many) && m.2.all (inR many)
def spIsMove (T : Addr) : Sp := fun vs H Q _ => ∃ (many : Int) (v : V) (m : Mv), vs = [.int many, v] ∧ MoveAt H v m ∧ GxR.TabG H T ∧ ∀ H', Gr T H H' → GxR.TabG H' T → Q (.bl (isMv many m)) H'
/-- the program's names that a chain leans on -/
structure ChTxt (K : PySem.W.Frag) (mg : Str → Option Value) (fM cM tM : Addr) (fdM : FuncData) (C fI : Addr) (fdI : FuncData) : Prop where
  FM : FunT K "_is_move" "_is_move" sIsMove fM fdM cM
  bM : Binds K fdM ["many", "move"] []
  gM : mg "_is_move" = some (.ref fM)
  FI : Fun K "__init__" "Chain.__init__" (inClass cChain 0) fI fdI
  bI : Binds K fdI ["self", "many", "moves"] []
  mC : Mk K C fI
  cl : Cls K C
  nM : NoAttr K C "_many"
  nV : NoAttr K C "_moves"
  gC : mg "Chain" = some (.ref C)
  gP : ∃ t, mg "MOST_PLACES" = some (.int 6 t)
  gV : ∃ t, mg "MOST_MOVES" = some (.int 8 t)
  gW : ∃ t, mg "MOST_WEIGHT" = some (.int 99 t)
  ml : mg "len" = none
  mi : mg "isinstance" = none
  mt : mg "tuple" = none
  mr : mg "range" = none
  ma : mg "all" = none
  me : mg "enumerate" = none
  mL : mg "list" = none
section
variable {fM cM tM : Addr} {fdM : FuncData} {C fI : Addr} {fdI : FuncData}
theorem genS_move {L f : Addr} {cdv : Value} {scope : Scope} (hs : scope.names = [((".0" : Str), .local), (("place" : Str), .local), (("many" : Str), .free), (("range" : Str), .globalImplicit)]) (hk : scope.kind = .function) (hc : scope.isCoroutine = false) (ha : (envOfC "_is_move" (defScope sIsMove) L f cdv).cells.lookup ("many" : Str) ≠ none) :
    GxR.GenS (envOfC "_is_move" (defScope sIsMove) L f cdv) scope "place" := by
  refine ⟨hk, hc, ?_, ?_, ?_, ?_⟩
  · rw [hs]
    decide +kernel
  · rw [hs]
    decide +kernel
  · rw [hs]
    decide +kernel
  · intro y hy hf
    rw [hs] at hy
    have e : y.1 = ("many" : Str) := by
      rcases List.mem_cons.mp hy with e | hy
      · rw [e] at hf
        cases hf
      rcases List.mem_cons.mp hy with e | hy
      · rw [e] at hf
        cases hf
      rcases List.mem_cons.mp hy with e | hy
      · rw [e]
      rcases List.mem_cons.mp hy with e | hy
      · rw [e] at hf
        cases hf
      · cases hy
    rw [e]
    cases q : (envOfC "_is_move" (defScope sIsMove) L f cdv).cells.lookup ("many" : Str) with
    | none => exact absurd q ha
    | some c => exact ⟨c, rfl⟩
theorem ok_ismove (T : ChTxt K mg fM cM tM fdM C fI fdI) (TB : GxR.TabB base mg cM tM) : FnOk P w K mg base CX0 1 fM fdM ["many", "move"] (spIsMove tM) := by
  obtain ⟨oc, od, kV, doc, pm, an, ct, osl, efd, lk, hcd⟩ := T.FM.ex
  subst efd
  obtain ⟨tw, gW⟩ := T.gW
  refine fn_of (N := ["many", "move", "weight", "whither"]) lk hcd scIsMove (fun vs H Q E h => ?_) (fun A outer s H vs Q E hr h => ?_)
  · obtain ⟨many, v, m, rfl, _⟩ := h
    rfl
  · obtain ⟨many, v, m, rfl, ⟨a, b, rfl, ha, hb⟩, hTab, q⟩ := h
    refine ⟨_, pss_cons (ps_if (PW.pt (pw_or (pt_not (pt_val (pe_callB RZ.call_isTy (by rfl) T.mi (by decide +kernel) (pa_cons (pv 1) (pa_cons (pe_bltn (v := .ty "tuple") (by rfl) T.mt (by decide +kernel) rfl) pa_nil)))))
          (pw_or1 (pt_cmpR op_ne (pe_callB call_len_seq (by rfl) T.ml PySem.boot_len (pa_cons (pv 1) pa_nil)) pe_int (nomark _))))) (pss_one (ps_ret pe_bl)) pss_nil)
      (pss_cons (ps_asg (pv 1) (pg_tup rfl (pgs_cons (pg_name (i := 2) scIsMove.nd rfl (.inl rfl)) (pgs_cons (pg_name (i := 3) scIsMove.nd rfl (.inl rfl)) pgs_nil))))
      (pss_cons (ps_if (pt_cmpR op_notIn_rng (pv 2) (pe_callTy cr_range2 (by rfl) T.mr (by decide +kernel) (pa_cons pe_int (pa_cons (pe_op op_add (pe_glob (v := .int 99) (by rfl) gW ⟨_, rfl⟩) pe_int) pa_nil))) rfl) (pss_one (ps_ret pe_bl)) pss_nil)
      (pss_cons (ps_if (PW.pt (pw_or (pt_not (pt_val (pe_callB RZ.call_isTy (by rfl) T.mi (by decide +kernel) (pa_cons (pv 3) (pa_cons (pe_bltn (v := .ty "tuple") (by rfl) T.mt (by decide +kernel) rfl) pa_nil)))))
          (pw_or1 (pt_cmpR op_ne (pe_callB call_len_seq (by rfl) T.ml PySem.boot_len (pa_cons (pv 3) pa_nil)) (pv 0) (nomark _))))) (pss_one (ps_ret pe_bl)) pss_nil)
      (pss_one (ps_ret (pe_allR (k := 0) (x := "place") (y := "many") (i := 0) hr (by rfl) T.ma TB rfl (genS_move (by rfl) rfl rfl ?hcell) (pv 3) rfl rfl (by decide +kernel) (by decide +kernel) (by decide +kernel) T.mr (by decide) (by decide) (by decide) (fun _ => rfl) (by rfl))))))), ?_⟩
    case hcell =>
      intro z
      have q : ((envOfC "_is_move" (defScope sIsMove) s.heap.objs.size fM (.ref cM)).cells.lookup ("many" : Str)).isSome = true := PySem.W.cellsFrom_some _ _ _ (.inl (by decide +kernel))
      rw [z] at q
      cases q
    have neT : ∀ {p : Addr}, H p = none → p ≠ tM := fun np z => by
      obtain ⟨ps, e, _⟩ := hTab
      rw [z, e] at np
      cases np
    refine ⟨.ref a, rfl, .ref a, "tuple", rfl, .tup ha, true, rfl, ?_⟩
    refine ⟨.ref a, rfl, a, _, rfl, .inr (SqT.of ha), rfl, _, rfl, iteNS rfl ?_⟩
    refine ⟨.ref a, rfl, a, _, rfl, SqT.of ha, rfl, .int m.1, [.ref b], rfl, .ref b, [], rfl, rfl, ?_⟩
    refine ⟨.int m.1, rfl, 99, 1, rfl, rfl, 1, 100, rfl, fun r nr => ⟨m.1, r, 1, 100, rfl, rfl, upd_same, _, rfl, ?_⟩⟩
    have g1 : Same H (upd H r (.rng 1 100)) := same_new nr
    have tab1 : GxR.TabG (upd H r (.rng 1 100)) tM := by
      obtain ⟨ps, e, t⟩ := hTab
      exact ⟨ps, g1 _ _ e, t⟩
    have hb1 := g1 _ _ hb
    by_cases h1 : 1 ≤ m.1 ∧ m.1 < 100
    · refine iteNS h1 ?_
      refine ⟨.ref b, rfl, .ref b, "tuple", rfl, .tup hb1, true, rfl, ?_⟩
      refine ⟨.ref b, rfl, b, _, rfl, .inr (SqT.of hb1), .int many, rfl, rfl, _, rfl, ?_⟩
      by_cases h2 : (((m.2.map V.int).length : Nat) : Int) = many
      · refine iteNS (congrArg V.int h2) ?_
        refine ⟨.ref b, rfl, b, m.2, many, rfl, SqT.of hb1, tab1, rfl, fun H2 ⟨t2, k2⟩ => ?_⟩
        have e : isMv many m = m.2.all (inR many) := by
          unfold isMv
          rw [List.length_map] at h2
          rw [decide_eq_true h1, decide_eq_true h2, Bool.true_and, Bool.true_and]
        have q2 := q H2 (fun x o nx ex => by rw [k2 x nx]; exact g1 _ _ ex) t2
        rw [e] at q2
        exact q2
      · have e : isMv many m = false := by
          unfold isMv
          rw [List.length_map] at h2
          rw [decide_eq_false h2, Bool.and_false, Bool.false_and]
        have q2 := q _ (Gr.of_same g1) tab1
        rw [e] at q2
        have h3 : ¬ V.int (((m.2.map V.int).length : Nat) : Int) = V.int many := fun z => h2 (V.int.inj z)
        show if (!decide (V.int (((m.2.map V.int).length : Nat) : Int) = V.int many)) = true then _ else _
        rw [decide_eq_false h3]
        exact q2
    · have e : isMv many m = false := by
        unfold isMv
        rw [decide_eq_false h1, Bool.false_and, Bool.false_and]
      have q2 := q _ (Gr.of_same g1) tab1
      rw [e] at q2
      rw [decide_eq_false h1]
      exact q2
end
end
def rLenSq (K : PySem.W.Frag) : List V → Hp → VK → Prop := fun xs H Q => ∃ p ys, xs = [V.ref p] ∧ (SqL K H p ys ∨ SqT K H p ys) ∧ Q (.int ((ys.length : Nat) : Int)) H
section
variable {P : Program} {w : World} {K : PySem.W.Frag} {mg : Str → Option Value} {base : Heap}
variable {fM cM tM : Addr} {fdM : FuncData} {C fI : Addr} {fdI : FuncData}
/-! ### class Chain -/
theorem scInit : FnScope ["self", "many", "moves", "number", "move"] ["self", "many", "moves"] (defScope (inClass cChain 0)) := ⟨rfl, rfl, rfl, by decide +kernel, rfl, by decide +kernel, by decide +kernel⟩
def chF (many : Int) (a : Addr) : List (Str × V) := putF "_moves" (.ref a) (putF "_many" (.int many) [])
theorem ne_mm : ¬ (("_many" : Str) = "_moves") := by decide +kernel
theorem chF_many (many : Int) (a : Addr) : (chF many a).lookup ("_many" : Str) = some (.int many) := by
  unfold chF
  rw [lookup_putF, if_neg ne_mm, lookup_putF, if_pos rfl]
theorem chF_moves (many : Int) (a : Addr) : (chF many a).lookup ("_moves" : Str) = some (.ref a) := by
  unfold chF
  rw [lookup_putF, if_pos rfl]
theorem chF_no (many : Int) (a : Addr) {m : Str} (h1 : ¬ m = "_many") (h2 : ¬ m = "_moves") : (chF many a).lookup m = none := by
  unfold chF
  rw [lookup_putF, if_neg h2, lookup_putF, if_neg h1]
  all_goals rfl
def ChainAt (C : Addr) (H : Hp) (x : Addr) (many : Nat) (ms : List Mv) : Prop := ∃ dx a ws, H x = some (.ins C dx (chF (many : Int) a)) ∧ H a = some (.lst ws) ∧ MovesAt H ws ms
theorem ChainAt.same {C : Addr} {H H' : Hp} {x : Addr} {many : Nat} {ms : List Mv} (s : Same H H') (h : ChainAt C H x many ms) : ChainAt C H' x many ms := by
  obtain ⟨dx, a, ws, h1, h2, h3⟩ := h
  exact ⟨dx, a, ws, s _ _ h1, s _ _ h2, h3.same (Same.tups s)⟩
theorem moves_no_dl {H : Hp} {ws : List V} {ms : List Mv} (h : MovesAt H ws ms) (s0 : Int) (l : Addr) (k big : Int) : HO.lst ws ≠ .lst (dl s0 l k big) := by
  intro z
  injection z with z
  subst z
  cases h with
  | cons a _ =>
    obtain ⟨_, _, e, _⟩ := a
    cases e
theorem ChainAt.gr {C d l : Addr} {ns : List Int} {H H' : Hp} {x : Addr} {many : Nat} {ms : List Mv} (hd : Dc K l ns H d) (s : Gr d H H') (h : ChainAt C H x many ms) : ChainAt C H' x many ms := by
  obtain ⟨dx, a, ws, h1, h2, h3⟩ := h
  exact ⟨dx, a, ws, s _ _ (hd.ne_of h1 fun _ _ _ _ z => nomatch z) h1, s _ _ (hd.ne_of h2 (moves_no_dl h3)) h2, h3.same (s.tups hd)⟩
/-- all that is tracked, but at x and t, is as it was -/
def Gr2 (x t : Addr) (H H' : Hp) : Prop := ∀ b o, b ≠ x → b ≠ t → H b = some o → H' b = some o
/-- a chain that has just been made: its list of moves is its own -/
def ChainNew (C : Addr) (H H' : Hp) (x : Addr) (many : Nat) (ms : List Mv) : Prop := ∃ dx a ws, H' x = some (.ins C dx (chF (many : Int) a)) ∧ H' a = some (.lst ws) ∧ MovesAt H' ws ms ∧ H a = none
theorem ChainNew.at {C : Addr} {H H' : Hp} {x : Addr} {many : Nat} {ms : List Mv} (h : ChainNew C H H' x many ms) : ChainAt C H' x many ms := by
  obtain ⟨dx, a, ws, h1, h2, h3, _⟩ := h
  exact ⟨dx, a, ws, h1, h2, h3⟩
def spInitG (C T : Addr) : Sp := fun vs H Q _ => ∃ (x dx l : Addr) (many : Nat) (ws : List V) (ms : List Mv), vs = [.ref x, .int (many : Int), .ref l] ∧ H x = some (.ins C dx []) ∧ H l = some (.lst ws) ∧ MovesAt H ws ms ∧ Good many ms ∧ GxR.TabG H T ∧
  ∀ H', ChainNew C H H' x many ms → Gr2 x T H H' → GxR.TabG H' T → Q .non H'
theorem isMv_good {many : Nat} {m : Mv} (h : GoodMv many m) : isMv (many : Int) m = true := by
  obtain ⟨h1, h2, h3, h4⟩ := h
  unfold isMv
  rw [decide_eq_true (show 1 ≤ m.1 ∧ m.1 < 100 from ⟨h1, by omega⟩), decide_eq_true (show (m.2.length : Int) = (many : Int) by rw [h3]), Bool.true_and, Bool.true_and, List.all_eq_true]
  intro x hx
  unfold inR
  exact decide_eq_true (h4 x hx)
theorem ok_initG (T : ChTxt K mg fM cM tM fdM C fI fdI) (TB : GxR.TabB base mg cM tM) : FnOk P w K mg base CX0 2 fI fdI ["self", "many", "moves"] (spInitG C tM) := by
  have GM : FnOk P w K mg base CX0 1 fM fdM ["many", "move"] (spIsMove tM) := ok_ismove T TB
  obtain ⟨tp, gP⟩ := T.gP
  obtain ⟨tv, gV⟩ := T.gV
  refine T.FI.ok scInit (fun vs H Q E h => ?_) (fun cdv A outer s H vs Q E hr h => ?_)
  · obtain ⟨x, dx, l, many, ws, ms, rfl, _⟩ := h
    rfl
  · obtain ⟨x, dx, l, many, ws, ms, rfl, hx, hl, hM, G, hTab, q⟩ := h
    have lenW := hM.length
    refine ⟨_, pss_cons (ps_if (pt_not (pt_chain op_le op_le pe_int (pv 1) (pe_glob (v := .int 6) (by rfl) gP ⟨_, rfl⟩))) pss_never pss_nil)
      (pss_cons (ps_if (pt_not (pt_chain op_le op_le pe_int (pe_callB call_len_seq (by rfl) T.ml PySem.boot_len (pa_cons (pv 2) pa_nil)) (pe_glob (v := .int 8) (by rfl) gV ⟨_, rfl⟩))) pss_never pss_nil)
      (pss_cons (ps_for PassesOwn.never rfl (pi_enum (by rfl) T.me (pa_cons (pv 2) pa_nil)) (pg_tup rfl (pgs_cons (pg_name (i := 3) scInit.nd rfl (.inl rfl)) (pgs_cons (pg_name (i := 4) scInit.nd rfl (.inl rfl)) pgs_nil)))
          (pss_one (ps_if (pt_not (pt_val (pe_call GM hr (by rfl) T.gM T.FM.kp T.bM .nil pass0 (pa_cons (pv 1) (pa_cons (pv 4) pa_nil))))) pss_never pss_nil)))
      (pss_cons (ps_fld (pv 0) (pv 1) rfl)
      (pss_one (ps_fld (pv 0) (pe_callTy call_list_of (by rfl) T.mL (by decide +kernel) (pa_cons (pv 2) pa_nil)) rfl))))), ?_⟩
    have G1 := G.m1
    have G2 := G.m6
    have G3 := G.l1
    have G4 := G.l8
    refine ⟨.int (many : Int), rfl, 1, (many : Int), rfl, rfl, _, rfl, ifD (by omega) ⟨_, _, rfl, rfl, _, rfl, iteNS (by omega) ?_⟩⟩
    have hS : SqL K H l ws := SqL.of hl
    refine ⟨.ref l, rfl, l, ws, rfl, .inl hS, 1, _, rfl, rfl, _, rfl, ifD (by omega) ⟨_, _, rfl, rfl, _, rfl, iteNS (by omega) ?_⟩⟩
    -- for number, move in enumerate(moves)
    have nxT : x ≠ tM := fun z => by
      obtain ⟨ps, e, _⟩ := hTab
      rw [z, e] at hx
      cases hx
    have nlT : l ≠ tM := fun z => by
      obtain ⟨ps, e, _⟩ := hTab
      rw [z, e] at hl
      cases hl
    have nxl : x ≠ l := ne_of hx hl (fun z => nomatch z)
    have tupK : ∀ {H'}, Gr tM H H' → ∀ b xs, H b = some (.tup xs) → H' b = some (.tup xs) := fun {H'} g b xs e => g b _ (fun z => by
      obtain ⟨ps, e2, _⟩ := hTab
      rw [z, e2] at e
      cases e) e
    refine ⟨.ref l, rfl, l, ws, rfl, hS, for_it (walk_enum (K := K) (a := l) (xs := ws)) (fun i σ H' => ∃ y3 y4, σ = [some (.ref x), some (.int (many : Int)), some (.ref l), y3, y4] ∧ Gr tM H H' ∧ GxR.TabG H' tM)
      ⟨none, none, rfl, Gr.refl _ _, hTab⟩ (fun i σ H' hi ⟨y3, y4, e, g, t⟩ => SqL.of (g l _ nlT hl)) ?_ ?_⟩
    · rintro i z σ H1 H2 hi ⟨y3, y4, rfl, g1, t1⟩ ⟨Tp, u, v, rfl, nT, rfl, eu, ev⟩
      have g2 : Gr tM H (upd H1 Tp (.tup [u, v])) := g1.new nT
      have t2 : GxR.TabG (upd H1 Tp (.tup [u, v])) tM := by
        obtain ⟨ps, e, t⟩ := t1
        exact ⟨ps, (same_new nT) _ _ e, t⟩
      refine ⟨Tp, [u, v], rfl, SqT.of upd_same, rfl, u, [v], rfl, v, [], rfl, rfl, ?_⟩
      obtain ⟨m, em, hm⟩ := hM.get' ev
      have hgood := G.mv m (List.mem_of_getElem? em)
      have hm2 : MoveAt (upd H1 Tp (.tup [u, v])) v m := hm.same (tupK g2)
      refine ⟨.int (many : Int), rfl, v, rfl, (many : Int), v, m, rfl, hm2, t2, fun H3 g3 t3 => ?_⟩
      rw [isMv_good hgood]
      refine ⟨true, rfl, ?_⟩
      exact ⟨some u, some v, rfl, g2.trans g3, t3⟩
    · rintro σ H1 ⟨y3, y4, rfl, g1, t1⟩
      have hx1 := g1 x _ nxT hx
      have hl1 := g1 l _ nlT hl
      refine ⟨.int (many : Int), rfl, .ref x, rfl, x, C, dx, [], rfl, hx1, T.cl, T.nM, (by show 0 < 1000; decide), ?_⟩
      have hx2 : (upd H1 x (.ins C dx (putF "_many" (.int (many : Int)) []))) x = some (.ins C dx (putF "_many" (.int (many : Int)) [])) := upd_same
      have hl2 : (upd H1 x (.ins C dx (putF "_many" (.int (many : Int)) []))) l = some (.lst ws) := by
        rw [upd_ne (Ne.symm nxl)]
        exact hl1
      refine ⟨.ref l, rfl, l, ws, rfl, .inl (SqL.of hl2), fun a na => ?_⟩
      have nxa : x ≠ a := ne_of_none hx2 na
      refine ⟨.ref x, rfl, x, C, dx, _, rfl, (by rw [upd_ne nxa]; exact hx2), T.cl, T.nV, (by show 1 < 1000; decide), ?_⟩
      have naH1 : H1 a = none := by
        rw [upd_ne (Ne.symm nxa)] at na
        exact na
      have keepT : ∀ b o, b ≠ x → H1 b = some o → (upd (upd (upd H1 x (.ins C dx (putF "_many" (.int (many : Int)) []))) a (.lst ws)) x (.ins C dx (chF (many : Int) a))) b = some o := fun b o nb e => by
        rw [upd_ne nb, upd_ne (ne_of_none e naH1), upd_ne nb]
        exact e
      have ntx : ∀ xs, H1 x ≠ some (.tup xs) := fun xs z => by
        rw [hx1] at z
        cases z
      have naH : H a = none := by
        cases h : H a with
        | none => rfl
        | some o =>
          have nat : a ≠ tM := fun z => by
            obtain ⟨ps, e, _⟩ := t1
            rw [z, e] at naH1
            cases naH1
          rw [g1 a o nat h] at naH1
          cases naH1
      refine q _ ⟨dx, a, ws, upd_same, ?_, hM.same (fun b xs e => ?_), naH⟩ (fun b o nb nt e => keepT b o nb (g1 b o nt e)) ?_
      · rw [upd_ne (Ne.symm nxa)]
        exact upd_same
      · have e1 := tupK g1 b xs e
        refine keepT b _ (fun z => ?_) e1
        rw [z] at e1
        exact ntx xs e1
      · obtain ⟨ps, e, t⟩ := t1
        exact ⟨ps, keepT _ _ (Ne.symm nxT) e, t⟩
/-! ### places, told -/
theorem scPlaces : FnScope ["self"] ["self"] (defScope (inClass cChain 1)) := ⟨rfl, rfl, rfl, by decide +kernel, rfl, by decide +kernel, by decide +kernel⟩
theorem scTold : FnScope ["self"] ["self"] (defScope (inClass cChain 2)) := ⟨rfl, rfl, rfl, by decide +kernel, rfl, by decide +kernel, by decide +kernel⟩
def spPlaces (C : Addr) : Sp := fun vs H Q _ => ∃ (x : Addr) (many : Nat) (ms : List Mv), vs = [.ref x] ∧ ChainAt C H x many ms ∧ Q (.int (many : Int)) H
def spTold (C : Addr) : Sp := fun vs H Q _ => ∃ (x : Addr) (many : Nat) (ms : List Mv), vs = [.ref x] ∧ ChainAt C H x many ms ∧ ∀ (l : Addr) (ws : List V), H l = none → MovesAt (upd H l (.lst ws)) ws ms → Q (.ref l) (upd H l (.lst ws))
theorem ok_places {f : Addr} {fd : FuncData} {k : Nat} (F : Fun K "places" "Chain.places" (inClass cChain 1) f fd) (cl : Cls K C) (nM : NoAttr K C "_many") : FnOk P w K mg base CX0 (k + 1) f fd ["self"] (spPlaces C) := by
  refine F.ok scPlaces (fun vs H Q E h => ?_) (fun cdv A outer s H vs Q E hr h => ?_)
  · obtain ⟨x, many, ms, rfl, _⟩ := h
    rfl
  · obtain ⟨x, many, ms, rfl, ⟨dx, a, ws, h1, h2, h3⟩, q⟩ := h
    exact ⟨_, pss_one (ps_ret (pe_fld (pv 0) rfl)), .ref x, rfl, x, C, dx, _, _, rfl, h1, cl, nM, chF_many _ _, q⟩
theorem ok_told {f : Addr} {fd : FuncData} {k : Nat} (F : Fun K "told" "Chain.told" (inClass cChain 2) f fd) (cl : Cls K C) (nV : NoAttr K C "_moves") (mL : mg "list" = none) : FnOk P w K mg base CX0 (k + 1) f fd ["self"] (spTold C) := by
  refine F.ok scTold (fun vs H Q E h => ?_) (fun cdv A outer s H vs Q E hr h => ?_)
  · obtain ⟨x, many, ms, rfl, _⟩ := h
    rfl
  · obtain ⟨x, many, ms, rfl, ⟨dx, a, ws, h1, h2, h3⟩, q⟩ := h
    exact ⟨_, pss_one (ps_ret (pe_callTy call_list_of (by rfl) mL (by decide +kernel) (pa_cons (pe_fld (pv 0) rfl) pa_nil))), .ref x, rfl, x, C, dx, _, _, rfl, h1, cl, nV, chF_moves _ _, a, ws, rfl, .inl (SqL.of h2), fun l nl => q l ws nl (h3.same (Same.tups (same_new nl)))⟩
end
section
variable {P : Program} {w : World} {K : PySem.W.Frag} {mg : Str → Option Value} {base : Heap}
variable {fM cM tM : Addr} {fdM : FuncData} {C fI : Addr} {fdI : FuncData}
/-! ### _law_made -/
theorem scMade : FnScope ["_law_told"] ["_law_told"] (defScope sMade) := ⟨rfl, rfl, rfl, by decide +kernel, rfl, by decide +kernel, by decide +kernel⟩
def spMade (C T : Addr) : Sp := fun vs H Q _ => ∃ (t m : Addr) (many : Nat) (ws : List V) (ms : List Mv), vs = [.ref t] ∧ ToldAt H t m many ws ms ∧ Good many ms ∧ GxR.TabG H T ∧ ∀ H' x, ChainAt C H' x many ms → H x = none → Gr T H H' → GxR.TabG H' T → Q (.ref x) H'
theorem ok_made {f : Addr} {fd : FuncData} (F : Fun K "_law_made" "_law_made" sMade f fd) (T : ChTxt K mg fM cM tM fdM C fI fdI) (TB : GxR.TabB base mg cM tM) : FnOk P w K mg base CX0 4 f fd ["_law_told"] (spMade C tM) := by
  have GI : FnOk P w K mg base CX0 2 fI fdI ["self", "many", "moves"] (spInitG C tM) := ok_initG T TB
  refine F.ok scMade (fun vs H Q E h => ?_) (fun cdv A outer s H vs Q E hr h => ?_)
  · obtain ⟨t, m, many, ws, ms, rfl, _⟩ := h
    rfl
  · obtain ⟨t, m, many, ws, ms, rfl, ⟨h1, h2, h3⟩, G, ⟨ps, hT, htr⟩, q⟩ := h
    refine ⟨_, pss_one (ps_ret (pe_make T.mC GI hr (by rfl) T.gC T.bI .nil pass0 (pa_cons (pe_ix ix_tup (pv 0) pe_int (fun _ _ => rfl)) (pa_cons (pe_callTy call_list_of (by rfl) T.mL (by decide +kernel) (pa_cons (pe_ix ix_tup (pv 0) pe_int (fun _ _ => rfl)) pa_nil)) pa_nil)))), ?_⟩
    refine ⟨.ref t, rfl, t, _, 0, _, rfl, rfl, SqT.of h1, atI_nat (j := 0) rfl, .ref t, rfl, t, _, 1, _, rfl, rfl, SqT.of h1, atI_nat (j := 1) rfl, m, ws, rfl, .inl (SqL.of h2), fun l nl x dx nx ndx nxd => ?_⟩
    have s1 : Same H (upd H l (.lst ws)) := same_new nl
    have s2 : Same (upd H l (.lst ws)) (upd (upd H l (.lst ws)) dx (.own x)) := same_new ndx
    have nx' : (upd (upd H l (.lst ws)) dx (.own x)) x = none := by
      rw [upd_ne (Ne.symm nxd)]
      exact nx
    have s3 := same_new (o := .ins C dx []) nx'
    have s := (s1.trans s2).trans s3
    refine ⟨x, dx, l, many, ws, ms, rfl, upd_same, (s2.trans s3) _ _ upd_same, h3.same (Same.tups s), G, ⟨ps, s _ _ hT, htr⟩, fun H' hc g t' => ⟨rfl, ?_⟩⟩
    exact q H' x hc.at (s1.free nx) (fun b o nb e => g b o (ne_of_none (s1 _ _ e) nx) nb (s _ _ e)) t'
end
/-- a def of the module, named -/
structure Df (K : PySem.W.Frag) (mg : Str → Option Value) (x : Str) (st : Stmt) (ps : List Str) (f : Addr) (fd : FuncData) : Prop where
  F : Fun K x x st f fd
  b : Binds K fd ps []
  g : mg x = some (.ref f)
def spLaw (K : PySem.W.Frag) (T : Addr) : Sp := fun vs H Q _ => ∃ (a : Addr) (ns : List Int), vs = [.ref a] ∧ SqL K H a (ns.map V.int) ∧ ns.length ≤ 63 ∧ GxR.TabG H T ∧ ∀ H', Q (.bl true) H'
theorem Same.put {H H1 : Hp} {p : Addr} {o : HO} (s : Same H H1) (n : H p = none) : Same H (upd H1 p o) := fun b u e => by
  rw [upd_ne (ne_of_none e n)]
  exact s b u e
theorem ToldAt.same {H H' : Hp} {t m : Addr} {many : Nat} {ws : List V} {ms : List Mv} (s : Same H H') (h : ToldAt H t m many ws ms) : ToldAt H' t m many ws ms := ⟨s _ _ h.1, s _ _ h.2.1, h.2.2.same (Same.tups s)⟩
theorem ToldAt.gr {K : PySem.W.Frag} {d l : Addr} {ns : List Int} {H H' : Hp} {t m : Addr} {many : Nat} {ws : List V} {ms : List Mv} (hd : Dc K l ns H d) (g : Gr d H H') (h : ToldAt H t m many ws ms) : ToldAt H' t m many ws ms :=
  ⟨g.tups hd _ _ h.1, g _ _ (hd.ne_of h.2.1 (moves_no_dl h.2.2)) h.2.1, h.2.2.same (g.tups hd)⟩
/-- a table stands while the dice turns -/
theorem tab_gr {K : PySem.W.Frag} {d l : Addr} {ns : List Int} {H H' : Hp} {T : Addr} (hd : Dc K l ns H d) (g : Gr d H H') (h : GxR.TabG H T) : GxR.TabG H' T := by
  obtain ⟨ps, e, t⟩ := h
  exact ⟨ps, g _ _ (hd.ne_of e fun _ _ _ _ z => nomatch z) e, t⟩
theorem tab_same {H H' : Hp} {T : Addr} (s : Same H H') (h : GxR.TabG H T) : GxR.TabG H' T := by
  obtain ⟨ps, e, t⟩ := h
  exact ⟨ps, s _ _ e, t⟩
/-- what is no table stands while the table grows -/
theorem Gr.tab {T p : Addr} {H H' : Hp} {o : HO} (hT : GxR.TabG H T) (g : Gr T H H') (n : ∀ qs, o ≠ .tbl qs) (h : H p = some o) : H' p = some o := g p o (fun z => by
  obtain ⟨ps, e, _⟩ := hT
  rw [z, e] at h
  exact n ps (Option.some.inj h).symm) h
theorem ToldAt.tab {T t m : Addr} {H H' : Hp} {many : Nat} {ws : List V} {ms : List Mv} (hT : GxR.TabG H T) (g : Gr T H H') (h : ToldAt H t m many ws ms) : ToldAt H' t m many ws ms :=
  ⟨g.tab hT (fun _ z => nomatch z) h.1, g.tab hT (fun _ z => nomatch z) h.2.1, h.2.2.same fun _ _ e => g.tab hT (fun _ z => nomatch z) e⟩
theorem Dc.tabT {K : PySem.W.Frag} {T d l : Addr} {ns : List Int} {H H' : Hp} (hT : GxR.TabG H T) (g : Gr T H H') (h : Dc K l ns H d) : Dc K l ns H' d := by
  obtain ⟨s0, k, big, h1, h2, h3⟩ := h
  refine ⟨s0, k, big, g.tab hT (fun _ z => nomatch z) h1, ?_, h3⟩
  rcases h2 with (h | ⟨o, h⟩) | h
  · exact .inl (.inl (g.tab hT (fun _ z => nomatch z) h))
  · exact .inl (.inr ⟨o, g.tab hT (fun _ z => nomatch z) h⟩)
  · exact .inr h
theorem Gr.put {d : Addr} {H H1 : Hp} {p : Addr} {o : HO} (a : Gr d H H1) (h : H p = none) : Gr d H (upd H1 p o) := fun b u n e => by
  rw [upd_ne (ne_of_none e h)]
  exact a b u n e
theorem Gr.free {d : Addr} {H H1 : Hp} {p : Addr} (a : Gr d H H1) (n : H1 p = none) (h : p ≠ d) : H p = none := by
  cases e : H p with
  | none => rfl
  | some o =>
    rw [a p o h e] at n
    cases n
theorem paired_drop {α β : Type} {F : α → β → Prop} : ∀ {l₁ : List α} {l₂ : List β} (n : Nat), Paired F l₁ l₂ → Paired F (l₁.drop n) (l₂.drop n)
  | _, _, 0, h => h
  | _, _, _ + 1, .nil => .nil
  | _, _, n + 1, .cons _ t => paired_drop n t
theorem paired_take {α β : Type} {F : α → β → Prop} : ∀ {l₁ : List α} {l₂ : List β} (n : Nat), Paired F l₁ l₂ → Paired F (l₁.take n) (l₂.take n)
  | _, _, 0, _ => .nil
  | _, _, _ + 1, .nil => .nil
  | _, _, n + 1, .cons h t => .cons h (paired_take n t)
theorem paired_app {α β : Type} {F : α → β → Prop} : ∀ {l₁ : List α} {l₂ : List β} {k₁ : List α} {k₂ : List β}, Paired F l₁ l₂ → Paired F k₁ k₂ → Paired F (l₁ ++ k₁) (l₂ ++ k₂)
  | _, _, _, _, .nil, h => h
  | _, _, _, _, .cons q t, h => .cons q (paired_app t h)
theorem paired_rep {α β : Type} {F : α → β → Prop} {a : α} {b : β} (h : F a b) : ∀ n, Paired F (List.replicate n a) (List.replicate n b)
  | 0 => .nil
  | n + 1 => .cons h (paired_rep h n)
theorem filter_snoc {l : List Int} {i : Nat} {x : Int} {F : Int → Bool} (h : l[i]? = some x) : (l.take (i + 1)).filter F = (l.take i).filter F ++ (if F x = true then [x] else []) := by
  rw [List.take_add_one, h, List.filter_append]
  cases hk : F x with
  | true => simp [hk]
  | false => simp [hk]
theorem paired_get {α β : Type} {F : α → β → Prop} : ∀ {l₁ : List α} {l₂ : List β} {i : Nat} {b : β}, Paired F l₁ l₂ → l₂[i]? = some b → ∃ a, l₁[i]? = some a ∧ F a b
  | _, _, _, _, .nil, e => by simp at e
  | _, _, 0, _, .cons h _, e => by
    simp at e
    subst e
    exact ⟨_, rfl, h⟩
  | _, _, i + 1, b, .cons _ t, e => by
    obtain ⟨a, h1, h2⟩ := paired_get (i := i) (b := b) t (by simpa using e)
    exact ⟨a, by simpa using h1, h2⟩
theorem paired_end {α β : Type} {F : α → β → Prop} {a : α} {b : β} (h : F a b) : ∀ {l₁ : List α} {l₂ : List β}, Paired F l₁ l₂ → Paired F (l₁ ++ [a]) (l₂ ++ [b])
  | _, _, .nil => .cons h .nil
  | _, _, .cons q t => .cons q (paired_end h t)
theorem take_snoc {α : Type} {l : List α} {i : Nat} {x : α} (h : l[i]? = some x) : l.take (i + 1) = l.take i ++ [x] := by
  rw [List.take_add_one, h]
  rfl
theorem small1k {n : Nat} (h : n ≤ 1001) : n < sizeLine := Nat.lt_of_le_of_lt h (by decide)
section
variable {P : Program} {w : World} {K : PySem.W.Frag} {mg : Str → Option Value} {base : Heap} {C : Addr}
/-- range(n) as a value -/
theorem cr_range1 {X : Cx} : CallR X (.type "range") (fun vs H Q => ∃ n, vs = [V.int n] ∧ ∀ p, H p = none → Q (.ref p) (upd H p (.rng 0 n))) := by
  intro pins s σ H vs us Q I r ⟨n, ev, q⟩
  subst ev
  cases r with
  | cons rn rr =>
    cases rr
    obtain ⟨t, rfl⟩ := rn
    refine call_range_1 ⟨.ref s.heap.objs.size, upd H s.heap.objs.size (.rng 0 n), I.laid (t' := s.toks + 1 + 1) (fun b o e => Heap.get?_push_of_some _ e) (Nat.le_refl _) ?_, rfl, q _ (I.hok.fresh (Nat.le_refl _))⟩
    exact ⟨s.toks, t, s.toks + 1, Heap.get?_push_size _ rfl⟩
/-! ### steps_of -/
structure ChM (K : PySem.W.Frag) (C fP fT : Addr) (fdP fdT : FuncData) : Prop where
  FP : Fun K "places" "Chain.places" (inClass cChain 1) fP fdP
  bP : Binds K fdP ["self"] []
  hP : Meth K C "places" fP
  FT : Fun K "told" "Chain.told" (inClass cChain 2) fT fdT
  bT : Binds K fdT ["self"] []
  hT : Meth K C "told" fT
  cl : Cls K C
  nM : NoAttr K C "_many"
  nV : NoAttr K C "_moves"
theorem ch_no {many : Int} {a : Addr} : (chF many a).lookup ("places" : Str) = none := chF_no _ _ (by decide +kernel) (by decide +kernel)
theorem ch_noT {many : Int} {a : Addr} : (chF many a).lookup ("told" : Str) = none := chF_no _ _ (by decide +kernel) (by decide +kernel)
theorem rg_ends (n : Nat) : rgV 0 (n : Int) = ((List.range n).map fun (i : Nat) => (i : Int)).map V.int := by
  unfold rgV
  rw [List.map_map]
  have e : ((n : Int) - 0).toNat = n := by omega
  rw [e]
  refine List.map_congr_left fun i _ => ?_
  show V.int (0 + (i : Int)) = V.int (i : Int)
  rw [Int.zero_add]
end
/-! ### data that are compared -/
def Sh (n : Nat) (d : PyData) : Prop := d.canLay0 = true ∧ d.depth ≤ n
theorem canAll : ∀ {ds : List PyData}, (∀ d ∈ ds, d.canLay0 = true) → PyData.canLayAll0 ds = true
  | [], _ => rfl
  | d :: ds, h => by
    show (d.canLay0 && PyData.canLayAll0 ds) = true
    rw [h d List.mem_cons_self, canAll fun z hz => h z (List.mem_cons_of_mem _ hz)]
    rfl
theorem depAll {n : Nat} : ∀ {ds : List PyData}, (∀ d ∈ ds, d.depth ≤ n) → PyData.depthAll ds ≤ n
  | [], _ => Nat.zero_le _
  | d :: ds, h => by
    show max d.depth (PyData.depthAll ds) ≤ n
    exact Nat.max_le.mpr ⟨h d List.mem_cons_self, depAll fun z hz => h z (List.mem_cons_of_mem _ hz)⟩
theorem Sh.int {n : Nat} (i : Int) : Sh n (.int i) := ⟨rfl, Nat.zero_le _⟩
theorem Sh.bool {n : Nat} (b : Bool) : Sh n (.bool b) := ⟨rfl, Nat.zero_le _⟩
theorem Sh.none {n : Nat} : Sh n .none := ⟨rfl, Nat.zero_le _⟩
theorem Sh.tuple {n : Nat} {ds : List PyData} (h : ∀ d ∈ ds, Sh n d) : Sh (n + 1) (.tuple ds) := ⟨canAll fun d hd => (h d hd).1, Nat.succ_le_succ (depAll fun d hd => (h d hd).2)⟩
theorem Sh.list {n : Nat} {ds : List PyData} (h : ∀ d ∈ ds, Sh n d) : Sh (n + 1) (.list ds) := ⟨canAll fun d hd => (h d hd).1, Nat.succ_le_succ (depAll fun d hd => (h d hd).2)⟩
theorem Sh.mono {n m : Nat} {d : PyData} (h : Sh n d) (le : n ≤ m) : Sh m d := ⟨h.1, Nat.le_trans h.2 le⟩
theorem Sh.shaped {n : Nat} {d : PyData} (h : Sh n d) (le : n ≤ 64) : SeqAt.shaped d = true := by
  unfold SeqAt.shaped
  rw [h.1, decide_eq_true (Nat.le_trans h.2 le)]
  rfl
theorem Sh.refl {n : Nat} {d : PyData} (h : Sh n d) : PyData.eqv d d = true := SeqAt.eqv_refl d h.1
theorem Sh.ints {n : Nat} (ns : List Int) : ∀ d ∈ ns.map PyData.int, Sh n d := fun d hd => by
  obtain ⟨i, _, rfl⟩ := List.mem_map.mp hd
  exact .int i
def mvD (m : Mv) : PyData := .tuple [.int m.1, .tuple (m.2.map PyData.int)]
theorem Sh.mv (m : Mv) : Sh 2 (mvD m) := Sh.tuple fun d hd => by
  rcases List.mem_cons.mp hd with rfl | hd
  · exact .int _
  rcases List.mem_cons.mp hd with rfl | hd
  · exact Sh.tuple (Sh.ints _)
  · cases hd
theorem Sh.mvs (ms : List Mv) : Sh 3 (.list (ms.map mvD)) := Sh.list fun d hd => by
  obtain ⟨m, _, rfl⟩ := List.mem_map.mp hd
  exact .mv m
theorem dp_ints (K : PySem.W.Frag) (H : Hp) : ∀ ns : List Int, DpAll K H (ns.map V.int) (ns.map PyData.int)
  | [] => .nil
  | n :: ns => .cons (.int n) (dp_ints K H ns)
theorem dp_lst {K : PySem.W.Frag} {H : Hp} {a : Addr} {ns : List Int} (h : H a = some (.lst (ns.map V.int))) : Dp K H (.ref a) (.list (ns.map PyData.int)) := .lst (SqL.of h) (dp_ints K H ns)
theorem dp_tup {K : PySem.W.Frag} {H : Hp} {a : Addr} {ns : List Int} (h : H a = some (.tup (ns.map V.int))) : Dp K H (.ref a) (.tuple (ns.map PyData.int)) := .tup (SqT.of h) (dp_ints K H ns)
theorem dp_mv {K : PySem.W.Frag} {H : Hp} {v : V} {m : Mv} (h : MoveAt H v m) : Dp K H v (mvD m) := by
  obtain ⟨a, q, rfl, ha, hq⟩ := h
  exact .tup (SqT.of ha) (.cons (.int _) (.cons (dp_tup hq) .nil))
theorem dp_mvAll {K : PySem.W.Frag} {H : Hp} : ∀ {ws : List V} {ms : List Mv}, MovesAt H ws ms → DpAll K H ws (ms.map mvD)
  | _, _, .nil => .nil
  | _, _, .cons h t => .cons (dp_mv h) (dp_mvAll t)
theorem dp_mvs {K : PySem.W.Frag} {H : Hp} {a : Addr} {ws : List V} {ms : List Mv} (h : H a = some (.lst ws)) (hM : MovesAt H ws ms) : Dp K H (.ref a) (.list (ms.map mvD)) := .lst (SqL.of h) (dp_mvAll hM)
theorem hu64 {A : Around} {k : Nat} (hr : Room k A) : A.units + 64 < cLine := by
  have := hr.un
  omega
/-- d != d is False, d == d is True -/
theorem ne_same {K : PySem.W.Frag} {x y : V} {d : PyData} {n : Nat} {H : Hp} {Q : VK} (hx : Dp K H x d) (hy : Dp K H y d) (h : Sh n d) (le : n ≤ 64) (q : Q (.bl false) H) : rNeD K x y H Q := by
  refine ⟨d, d, hx, hy, h.shaped le, h.shaped le, ?_⟩
  rw [h.refl]
  exact q
theorem eq_same {K : PySem.W.Frag} {x y : V} {d : PyData} {n : Nat} {H : Hp} {Q : VK} (hx : Dp K H x d) (hy : Dp K H y d) (h : Sh n d) (le : n ≤ 64) (q : Q (.bl true) H) : rEqD K x y H Q := by
  refine ⟨d, d, hx, hy, h.shaped le, h.shaped le, ?_⟩
  rw [h.refl]
  exact q
/-! ### sorted(set(a list of ints)): a rule of our own -/
section
variable {prog : Program} {w : World} {A : Around} {E : Value → Shared → Prop} {s : Shared}
/-- a set as it is when it has just been made -/
def bareSet (w : World) : Obj :=
  { cls := .type "set", dict := none, data := .set #[] 0 (.fresh 0 0 (!w.params.followText "set-order")) }
set_option maxHeartbeats 3200000 in
open PySem PyProof.Rows in
/-- the set at S takes what a list gives -/
theorem set_takes {l : Addr} {its : Array Value} {ns : List Int} {R : Result → Shared → Prop} (S : Addr) (hh : A.handled = none) (hS : s.heap.get? S = some (bareSet w)) (hl : s.heap.IsList l its) (neq : l ≠ S) (hi : IntsAre its.toList ns) (small : ns.length + 1 < scanBound)
    (hR : ∀ (g : Heap) (tk c : Nat), SetR w g S (fun j => decide (j ∈ ns)) c → c ≤ ns.length → (∀ b o, b ≠ S → s.heap.get? b = some o → g.get? b = some o) → R (.ok (.ret .none)) { s with heap := g, toks := tk }) :
    wpAny (model prog w) A.in1 (Builtin.«set.__init__» ⟨[.ref S, .ref l], []⟩)
      (fun fin s' => match fin with | .done f => R (.ok f) s' | .again c' => c'.quiet = true ∧ codeAny (model prog w) A c' R s') (fun e s' => R (.error e) s') s := by
  have sz : its.size = ns.length := by
    rw [← Array.length_toList]
    exact IntsAre.length hi
  have ltl : l < s.heap.objs.size := let ⟨_, g, _⟩ := hl; Heap.lt_size g
  have ltS : S < s.heap.objs.size := Heap.lt_size hS
  have hl' := hl
  obtain ⟨⟨k1, k2, k3, k4⟩, g, k5, k6, k7⟩ := hl'
  simp only at k5 k7
  subst k5
  subst k7
  have tS := F.sub_list_set
  have tF := F.sub_list_frozenset
  have tD : (Value.type "list" == Value.type "dict") = false := by decide
  have hi3 : A.in1.in1.handled = none := by
    simp [hh]
  unfold Builtin.«set.__init__» noKeywords
  unfold Builtin.Frozenset.updateFrom
  generalize hq : pyIter = q
  wp_walk
  subst hq
  refine wpAny_pyIter_list hl ?_
  refine wpAny_bind (wpAny_runValue ?_)
  generalize hI : s.heap.objs.size = I at *
  have offS : S ∉ [I, l] := by
    intro h
    rcases List.mem_cons.mp h with e | e
    · exact absurd e (Nat.ne_of_lt ltS)
    · exact neq (List.mem_singleton.mp e).symm
  have offL : l ≠ I := Nat.ne_of_lt ltl
  have vals : ∀ (i : Nat) (v : Value), its[i]? = some v → ∃ k t, ns[i]? = some k ∧ v = .int k t := by
    intro i v hv
    have lt : i < ns.length := by
      rw [← sz]
      exact (Array.getElem?_eq_some_iff.mp hv).1
    obtain ⟨t, e⟩ := IntsAre.int_at hi i v (by rw [Array.getElem?_toList]; exact hv)
    refine ⟨ns[i], t, List.getElem?_eq_getElem lt, ?_⟩
    rw [e, List.getD_eq_getElem?_getD, List.getElem?_eq_getElem lt]
    rfl
  have W := (Walks.list (prog := prog) (w := w) (A := A.in1.in1) hi3 I l offL its).toS
  have fresh1 : ∀ b o, s.heap.get? b = some o → (s.heap.push { cls := .type "list_iterator", data := .fields #[.ref l, .int 0 0] }).get? b = some o := fun b o e => Heap.get?_push_of_some _ e
  have new1 : (s.heap.push { cls := .type "list_iterator", data := .fields #[.ref l, .int 0 0] }).get? I = some { cls := .type "list_iterator", data := .fields #[.ref l, .int 0 0] } := by
    rw [← hI]
    exact Heap.get?_push_size _ rfl
  refine set_update_ints W S offS ns sz small vals its.size 0 _ (Nat.sub_zero _) (Nat.zero_le _) ⟨⟨_, new1, rfl, rfl⟩, ⟨_, fresh1 _ _ g, rfl, _, rfl⟩⟩ ⟨0, Nat.le_refl _, setR_new_at (fresh1 _ _ hS)⟩ fun s' c mv hc hs => ?_
  refine wpAny_pure (wpAny_pure ?_)
  rw [Moved.eq_with mv]
  refine hR s'.heap s'.toks c hs (by rw [← sz]; exact hc) fun b o nb e => mv.heap b o (fun z => ?_) (fresh1 b o e)
  rcases List.mem_cons.mp z with z | z
  · exact nb z
  · have : b < I := by
      rw [← hI]
      exact Heap.lt_size e
    exact absurd (List.mem_singleton.mp z) (Nat.ne_of_lt this)
/-- callType_codes, where the check of __init__'s arguments is proved by itself -/
theorem callType_checked {T nid iid : String} {Bi : Builtin} {args : List Value} {Q Q₁ : Value → Shared → Prop} (ft : TypeCalled T nid iid) (ct : checkTypeCall T ⟨args, []⟩ = pure ()) (en : PySem.entryFor PySem.table iid = some Bi)
    (mk : codeAny (model prog w) A.in1 (.call (.builtin nid) ⟨.type T :: args, []⟩) (wants Q₁ E) s)
    (nx : ∀ obj t, Q₁ obj t → t.TypeIs obj T ∧ (∀ (M : Model) (B : Around) (F : Value → Shared → Prop) (Z : Unit → Shared → Prop), Z () t → wpAny M B (checkBuiltinCall iid ⟨obj :: args, []⟩) Z F t) ∧
      wpAny (model prog w) A.in1.in1 (Bi ⟨obj :: args, []⟩)
        (fun fin u => match fin with | .done f => wants (fun r v => r = .none ∧ Q obj v) E (.ok f) u | .again c => c.quiet = true ∧ codeAny (model prog w) A.in1 c (wants (fun r v => r = .none ∧ Q obj v) E) u)
        (fun e u => wants (fun r v => r = .none ∧ Q obj v) E (.error e) u) t) :
    wpAny (model prog w) A (call (.type T) args) Q E s := by
  have ⟨c0, t0, mr⟩ := ft.mro
  have md := ft.made
  have sb := ft.sub
  refine wpAny_call (codeAny_of_tree ?_)
  show wpAny _ _ (callAny (.type T) _) _ _ _
  refine wpAny_pure ⟨PySem.Code.quiet_builtin _ (by decide +kernel), codeAny_builtin F.entry_type_call ?_⟩
  rw [Around.under_plain (weight_type_call_type T args []) rfl]
  have n1 := ft.notType
  have n2 := ft.canCreate
  repeat (any_goals (first | assumption | wp_step))
  refine codeAny_mono mk fun r t ht => ?_
  match r, ht with
  | .error e, ht => exact ht
  | .ok (.ret obj), ht =>
    obtain ⟨hT, ck, run⟩ := nx _ _ ht
    have li := ft.init.lookup
    have bi := ft.init.bind obj
    repeat (any_goals (first | assumption | wp_step))
    refine codeAny_mono (codeAny_call_builtin ft.init.plain en (ck _ _ _ _ run)) fun r2 t2 h2 => ?_
    match r2, h2 with
    | .error e, h2 => exact h2
    | .ok (.ret r), h2 =>
      obtain ⟨rfl, hq⟩ := h2
      repeat (any_goals (first | assumption | wp_step))
open PyProof.Rows in
theorem call_setL {l : Addr} {its : Array Value} (ns : List Int) {Q : Value → Shared → Prop} (hh : A.handled = none) (hl : s.heap.IsList l its) (hi : IntsAre its.toList ns) (small : ns.length + 1 < scanBound)
    (h : ∀ (g : Heap) (tk c : Nat), SetR w g s.heap.objs.size (fun j => decide (j ∈ ns)) c → c ≤ ns.length → (∀ b o, s.heap.get? b = some o → g.get? b = some o) → Q (.ref s.heap.objs.size) { s with heap := g, toks := tk }) :
    wpAny (model prog w) A (call (.type "set") [.ref l]) Q E s := by
  have ltl : l < s.heap.objs.size := let ⟨_, g, _⟩ := hl; Heap.lt_size g
  refine callType_checked (Q₁ := fun obj t => obj = .ref s.heap.objs.size ∧ t = { s with heap := s.heap.push (bareSet w) }) F.called_set (F.typeCall_set_1 _) F.entry_set_init (code_set_led1 _ ⟨rfl, rfl⟩) fun obj t ht => ?_
  obtain ⟨rfl, rfl⟩ := ht
  have hS : (s.heap.push (bareSet w)).get? s.heap.objs.size = some (bareSet w) := Heap.get?_push_size _ rfl
  refine ⟨⟨_, hS, rfl⟩, fun M B F Z hz => check_set_init_1 ⟨_, hS, rfl⟩ hz, ?_⟩
  refine set_takes (A := A.in1) (s := { s with heap := s.heap.push (bareSet w) }) s.heap.objs.size (by simp [hh]) hS (hl.push _) (Nat.ne_of_lt ltl) hi small fun g tk c hs hc kp => ⟨rfl, h g tk c hs hc fun b o e => kp b o (Nat.ne_of_lt (Heap.lt_size e)) (Heap.get?_push_of_some _ e)⟩
/-- sorted(set(e)), e a list of ints: a new list that rises -/
def tSSet (K : PySem.W.Frag) (ta : TE) : TE := fun σ H Q => ta σ H fun x H1 => ∃ (l : Addr) (ns : List Int), x = V.ref l ∧ SqL K H1 l (ns.map V.int) ∧ ns.length < 64 ∧
  ∀ (p : Addr) (xs : List Int) (c : Nat), xs.Pairwise (· < ·) → (∀ k : Int, k ∈ xs ↔ k ∈ ns) → xs.length = c → c ≤ ns.length → H1 p = none → Q (.ref p) (upd H1 p (.lst (xs.map V.int)))
open RZ in
theorem pe_sset {X : Cx} {a : Expr} {ta : TE} {p p2 q pos : Pos} (hg : Gl X "sorted") (hm : X.mg "sorted" = none) (hg2 : Gl X "set") (hm2 : X.mg "set" = none) (ha : PE X a ta) (hc : X.calm = true := by rfl)
    (na : starEach [a] X.env = (false, eval a X.env) :: starEach [] X.env := by rfl) (nb : starEach [.Call (.Name "set" p2) [a] [] q] X.env = (false, eval (.Call (.Name "set" p2) [a] [] q) X.env) :: starEach [] X.env := by rfl) :
    PE X (.Call (.Name "sorted" p) [.Call (.Name "set" p2) [a] [] q] [] pos) (tSSet X.K ta) := by
  refine ⟨fun pins s σ H Q I h => Call_ (ld_blt I hg hm PyProof.Rows.boot_sorted (PyProof.Rows.callWith_builtin1 (PyProof.Rows.args_cons (Call_ (ld_blt I hg2 hm2 PyProof.Rows.boot_set
    (PyProof.Rows.callWith_type1 (PyProof.Rows.args_cons (thn (ha.run pins s σ H _ I h) fun v s1 hq => PyProof.Rows.args_nil ?_) na) na rfl))) nb) nb rfl))⟩
  obtain ⟨x, H1, I1, r1, l, ns, ex, hq, hl, q1⟩ := hq
  subst ex
  have e0 : v = Value.ref l := r1
  subst e0
  obtain ⟨its, r, pl, hz⟩ := I1.list hq
  have hit : PyProof.Rows.IntsAre its.toArray.toList ns := by simpa using intsAre_vals r
  refine call_setL ns (I1.ok.hd hc) pl.isList hit (by unfold scanBound; omega) fun g tk c hs hcn kp => PyProof.Rows.args_nil ?_
  have I2 : Inv X pins σ H1 { s1 with heap := g, toks := tk } := I1.kept kp
  refine sorted_set hs (I2.ok.hd hc) (by omega) fun s2 p out c2 xs k gs os hp hg' hix hsx hm' hl' => ?_
  have hn : H1 p = none := I2.hok.fresh hp
  have len : (xs.map V.int).length ≤ sizeLine := by
    rw [List.length_map, hl']
    exact Nat.le_of_lt (small1k (by omega))
  have J : Inv X pins σ (upd H1 p (.lst (xs.map V.int))) { s1 with heap := s2.heap, gens := s2.gens, drawn := s2.drawn, toks := s2.toks } :=
    Inv.call (s := { s1 with heap := g, toks := tk }) I2 (ch := []) (Un.laid k hp hn) (I2.hok.laid k hp ⟨len, out.toList, c2, vals_of_ints hix, hg'⟩) (by rw [gs]; exact I2.bare) (fun _ z => nomatch z)
  have e : s2 = { s1 with heap := s2.heap, gens := s2.gens, drawn := s2.drawn, toks := s2.toks } := by
    have o2 : s2.os = s1.os := os
    rw [← o2]
  rw [e]
  exact ⟨.ref p, _, J, rfl, q1 p xs c hsx (fun z => (hm' z).trans (by simp)) hl' hcn hn⟩
end
/-! ### len(set(a list of ints)): a rule of our own, whatever stands twice in it -/
def dist (ns : List Int) : List Int := PyProof.Rows.firstMet (fun i => ns.getD i 0) ns.length
def one (ns : List Int) : Bool := decide (V.int (((dist ns).length : Nat) : Int) = V.int 1)
open RZ in
def tLenSetN (K : PySem.W.Frag) (ta : TE) : TE := fun σ H Q => ta σ H fun x H1 => ∃ (l : Addr) (ns : List Int), x = V.ref l ∧ SqL K H1 l (ns.map V.int) ∧ ns.length < 64 ∧ Q (.int (((dist ns).length : Nat) : Int)) H1
open RZ in
theorem pe_lenSetN {X : Cx} {a : Expr} {ta : TE} {p p2 q pos : Pos} (hg : Gl X "len") (hm : X.mg "len" = none) (hg2 : Gl X "set") (hm2 : X.mg "set" = none) (ha : PE X a ta) (hc : X.calm = true := by rfl)
    (na : starEach [a] X.env = (false, eval a X.env) :: starEach [] X.env := by rfl) : PE X (.Call (.Name "len" p) [.Call (.Name "set" p2) [a] [] q] [] pos) (tLenSetN X.K ta) := by
  refine ⟨fun pins s σ H Q I h => Call_ (ld_blt I hg hm PySem.boot_len (PyProof.Rows.callWith_builtin1 (PyProof.Rows.args_cons (Call_ (ld_blt I hg2 hm2 PyProof.Rows.boot_set
    (PyProof.Rows.callWith_type1 (PyProof.Rows.args_cons (thn (ha.run pins s σ H _ I h) fun v s1 hq => PyProof.Rows.args_nil ?_) na) na rfl))) rfl) rfl rfl))⟩
  obtain ⟨x, H1, I1, r1, l, ns, ex, hq, hl, q1⟩ := hq
  subst ex
  have e0 : v = Value.ref l := r1
  subst e0
  obtain ⟨its, r, pl, hz⟩ := I1.list hq
  have sz : its.toArray.size = ns.length := by
    have e := r.length
    rw [List.length_map] at e
    rw [List.size_toArray, e]
  refine call_set_list (I1.ok.hd hc) pl.isList (by simpa using intsAre_vals r) (by rw [sz]; unfold scanBound; omega) fun h' tk hS hk => PyProof.Rows.args_nil ?_
  rw [sz] at hS
  have hle := PyProof.Rows.firstMet_length_le (fun i => ns.getD i 0) ns.length
  obtain ⟨o, es, ep, t, ho, hex, hd, _, _, _, hf, hn⟩ := hS
  have J : Inv X pins σ H1 { s1 with heap := h', toks := tk } := I1.kept fun b o e => hk b o (Heap.lt_size e) e
  refine call_len_set ho hex hd hf (by rw [hn] <;> omega) ⟨.int (((dist ns).length : Nat) : Int), H1, J.tok _, ⟨_, by rw [hn]; rfl⟩, q1⟩
/-! ### list(reversed(a list)): a rule of our own -/
section
variable {prog : Program} {w : World} {A : Around} {E : Value → Shared → Prop} {s : Shared}
open RT in
/-- the list at S, just made, takes what the iterator gives -/
theorem fill_rev {R : Result → Shared → Prop} {S it l : Addr} {c₀ : Nat} {items : Array Value} (hh : A.handled = none) (hit : s.heap.IsRevIter it l ((items.size : Int) - 1)) (hl : s.heap.IsList l items) (hne : l ≠ it) (hSi : S ≠ it) (hSl : S ≠ l) (hn : items.size ≤ sizeLine)
    (hS : s.heap.get? S = some { cls := .type "list", data := .seq #[] c₀ })
    (hR : ∀ (h' : Heap) (tk : Nat) (acc : Array Value) (c' : Nat), (∀ b o, b ≠ it → b ≠ S → s.heap.get? b = some o → h'.get? b = some o) → h'.get? S = some { cls := .type "list", data := .seq acc c' } →
      ItemsOf (fun i v => items[items.size - 1 - i]? = some v) acc items.size → R (.ok (.ret .none)) { s with heap := h', toks := tk }) :
    wpAny (model prog w) A.in1 (Builtin.List.listExtendWith (.ref S) (.ref it) .none)
      (fun fin s' => match fin with | .done f => R (.ok f) s' | .again c' => c'.quiet = true ∧ codeAny (model prog w) A c' R s') (fun e s' => R (.error e) s') s := by
  have W := (Walks.listRev (prog := prog) (w := w) (A := A.in1) hh it l hne items).toS
  have off : S ∉ [it, l] := fun h => by
    rcases List.mem_cons.mp h with e | e
    · exact hSi e
    · exact hSl (by simpa using e)
  have ty : s.TypeIs (.ref it) "list_reverseiterator" := Heap.IsRevIter.typeIs hit
  have apart : Builtin.List.listSameRef (.ref S) (.ref it) = false := by simp [Builtin.List.listSameRef, hSi]
  have e0 : ((items.size : Nat) : Int) - 1 - ((0 : Nat) : Int) = (items.size : Int) - 1 := by omega
  unfold Builtin.List.listExtendWith
  refine wpAny_bind (wpAny_typeOf ty ?_)
  rw [if_neg (by rw [apart]; decide)]
  refine wpAny_bind (wpAny_pyIter_revIter hit (wpAny_bind (wpAny_holding ?_)))
  unfold Builtin.List.listLengthHint
  refine wpAny_bind (wpAny_specialOf ty nolen_lri ?_)
  show wpAny _ A.in1 (specialOf (Value.ref it) (Str.ofString "__length_hint__") >>= _) _ _ _
  refine wpAny_bind (wpAny_specialOf ty hint_lri ?_)
  generalize hq : ("list_reverseiterator.__length_hint__" : String) = q0
  wp_delta
  rw [show splitId q0 = some ("list_reverseiterator", "__length_hint__") from by subst hq; decide +kernel]
  subst hq
  refine wpAny_bind (wpAny_isInstance (b := true) ty (by rw [isSubtype_type]; kernel_rfl) (wpAny_pure ?_))
  rw [if_neg (by decide)]
  refine wpAny_pure ⟨plainId_quiet F.plain_extend_loop _, codeAny_extend_loopS W hn _ off _ items.size 0 _ _ _ rfl (Nat.zero_le _) ⟨Nat.zero_le _, by rw [e0]; exact hit, hl⟩ hS (ItemsOf.nil _) fun s' acc' c' hm hS' hacc => ?_⟩
  rw [Moved.eq_with hm]
  refine hR s'.heap s'.toks acc' c' (fun b o nb nS e => hm.heap b o (fun hmem => ?_) e) hS' hacc
  rcases List.mem_cons.mp hmem with z | z
  · exact nS z
  · exact nb (List.mem_singleton.mp z)
theorem call_listRev {it l : Addr} {items : Array Value} {Q : Value → Shared → Prop} (hh : A.handled = none) (hit : s.heap.IsRevIter it l ((items.size : Int) - 1)) (hl : s.heap.IsList l items) (hne : l ≠ it) (hn : items.size ≤ sizeLine)
    (hQ : ∀ (h' : Heap) (tk : Nat) (acc : Array Value) (c' : Nat), (∀ b o, b ≠ it → s.heap.get? b = some o → h'.get? b = some o) → h'.get? s.heap.objs.size = some { cls := .type "list", data := .seq acc c' } →
      ItemsOf (fun i v => items[items.size - 1 - i]? = some v) acc items.size → Q (.ref s.heap.objs.size) { s with heap := h', toks := tk }) : wpAny (model prog w) A (call (.type "list") [.ref it]) Q E s := by
  have lti : it < s.heap.objs.size := let ⟨_, g, _⟩ := hit; Heap.lt_size g
  have ltl : l < s.heap.objs.size := let ⟨_, g, _⟩ := hl; Heap.lt_size g
  have hit1 : (s.heap.push { cls := .type "list", data := .seq #[] }).IsRevIter it l ((items.size : Int) - 1) := hit.at fun o e => Heap.get?_push_of_some _ e
  have hl1 : (s.heap.push { cls := .type "list", data := .seq #[] }).IsList l items := hl.push _
  refine callType_codes (Q₁ := fun obj s₁ => obj = .ref s.heap.objs.size ∧ s₁ = { s with heap := s.heap.push { cls := .type "list", data := .seq #[] } }) F.called_list (F.typeCall_list_1 _) F.entry_list_init (code_list_new _ ⟨rfl, rfl⟩) fun obj s₁ h₁ => ?_
  obtain ⟨rfl, rfl⟩ := h₁
  have hS : (s.heap.push { cls := .type "list", data := .seq #[] }).get? s.heap.objs.size = some { cls := .type "list", data := .seq #[] } := Heap.get?_push_size _ rfl
  refine ⟨⟨_, hS, rfl⟩, F.args_list_init_2 _ _, ?_⟩
  show wpAny _ _ (do let old ← Builtin.List.listItems (.ref s.heap.objs.size); Builtin.List.listUpdate (.ref s.heap.objs.size) (fun _ => #[]); letGo old.toList.reverse; Builtin.List.listExtendWith (.ref s.heap.objs.size) (.ref it) .none) _ _ _
  refine wpAny_bind ?_
  unfold Builtin.List.listItems
  refine wpAny_bind (wpAny_seqItems hS rfl (wpAny_pure ?_))
  show wpAny _ _ (updateSeq s.heap.objs.size (fun _ => #[]) >>= fun _ => letGo (#[] : Array Value).toList.reverse >>= fun _ => Builtin.List.listExtendWith (.ref s.heap.objs.size) (.ref it) .none) _ _ _
  refine wpAny_bind (wpAny_updateSeq hS rfl (wpAny_bind (wpAny_letGo ?_)))
  have hS2 := Heap.get?_update_self (Obj.mapSeq (fun _ => (#[] : Array Value))) hS rfl
  have oth : ∀ b o, b ≠ s.heap.objs.size → (s.heap.push { cls := .type "list", data := .seq #[] }).get? b = some o → ((s.heap.push { cls := .type "list", data := .seq #[] }).update s.heap.objs.size (Obj.mapSeq (fun _ => (#[] : Array Value)))).get? b = some o :=
    fun b o hb e => (Heap.get?_update_other _ _ (Ne.symm hb)).trans e
  refine fill_rev hh (hit1.at fun o e => oth _ _ (Nat.ne_of_lt lti) e) ?_ hne (Nat.ne_of_gt lti) (Nat.ne_of_gt ltl) hn hS2 fun h' tk acc c' hk hS' hacc => ⟨rfl, hQ h' tk acc c' (fun b o nb e => hk b o nb (Nat.ne_of_lt (Heap.lt_size e)) (oth b o (Nat.ne_of_lt (Heap.lt_size e)) (Heap.get?_push_of_some _ e))) hS' hacc⟩
  obtain ⟨o, g, r⟩ := hl1
  exact ⟨o, oth _ _ (Nat.ne_of_lt ltl) g, r⟩
end
open RT in
/-- list(reversed(e)), e a list: a new list -/
def tLstRev (K : PySem.W.Frag) (te : TE) : TE := fun σ H Q => te σ H fun v H1 => ∃ (a : Addr) (xs : List V), v = .ref a ∧ SqL K H1 a xs ∧ ∀ q, H1 q = none → Q (.ref q) (upd H1 q (.lst xs.reverse))
open RT in
theorem pe_lstRev {X : Cx} {e : Expr} {te : TE} {p p2 pos pos2 : Pos} (hc : X.calm = true) (hg : Gl X "list") (hm : X.mg "list" = none) (hg2 : Gl X "reversed") (hm2 : X.mg "reversed" = none) (he : PE X e te)
    (hs : starEach [e] X.env = (false, eval e X.env) :: starEach [] X.env := by rfl) (hs2 : starEach [.Call (.Name "reversed" p2) [e] [] pos2] X.env = (false, eval (.Call (.Name "reversed" p2) [e] [] pos2) X.env) :: starEach [] X.env := by rfl) :
    PE X (.Call (.Name "list" p) [.Call (.Name "reversed" p2) [e] [] pos2] [] pos) (tLstRev X.K te) := by
  refine ⟨fun pins s σ H Q I h => Call_ (ld_blt I hg hm boot_list (PyProof.Rows.callWith_type1 (args_cons (Call_ (ld_blt I hg2 hm2 PyProof.Rows.boot_reversed (PyProof.Rows.callWith_type1 (args_cons (thn (he.run pins s σ H _ I h) fun u s1 hq => args_nil ?_) hs) hs rfl))) hs2) hs2 rfl))⟩
  obtain ⟨v, H1, I1, r1, a, xs, ev, hq, q⟩ := hq
  subst ev
  have e0 : u = Value.ref a := r1
  subst e0
  obtain ⟨its, rv, p', hz⟩ := I1.list hq
  have hl := p'.isList
  obtain ⟨ol, hol, _⟩ := id hl
  have hne : a ≠ s1.heap.objs.size := Nat.ne_of_lt (Heap.lt_size hol)
  have hn : its.toArray.size ≤ sizeLine := by rw [List.size_toArray, ← rv.length]; exact hz
  have kp : ∀ b o, s1.heap.get? b = some o → (s1.heap.push (revObj a ((its.toArray.size : Int) - 1))).get? b = some o := fun b o e => Heap.get?_push_of_some _ e
  refine call_reversed_list hl (args_nil ?_)
  obtain ⟨f0, f1, f2, f3, f4, f5⟩ := I1.fpOk (H' := H1) (b := s1.heap.objs.size) (Nat.le_refl _) (I1.hok.fresh (Nat.le_refl _))
  have I2 : Inv X pins σ H1 { s1 with heap := s1.heap.push (revObj a ((its.toArray.size : Int) - 1)) } := I1.kept (t' := s1.toks) kp
  have sz : (s1.heap.push (revObj a ((its.toArray.size : Int) - 1))).objs.size = s1.heap.objs.size + 1 := Heap.size_push ..
  refine call_listRev (s := { s1 with heap := s1.heap.push (revObj a ((its.toArray.size : Int) - 1)) }) (I1.ok.hd hc) ⟨_, Heap.get?_push_size _ rfl, rfl, rfl⟩ (hl.push _) hne hn fun h' tk acc c' hk hS hi => ?_
  have nw : H1 (s1.heap.push (revObj a ((its.toArray.size : Int) - 1))).objs.size = none := I2.hok.fresh (Nat.le_refl _)
  have hS' : h'.get? (s1.heap.push (revObj a ((its.toArray.size : Int) - 1))).objs.size = some { cls := .type "list", data := .seq acc c' } := hS
  have le : s1.heap.objs.size ≤ (s1.heap.push (revObj a ((its.toArray.size : Int) - 1))).objs.size := by
    rw [sz]
    exact Nat.le_succ _
  have new : ObjOk X.prog X.w (upd H1 (s1.heap.push (revObj a ((its.toArray.size : Int) - 1))).objs.size (.lst xs.reverse)) h' (s1.heap.push (revObj a ((its.toArray.size : Int) - 1))).objs.size (.lst xs.reverse) :=
    ⟨by rw [List.length_reverse]; exact hz, acc.toList, c', vals_rev rv hi, by rw [Array.toArray_toList]; exact hS'⟩
  have J := I1.turnedNew (t' := tk) (ch := [s1.heap.objs.size]) (fun b o hb e => hk b o (fun z => hb (by simp [z])) (kp b o e)) (fun b hb => by
    have z : b = s1.heap.objs.size := by simpa using hb
    rw [z]
    exact ⟨f0, f1, f2, f3, f4, f5⟩) le new
  exact ⟨.ref _, _, J, rfl, q _ nw⟩
/-! ### groups of places: the mathematics -/
def goodG (many : Nat) (g : List Int) : Prop := g.Pairwise (· < ·) ∧ ∀ x ∈ g, 0 ≤ x ∧ x < (many : Int)
theorem rise_lenG : ∀ {g : List Int} {lo hi : Int}, g.Pairwise (· < ·) → (∀ x ∈ g, lo ≤ x ∧ x < hi) → (g.length : Int) ≤ max 0 (hi - lo)
  | [], lo, hi, _, _ => by
    show ((0 : Nat) : Int) ≤ max 0 (hi - lo)
    omega
  | x :: g, lo, hi, hp, hb => by
    obtain ⟨h1, h2⟩ := List.pairwise_cons.mp hp
    obtain ⟨b1, b2⟩ := hb x List.mem_cons_self
    have ih := rise_lenG (lo := x + 1) (hi := hi) h2 fun y hy => ⟨by have := h1 y hy; omega, (hb y (List.mem_cons_of_mem _ hy)).2⟩
    rw [List.length_cons]
    omega
theorem goodG.len {many : Nat} {g : List Int} (h : goodG many g) : g.length ≤ many := by
  have := rise_lenG h.1 h.2
  omega
def ids (many : Nat) : List Int := (List.range many).map fun (i : Nat) => (i : Int)
theorem ids_pair (many : Nat) : (ids many).Pairwise (· < ·) := by
  unfold ids
  rw [List.pairwise_map]
  refine List.Pairwise.imp ?_ List.pairwise_lt_range
  intro a b h
  omega
theorem mem_ids {many : Nat} {k : Int} : k ∈ ids many ↔ 0 ≤ k ∧ k < (many : Int) := by
  unfold ids
  rw [List.mem_map]
  constructor
  · rintro ⟨i, hi, rfl⟩
    have := List.mem_range.mp hi
    omega
  · rintro ⟨h0, h1⟩
    exact ⟨k.toNat, List.mem_range.mpr (by omega), by omega⟩
theorem ids_good (many : Nat) : goodG many (ids many) := ⟨ids_pair many, fun _ h => mem_ids.mp h⟩
def ledG (many : Nat) (row g : List Int) : List Int := (ids many).filter fun k => decide (k ∈ g.map (goK row))
theorem ledG_good (many : Nat) (row g : List Int) : goodG many (ledG many row g) := by
  refine ⟨List.Pairwise.filter _ (ids_pair many), fun x hx => ?_⟩
  exact mem_ids.mp (List.mem_filter.mp hx).1
theorem goK_in' {many : Nat} {f : List Int} {p : Int} (h : GoodRow many f) (h0 : 0 ≤ p) (h1 : p < (many : Int)) : 0 ≤ goK f p ∧ goK f p < (many : Int) := by
  have hl : p.toNat < f.length := by rw [h.1]; omega
  unfold goK
  rw [List.getD_eq_getElem?_getD, List.getElem?_eq_getElem hl]
  exact h.2 _ (List.getElem_mem hl)
theorem mem_ledG {many : Nat} {row g : List Int} {k : Int} (hr : GoodRow many row) (hg : ∀ x ∈ g, 0 ≤ x ∧ x < (many : Int)) : k ∈ ledG many row g ↔ ∃ x ∈ g, goK row x = k := by
  unfold ledG
  rw [List.mem_filter, mem_ids]
  constructor
  · rintro ⟨_, h⟩
    exact List.mem_map.mp (of_decide_eq_true h)
  · rintro ⟨x, hx, rfl⟩
    exact ⟨goK_in' hr (hg x hx).1 (hg x hx).2, decide_eq_true (List.mem_map.mpr ⟨x, hx, rfl⟩)⟩
theorem at_goK {row : List Int} {p : Int} (h0 : 0 ≤ p) (h : p.toNat < row.length) : (row.map V.int)[p.toNat]? = some (.int (goK row p)) := by
  rw [List.getElem?_map, List.getElem?_eq_getElem h]
  unfold goK
  rw [List.getD_eq_getElem?_getD, List.getElem?_eq_getElem h]
  rfl
/-! ### walks back: the mathematics -/
def rowsOf (ms : List Mv) (ns : List Int) : List (List Int) := ns.map fun n => (ms.getD n.toNat (0, [])).2
def endsK (many : Nat) (rows : List (List Int)) : Nat → List Int
  | 0 => (List.range many).map fun (i : Nat) => (i : Int)
  | k + 1 => (rows.getD k []).map (goK (endsK many rows k))
theorem endsK_good {many : Nat} {rows : List (List Int)} (h : ∀ r ∈ rows, GoodRow many r) : ∀ k, k ≤ rows.length → GoodRow many (endsK many rows k)
  | 0, _ => by
    refine ⟨by unfold endsK; rw [List.length_map, List.length_range], fun x hx => ?_⟩
    unfold endsK at hx
    obtain ⟨i, hi, rfl⟩ := List.mem_map.mp hx
    have := List.mem_range.mp hi
    omega
  | k + 1, hk => by
    have ih := endsK_good h k (by omega)
    have g : rows.getD k [] = rows[k] := by rw [List.getD_eq_getElem?_getD, List.getElem?_eq_getElem (by omega)]; rfl
    obtain ⟨h1, h2⟩ := h rows[k] (List.getElem_mem (by omega))
    unfold endsK
    rw [g]
    refine ⟨by rw [List.length_map, h1], fun x hx => ?_⟩
    obtain ⟨p, hp, rfl⟩ := List.mem_map.mp hx
    obtain ⟨a, b⟩ := h2 p hp
    have hl : p.toNat < (endsK many rows k).length := by rw [ih.1]; omega
    unfold goK
    rw [List.getD_eq_getElem?_getD, List.getElem?_eq_getElem hl]
    exact ih.2 _ (List.getElem_mem hl)
/-- the first count of steps by which all are one -/
def FirstOne (many : Nat) (rows : List (List Int)) (k : Nat) : Prop := k ≤ rows.length ∧ one (endsK many rows k) = true ∧ ∀ j, j < k → one (endsK many rows j) = false
def NoOne (many : Nat) (rows : List (List Int)) : Prop := ∀ j, j ≤ rows.length → one (endsK many rows j) = false
def DrawnAt (H : Hp) (v : V) (many : Nat) (rows : List (List Int)) : Prop :=
  (∃ (k : Nat) (t : Addr), FirstOne many rows k ∧ v = .ref t ∧ H t = some (.tup [.int (goK (endsK many rows k) 0), .int (k : Int)])) ∨ (NoOne many rows ∧ v = .non)
def NumsOk (ms : List Mv) (ns : List Int) : Prop := ns.length ≤ 1000 ∧ ∀ n ∈ ns, 0 ≤ n ∧ n < (ms.length : Int)
theorem rowsOf_good {many : Nat} {ms : List Mv} {ns : List Int} (G : Good many ms) (h : NumsOk ms ns) : ∀ r ∈ rowsOf ms ns, GoodRow many r := by
  intro r hr
  obtain ⟨n, hn, rfl⟩ := List.mem_map.mp hr
  obtain ⟨a, b⟩ := h.2 n hn
  have hl : n.toNat < ms.length := by omega
  rw [List.getD_eq_getElem?_getD, List.getElem?_eq_getElem hl]
  exact (G.mv _ (List.getElem_mem hl)).2.2
/-- rows that stand as tuples -/
def StepsAt (H : Hp) (S : Addr) (rows : List (List Int)) : Prop := ∃ qs : List Addr, H S = some (.lst (qs.map V.ref)) ∧ Paired (fun q row => H q = some (.tup (row.map V.int))) qs rows
theorem StepsAt.same {H H' : Hp} {S : Addr} {rows : List (List Int)} (s : Same H H') (h : StepsAt H S rows) : StepsAt H' S rows := by
  obtain ⟨qs, e, p⟩ := h
  exact ⟨qs, s _ _ e, L2.Paired.mapP p fun _ _ q => s _ _ q⟩
/-! ### rising lists, and whether all are one: the mathematics -/
def Rise (xs ns : List Int) : Prop := xs.Pairwise (· < ·) ∧ ∀ k, k ∈ xs ↔ k ∈ ns
theorem Rise.same {xs ys ns : List Int} (a : Rise xs ns) (b : Rise ys ns) : xs = ys := rise_same a.1 b.1 fun k => (a.2 k).trans (b.2 k).symm
theorem all_at (ns : List Int) : (List.range ns.length).map (fun i => ns.getD i 0) = ns := by
  apply List.ext_getElem?
  intro i
  rw [List.getElem?_map]
  by_cases h : i < ns.length
  · rw [List.getElem?_range h, List.getElem?_eq_getElem h]
    show some (ns.getD i 0) = _
    rw [List.getD_eq_getElem?_getD, List.getElem?_eq_getElem h]
    rfl
  · rw [List.getElem?_eq_none_iff.mpr (by rw [List.length_range]; omega), List.getElem?_eq_none_iff.mpr (by omega)]
    rfl
theorem mem_dist {ns : List Int} {k : Int} : k ∈ dist ns ↔ k ∈ ns := by
  have e := PyProof.Rows.firstMet_any (fun i => ns.getD i 0) ns.length k
  rw [all_at] at e
  have a : ∀ (l : List Int), (l.any (· == k) = true ↔ k ∈ l) := fun l => by simp
  rw [← a, ← a]
  exact iff_of_eq (congrArg (· = true) e)
theorem nodup_met (val : Nat → Int) : ∀ i, (PyProof.Rows.firstMet val i).Nodup
  | 0 => List.nodup_nil
  | i + 1 => by
    rw [PyProof.Rows.firstMet_succ]
    unfold PyProof.Rows.step_dedup
    have ih := nodup_met val i
    split
    · exact ih
    · rename_i h
      refine List.nodup_append.mpr ⟨ih, by simp, fun a ha b hb => ?_⟩
      rw [List.mem_singleton.mp hb]
      intro e
      subst e
      exact h (by simp [ha])
theorem one_iff {ns : List Int} : one ns = true ↔ ∃ v, v ∈ ns ∧ ∀ x ∈ ns, x = v := by
  unfold one
  rw [decide_eq_true_iff]
  constructor
  · intro h
    have h1 : (dist ns).length = 1 := by
      have e : (((dist ns).length : Nat) : Int) = 1 := V.int.inj h
      omega
    obtain ⟨v, ev⟩ := List.length_eq_one_iff.mp h1
    refine ⟨v, mem_dist.mp (by rw [ev]; exact List.mem_singleton_self v), fun x hx => ?_⟩
    have := mem_dist.mpr hx
    rw [ev] at this
    exact List.mem_singleton.mp this
  · rintro ⟨v, hv, all⟩
    have nd : (dist ns).Nodup := nodup_met _ _
    have m1 := mem_dist.mpr hv
    have m2 : ∀ x ∈ dist ns, x = v := fun x hx => all x (mem_dist.mp hx)
    match hd : dist ns with
    | [] => rw [hd] at m1; simp at m1
    | [a] => rfl
    | a :: b :: t =>
      rw [hd] at nd m2
      have ea := m2 a List.mem_cons_self
      have eb := m2 b (List.mem_cons_of_mem _ List.mem_cons_self)
      have := (List.nodup_cons.mp nd).1
      rw [ea, eb] at this
      exact absurd List.mem_cons_self this
theorem rise_one {xs ns : List Int} (r : Rise xs ns) (h : one ns = true) : ∃ v, xs = [v] ∧ v ∈ ns ∧ ∀ x ∈ ns, x = v := by
  obtain ⟨v, hv, all⟩ := one_iff.mp h
  refine ⟨v, rise_same r.1 (List.pairwise_singleton _ _) fun k => ⟨fun hk => ?_, fun hk => ?_⟩, hv, all⟩
  · exact List.mem_singleton.mpr (all k ((r.2 k).mp hk))
  · rw [List.mem_singleton.mp hk]
    exact (r.2 v).mpr hv
theorem rise_len {xs ns : List Int} (r : Rise xs ns) (ne : ns ≠ []) (h : ¬ 1 < xs.length) : one ns = true := by
  obtain ⟨v, hv⟩ := List.exists_mem_of_ne_nil _ ne
  have m := (r.2 v).mpr hv
  have h1 : xs.length = 1 := by
    have := List.length_pos_of_mem m
    omega
  obtain ⟨u, e⟩ := List.length_eq_one_iff.mp h1
  refine one_iff.mpr ⟨u, (r.2 u).mp (by rw [e]; exact List.mem_singleton_self u), fun x hx => ?_⟩
  have := (r.2 x).mpr hx
  rw [e] at this
  exact List.mem_singleton.mp this
/-- all are one by value v -/
theorem one_goK {many : Nat} {E : List Int} (g : GoodRow many E) (m1 : 1 ≤ many) (h : one E = true) : ∀ x ∈ E, x = goK E 0 := by
  obtain ⟨v, hv, all⟩ := one_iff.mp h
  have h0 : 0 < E.length := by rw [g.1]; omega
  have e : goK E 0 = E[0] := by
    unfold goK
    rw [List.getD_eq_getElem?_getD, show (0 : Int).toNat = 0 from rfl, List.getElem?_eq_getElem h0]
    rfl
  intro x hx
  rw [e, all x hx, all E[0] (List.getElem_mem h0)]
/-- walks that begin still farther back end at the same place -/
theorem one_on {many : Nat} {rows : List (List Int)} (h : ∀ r ∈ rows, GoodRow many r) (m1 : 1 ≤ many) {j : Nat} (ho : one (endsK many rows j) = true) (hj : j ≤ rows.length) : ∀ k, j ≤ k → k ≤ rows.length → one (endsK many rows k) = true ∧ goK (endsK many rows k) 0 = goK (endsK many rows j) 0
  | 0, h1, _ => by
    have : j = 0 := by omega
    subst this
    exact ⟨ho, rfl⟩
  | k + 1, h1, h2 => by
    by_cases e : j = k + 1
    · subst e
      exact ⟨ho, rfl⟩
    · obtain ⟨ih, ev⟩ := one_on h m1 ho hj k (by omega) (by omega)
      have gk := endsK_good h k (by omega)
      have gk1 := endsK_good h (k + 1) h2
      have all := one_goK gk m1 ih
      have g : rows.getD k [] = rows[k] := by
        rw [List.getD_eq_getElem?_getD, List.getElem?_eq_getElem (by omega)]
        rfl
      obtain ⟨r1, r2⟩ := h rows[k] (List.getElem_mem (by omega))
      have mem : ∀ x ∈ endsK many rows (k + 1), x = goK (endsK many rows k) 0 := by
        intro x hx
        unfold endsK at hx
        rw [g] at hx
        obtain ⟨p, hp, rfl⟩ := List.mem_map.mp hx
        obtain ⟨a, b⟩ := r2 p hp
        have hl : p.toNat < (endsK many rows k).length := by rw [gk.1]; omega
        refine all _ ?_
        unfold goK
        rw [List.getD_eq_getElem?_getD, List.getElem?_eq_getElem hl]
        exact List.getElem_mem hl
      have h0 : 0 < (endsK many rows (k + 1)).length := by rw [gk1.1]; omega
      have o1 : one (endsK many rows (k + 1)) = true := one_iff.mpr ⟨_, by
        have := mem _ (List.getElem_mem h0)
        rw [← this]
        exact List.getElem_mem h0, mem⟩
      refine ⟨o1, ?_⟩
      rw [← ev, ← mem (goK (endsK many rows (k + 1)) 0) ?_]
      unfold goK
      rw [List.getD_eq_getElem?_getD, show (0 : Int).toNat = 0 from rfl, List.getElem?_eq_getElem h0]
      exact List.getElem_mem h0
/-- rows behind don't matter -/
theorem ends_more {many : Nat} {rows rows' : List (List Int)} : ∀ k, k ≤ rows.length → endsK many (rows ++ rows') k = endsK many rows k
  | 0, _ => rfl
  | k + 1, hk => by
    show ((rows ++ rows').getD k []).map (goK (endsK many (rows ++ rows') k)) = (rows.getD k []).map (goK (endsK many rows k))
    rw [ends_more k (by omega), List.getD_eq_getElem?_getD, List.getElem?_append_left (by omega), ← List.getD_eq_getElem?_getD]
/-- what tries tells -/
def Tried (E : Nat → List Int) (len : Nat) (tr : List (Nat × List Int)) : Prop :=
  (∀ i x, tr[i]? = some x → x.1 = 2 ^ i ∧ 2 ^ i ≤ len ∧ Rise x.2 (E (2 ^ i))) ∧ (∀ i, i + 1 < tr.length → one (E (2 ^ i)) = false) ∧ (len < 2 ^ tr.length ∨ ∃ i, tr.length = i + 1 ∧ one (E (2 ^ i)) = true)
theorem tried_le {E : Nat → List Int} {len : Nat} {a b : List (Nat × List Int)} (ha : Tried E len a) (hb : Tried E len b) : ¬ a.length < b.length := by
  intro h
  obtain ⟨a1, a2, a3⟩ := ha
  obtain ⟨b1, b2, b3⟩ := hb
  rcases a3 with c | ⟨i, ei, o⟩
  · have := (b1 a.length _ (List.getElem?_eq_getElem h)).2.1
    omega
  · have := b2 i (by omega)
    rw [o] at this
    cases this
theorem tried_same {E : Nat → List Int} {len : Nat} {a b : List (Nat × List Int)} (ha : Tried E len a) (hb : Tried E len b) : a = b := by
  have h1 := tried_le ha hb
  have h2 := tried_le hb ha
  have hl : a.length = b.length := by omega
  apply List.ext_getElem hl
  intro i hi hi'
  have x := ha.1 i _ (List.getElem?_eq_getElem hi)
  have y := hb.1 i _ (List.getElem?_eq_getElem hi')
  exact Prod.ext (x.1.trans y.1.symm) (x.2.2.same y.2.2)
section
variable {P : Program} {w : World} {K : PySem.W.Frag} {mg : Str → Option Value} {base : Heap} {C : Addr}
def nSt : List Str := ["chain", "numbers", "whithers", "number", "_", "whither"]
theorem scSt : FnScope ["chain", "numbers", "whithers", "number", "_", "whither"] ["chain", "numbers"] (defScope sStepsOf) := ⟨rfl, rfl, rfl, by decide +kernel, rfl, by decide +kernel, by decide +kernel⟩
def spSteps (C : Addr) : Sp := fun vs H Q _ => ∃ (x l : Addr) (many : Nat) (ms : List Mv) (ns : List Int), vs = [.ref x, .ref l] ∧ ChainAt C H x many ms ∧ H l = some (.lst (ns.map V.int)) ∧ NumsOk ms ns ∧ ms.length ≤ 8 ∧
  ∀ S H', Same H H' → H S = none → StepsAt H' S (rowsOf ms ns) → Q (.ref S) H'
theorem ok_steps {f fP fT : Addr} {fd fdP fdT : FuncData} (F : Fun K "steps_of" "steps_of" sStepsOf f fd) (T : ChM K C fP fT fdP fdT) (mr : mg "range" = none) (ml : mg "len" = none) (mL : mg "list" = none) : FnOk P w K mg base CX0 2 f fd ["chain", "numbers"] (spSteps C) := by
  have GT : FnOk P w K mg base CX0 1 fT fdT ["self"] (spTold C) := ok_told T.FT T.cl T.nV mL
  refine F.ok scSt (fun vs H Q E h => ?_) (fun cdv A outer s H vs Q E hr h => ?_)
  · obtain ⟨x, l, many, ms, ns, rfl, _⟩ := h
    rfl
  · obtain ⟨x, l, many, ms, ns, rfl, hC, hl, hN, h8, q⟩ := h
    refine ⟨_, pss_cons (ps_set (i := 2) scSt.nd rfl (.inr rfl) (pe_lc (own := [("_", 4), ("whither", 5)]) (g := gTup K 2 (gCons (gName 4) (gCons (gName 5) gNil))) (tt := tYes) (te := tVar 5) rfl scSt.nd (pi_list (pe_meth0 (pv 0) T.cl T.hT GT hr T.bT .nil pass0)) (blkOk_by (N := nSt) (sc := defScope sStepsOf) (by decide +kernel))
          (fun _ _ _ _ _ => by exact (pg_tup rfl (pgs_cons (pg_name (i := 4) scSt.nd rfl (.inl rfl)) (pgs_cons (pg_name (i := 5) scSt.nd rfl (.inl rfl)) pgs_nil)))) (fun _ _ _ _ _ => pts_nil) (fun _ _ _ _ _ => pv 5)))
      (pss_cons (ps_for PassesOwn.never rfl (pi_list (pv 1)) (pg_name (i := 3) scSt.nd rfl (.inl rfl))
        (pss_one (ps_if (pt_cmpR op_notIn_rng (pv 3) (pe_callTy cr_range1 (by rfl) mr (by decide +kernel) (pa_cons (pe_callB call_len_seq (by rfl) ml PySem.boot_len (pa_cons (pv 2) pa_nil)) pa_nil)) rfl) pss_never pss_nil)))
      (pss_one (ps_ret (pe_lc (own := [("number", 3)]) (g := gName 3) (tt := tYes) (te := tOp (rIxL K) (tVar 2) (tVar 3)) rfl scSt.nd (pi_list (pv 1)) (blkOk_by (N := nSt) (sc := defScope sStepsOf) (by decide +kernel))
          (fun _ _ _ _ _ => pg_name (i := 3) scSt.nd rfl (.inl rfl)) (fun _ _ _ _ _ => pts_nil) (fun _ _ _ _ _ => by exact (pe_ix ix_list (pv 2) (pv 3) (fun _ _ => rfl))))))), ?_⟩
    obtain ⟨dx, a0, ws, h1, h2, h3⟩ := id hC
    refine ⟨.ref x, rfl, x, dx, _, rfl, h1, ch_noT, x, many, ms, rfl, hC, fun lt wl nlt hM => ?_⟩
    have s1 : Same H (upd H lt (.lst wl)) := same_new nlt
    have lenW := hM.length
    -- whithers
    refine ⟨lt, rfl, ⟨_, SqL.of upd_same⟩, fun W nW => ?_⟩
    have hlt : (upd H lt (.lst wl)) lt = some (.lst wl) := upd_same
    generalize upd H lt (.lst wl) = H1 at s1 hM hlt nW ⊢
    refine lc_list (K := K) (a := lt) (xs := wl) (fun i H' => Same H1 H' ∧ ∃ qs : List Addr, qs.length = i ∧ H' W = some (.lst (qs.map V.ref)) ∧ Paired (fun q (m : Mv) => H1 q = some (.tup (m.2.map V.int))) qs (ms.take i))
      ⟨same_new nW, [], rfl, upd_same, .nil⟩ (fun i H' _ h => SqL.of (h.1 _ _ hlt)) ?_ ?_
    · rintro i v H2 hv ⟨s2, qs, el, hW, hp⟩
      obtain ⟨m, em, ⟨ta, tb, rfl, hta, htb⟩⟩ := hM.get' hv
      have hi : i < ms.length := by
        obtain ⟨q1, _⟩ := List.getElem?_eq_some_iff.mp em
        exact q1
      refine ⟨ta, _, rfl, SqT.of (s2 _ _ hta), rfl, .int m.1, [.ref tb], rfl, .ref tb, [], rfl, rfl, rfl, .ref tb, rfl, _, hW, by rw [List.length_map, el]; exact small8 (by omega), ?_⟩
      refine ⟨fun b u e => by rw [upd_ne (ne_of_none e nW)]; exact s2 _ _ e, qs ++ [tb], by rw [List.length_append, el]; rfl, by rw [upd_same, List.map_append]; rfl, ?_⟩
      rw [take_snoc em]
      exact paired_end (F := fun q (m : Mv) => H1 q = some (.tup (m.2.map V.int))) htb hp
    rintro H2 ⟨s2, qs, el, hW, hp⟩
    rw [lenW, List.take_length] at hp
    have s12 := s1.trans s2
    have hl2 := s12 _ _ hl
    have lenQ : qs.length = ms.length := hp.length
    -- the numbers are moves
    refine ⟨.ref l, rfl, l, rfl, ⟨_, SqL.of hl2⟩, for_list (K := K) (a := l) (xs := ns.map V.int) (fun i σ H' => ∃ y3, σ = [some (.ref x), some (.ref l), some (.ref W), y3, none, none] ∧ Same H2 H') ⟨none, rfl, Same.refl _⟩ (fun i σ H' _ ⟨_, _, s3⟩ => SqL.of (s3 _ _ hl2)) ?_ ?_⟩
    · rintro i v σ H3 hv ⟨y3, rfl, s3⟩
      rw [List.getElem?_map] at hv
      obtain ⟨n, hn, rfl⟩ := Option.map_eq_some_iff.mp hv
      obtain ⟨n0, n1⟩ := hN.2 n (List.mem_of_getElem? hn)
      have hW3 := s3 _ _ hW
      refine ⟨.int n, rfl, .ref W, rfl, W, _, rfl, .inl (SqL.of hW3), _, rfl, fun r nr => ⟨n, r, 0, _, rfl, rfl, upd_same, _, rfl, iteNS (by rw [List.length_map, lenQ]; omega) ?_⟩⟩
      exact ⟨some (.int n), rfl, s3.trans (same_new nr)⟩
    · rintro σ H3 ⟨y3, rfl, s3⟩
      have hl3 := s3 _ _ hl2
      have hW3 := s3 _ _ hW
      refine ⟨.ref l, rfl, l, rfl, ⟨_, SqL.of hl3⟩, fun S nS => ?_⟩
      refine lc_list (K := K) (a := l) (xs := ns.map V.int) (fun i H' => Same H3 H' ∧ ∃ ps : List Addr, ps.length = i ∧ H' S = some (.lst (ps.map V.ref)) ∧ Paired (fun q row => H1 q = some (.tup (row.map V.int))) ps ((rowsOf ms ns).take i))
        ⟨same_new nS, [], rfl, upd_same, .nil⟩ (fun i H' _ h => SqL.of (h.1 _ _ hl3)) ?_ ?_
      · rintro i v H4 hv ⟨s4, ps, ep, hS, hp4⟩
        rw [List.getElem?_map] at hv
        obtain ⟨n, hn, rfl⟩ := Option.map_eq_some_iff.mp hv
        obtain ⟨n0, n1⟩ := hN.2 n (List.mem_of_getElem? hn)
        have hi : i < ns.length := by
          obtain ⟨q1, _⟩ := List.getElem?_eq_some_iff.mp hn
          exact q1
        have hnm : n.toNat < ms.length := by omega
        obtain ⟨qa, eqa, hqa⟩ := paired_get hp (List.getElem?_eq_getElem hnm)
        have gW : (qs.map V.ref)[n.toNat]? = some (.ref qa) := by rw [List.getElem?_map, eqa]; rfl
        have en : n = ((n.toNat : Nat) : Int) := by omega
        refine ⟨rfl, .ref W, rfl, .int n, rfl, W, _, n, _, rfl, rfl, SqL.of (s4 _ _ hW3), at_of en gW, _, hS, by rw [List.length_map, ep]; exact small1k (by have := hN.1; omega), ?_⟩
        refine ⟨fun b u e => by rw [upd_ne (ne_of_none e nS)]; exact s4 _ _ e, ps ++ [qa], by rw [List.length_append, ep]; rfl, by rw [upd_same, List.map_append]; rfl, ?_⟩
        have er : (rowsOf ms ns)[i]? = some ms[n.toNat].2 := by
          unfold rowsOf
          rw [List.getElem?_map, hn]
          show some (ms.getD n.toNat (0, [])).2 = _
          rw [List.getD_eq_getElem?_getD, List.getElem?_eq_getElem hnm]
          rfl
        rw [take_snoc er]
        exact paired_end (F := fun q (row : List Int) => H1 q = some (.tup (row.map V.int))) hqa hp4
      · rintro H4 ⟨s4, ps, ep, hS, hp4⟩
        rw [List.length_map, List.take_of_length_le (by unfold rowsOf; rw [List.length_map]; exact Nat.le_refl _)] at hp4
        have s14 := (s2.trans s3).trans s4
        exact q S H4 (s1.trans s14) ((s12.trans s3).free nS) ⟨ps, hS, L2.Paired.mapP hp4 fun _ _ e => s14 _ _ e⟩
/-! ### drawn -/
theorem scOne : FnScope ["ends"] ["ends"] (defScope sAreOne) := ⟨rfl, rfl, rfl, by decide +kernel, rfl, by decide +kernel, by decide +kernel⟩
def spOne (K : PySem.W.Frag) : Sp := fun vs H Q _ => ∃ (l : Addr) (ns : List Int), vs = [.ref l] ∧ H l = some (.lst (ns.map V.int)) ∧ ns.length < 64 ∧ Q (.bl (one ns)) H
theorem ok_one {f : Addr} {fd : FuncData} {k : Nat} (F : Fun K "_are_one" "_are_one" sAreOne f fd) (ml : mg "len" = none) (mS : mg "set" = none) : FnOk P w K mg base CX0 (k + 1) f fd ["ends"] (spOne K) := by
  refine F.ok scOne (fun vs H Q E h => ?_) (fun cdv A outer s H vs Q E hr h => ?_)
  · obtain ⟨l, ns, rfl, _⟩ := h
    rfl
  · obtain ⟨l, ns, rfl, hl, h64, q⟩ := h
    exact ⟨_, pss_one (ps_ret (pe_cmpR op_eq (pe_lenSetN (by rfl) ml (by rfl) mS (pv 0)) pe_int (nomark _))), .ref l, rfl, l, ns, rfl, SqL.of hl, h64, rfl, q⟩
end
/-! ### drawn_from, drawn -/
/-- where the walks from these places end -/
def seenK (many : Nat) (rows : List (List Int)) (bs : List Int) (k : Nat) : List Int := bs.map (goK (endsK many rows k))
def FirstB (many : Nat) (rows : List (List Int)) (bs : List Int) (k : Nat) : Prop := k ≤ rows.length ∧ one (seenK many rows bs k) = true ∧ ∀ j, j < k → one (seenK many rows bs j) = false
def NoneB (many : Nat) (rows : List (List Int)) (bs : List Int) : Prop := ∀ j, j ≤ rows.length → one (seenK many rows bs j) = false
def DrawnB (H : Hp) (v : V) (many : Nat) (rows : List (List Int)) (bs : List Int) : Prop :=
  (∃ (k : Nat) (t : Addr), FirstB many rows bs k ∧ v = .ref t ∧ H t = some (.tup [.int (goK (seenK many rows bs k) 0), .int (k : Int)])) ∨ (NoneB many rows bs ∧ v = .non)
theorem goK_zero {many : Nat} {p : Int} (h0 : 0 ≤ p) (h1 : p < (many : Int)) : goK ((List.range many).map fun (i : Nat) => (i : Int)) p = p := by
  unfold goK
  rw [List.getD_eq_getElem?_getD, List.getElem?_map, List.getElem?_range (by omega)]
  show ((p.toNat : Nat) : Int) = p
  omega
theorem seenK_zero {many : Nat} {rows : List (List Int)} {bs : List Int} (h : ∀ b ∈ bs, 0 ≤ b ∧ b < (many : Int)) : seenK many rows bs 0 = bs := by
  have e : seenK many rows bs 0 = bs.map id := List.map_congr_left fun b hb => goK_zero (h b hb).1 (h b hb).2
  rw [e, List.map_id]
theorem seenK_all {many : Nat} {rows : List (List Int)} (h : ∀ r ∈ rows, GoodRow many r) {k : Nat} (hk : k ≤ rows.length) : seenK many rows ((List.range many).map fun (i : Nat) => (i : Int)) k = endsK many rows k := by
  have gE := endsK_good h k hk
  unfold seenK
  rw [List.map_map]
  apply List.ext_getElem?
  intro i
  rw [List.getElem?_map]
  by_cases hi : i < many
  · rw [List.getElem?_range hi, List.getElem?_eq_getElem (by rw [gE.1]; exact hi)]
    show some (goK (endsK many rows k) (i : Int)) = _
    unfold goK
    rw [Int.toNat_natCast, List.getD_eq_getElem?_getD, List.getElem?_eq_getElem (by rw [gE.1]; exact hi)]
    rfl
  · rw [List.getElem?_eq_none_iff.mpr (by rw [List.length_range]; omega), List.getElem?_eq_none_iff.mpr (by rw [gE.1]; omega)]
    rfl
theorem DrawnB.all {H : Hp} {v : V} {many : Nat} {rows : List (List Int)} (h : ∀ r ∈ rows, GoodRow many r) (d : DrawnB H v many rows ((List.range many).map fun (i : Nat) => (i : Int))) : DrawnAt H v many rows := by
  rcases d with ⟨k, t, ⟨hk, h1, h2⟩, e, ht⟩ | ⟨hn, e⟩
  · refine .inl ⟨k, t, ⟨hk, by rw [← seenK_all h hk]; exact h1, fun j hj => by rw [← seenK_all h (by omega)]; exact h2 j hj⟩, e, ?_⟩
    rw [ht, seenK_all h hk]
  · exact .inr ⟨fun j hj => by rw [← seenK_all h hj]; exact hn j hj, e⟩
section
variable {P : Program} {w : World} {K : PySem.W.Frag} {mg : Str → Option Value} {base : Heap} {C : Addr}
def nDf : List Str := ["chain", "begins", "numbers", "steps", "ends", "seen", "far", "place"]
theorem scDf : FnScope ["chain", "begins", "numbers", "steps", "ends", "seen", "far", "place"] ["chain", "begins", "numbers"] (defScope sDrawnFrom) := ⟨rfl, rfl, rfl, by decide +kernel, rfl, by decide +kernel, by decide +kernel⟩
def spDf (K : PySem.W.Frag) (C : Addr) : Sp := fun vs H Q _ => ∃ (x b l : Addr) (many : Nat) (ms : List Mv) (bs ns : List Int), vs = [.ref x, .ref b, .ref l] ∧ ChainAt C H x many ms ∧ Good many ms ∧ SqL K H b (bs.map V.int) ∧ bs.length < 64 ∧ 1 ≤ bs.length ∧ (∀ z ∈ bs, 0 ≤ z ∧ z < (many : Int)) ∧ H l = some (.lst (ns.map V.int)) ∧ NumsOk ms ns ∧
  ∀ v H', Same H H' → DrawnB H' v many (rowsOf ms ns) bs → Q v H'
theorem ok_drawnFrom {f fS fO fP fT : Addr} {fd fdS fdO fdP fdT : FuncData} (F : Fun K "drawn_from" "drawn_from" sDrawnFrom f fd) (FS : Fun K "steps_of" "steps_of" sStepsOf fS fdS) (bS : Binds K fdS ["chain", "numbers"] []) (gS : mg "steps_of" = some (.ref fS))
    (FO : Fun K "_are_one" "_are_one" sAreOne fO fdO) (bO : Binds K fdO ["ends"] []) (gO : mg "_are_one" = some (.ref fO)) (T : ChM K C fP fT fdP fdT) (mr : mg "range" = none) (ml : mg "len" = none) (mL : mg "list" = none) (mS : mg "set" = none) :
    FnOk P w K mg base CX0 3 f fd ["chain", "begins", "numbers"] (spDf K C) := by
  have GS : FnOk P w K mg base CX0 2 fS fdS ["chain", "numbers"] (spSteps C) := ok_steps FS T mr ml mL
  have GO : FnOk P w K mg base CX0 1 fO fdO ["ends"] (spOne K) := ok_one FO ml mS
  have GP : FnOk P w K mg base CX0 1 fP fdP ["self"] (spPlaces C) := ok_places T.FP T.cl T.nM
  refine F.ok scDf (fun vs H Q E h => ?_) (fun cdv A outer s H vs Q E hr h => ?_)
  · obtain ⟨x, b, l, many, ms, bs, ns, rfl, _⟩ := h
    rfl
  · obtain ⟨x, b, l, many, ms, bs, ns, rfl, hC, G, hb, b64, b1, hbs, hl, hN, q⟩ := h
    have r1 : Room 1 _ := hr.mono (by decide)
    refine ⟨_, pss_cons (ps_set (i := 3) scDf.nd rfl (.inl rfl) (pe_call GS hr (by rfl) gS FS.kp bS .nil pass0 (pa_cons (pv 0) (pa_cons (pv 2) pa_nil))))
      (pss_cons (ps_set (i := 4) scDf.nd rfl (.inr rfl) (pe_listRg rfl (by rfl) mL (prg_1 (by rfl) mr (pe_meth0 (pv 0) T.cl T.hP GP r1 T.bP .nil pass0))))
      (pss_cons (ps_set (i := 5) scDf.nd rfl (.inl rfl) (pe_callTy call_list_of (by rfl) mL (by decide +kernel) (pa_cons (pv 1) pa_nil)))
      (pss_cons (ps_set (i := 6) scDf.nd rfl (.inl rfl) pe_int)
      (pss_cons (ps_while PassesOwn.never (PW.pt (pw_and (pt_cmpR op_lt (pv 6) (pe_callB call_len_seq (by rfl) ml PySem.boot_len (pa_cons (pv 3) pa_nil)) (nomark _)) (pw_and1 (pt_not (pt_val (pe_call GO r1 (by rfl) gO FO.kp bO .nil pass0 (pa_cons (pv 5) pa_nil)))))))
        (pss_cons (ps_set (i := 4) scDf.nd rfl (.inr rfl) (pe_lc (own := [("place", 7)]) (g := gName 7) (tt := tYes) (te := tOp (rIxL K) (tVar 4) (tVar 7)) rfl scDf.nd (pi_tup (pe_ix ix_list (pv 3) (pv 6) (fun _ _ => rfl))) (blkOk_by (N := nDf) (sc := defScope sDrawnFrom) (by decide +kernel))
          (fun _ _ _ _ _ => pg_name (i := 7) scDf.nd rfl (.inl rfl)) (fun _ _ _ _ _ => pts_nil) (fun _ _ _ _ _ => by exact (pe_ix ix_list (pv 4) (pv 7) (fun _ _ => rfl)))))
        (pss_cons (ps_setLc (i := 5) (own := [("place", 7)]) (g := gName 7) (tt := tYes) (te := tOp (rIxL K) (tVar 4) (tVar 7)) rfl scDf.nd rfl rfl (sw_true rfl rfl rfl (by decide +kernel)) (pi_list (pv 1)) (blkOk_by (N := nDf) (sc := defScope sDrawnFrom) (by decide +kernel))
          (fun _ _ _ _ _ => pg_name (i := 7) scDf.nd rfl (.inl rfl)) (fun _ _ _ _ _ => pts_nil) (fun _ _ _ _ _ => by exact (pe_ix ix_list (pv 4) (pv 7) (fun _ _ => rfl))))
        (pss_one (ps_aug (i := 6) scDf.nd rfl (.inl rfl) pe_int ip_add)))))
      (pss_cons (ps_if (pt_val (pe_call GO r1 (by rfl) gO FO.kp bO .nil pass0 (pa_cons (pv 5) pa_nil))) (pss_one (ps_ret (pe_tup (pa_cons (pe_ix ix_list (pv 5) pe_int (fun _ _ => rfl)) (pa_cons (pv 6) pa_nil))))) pss_nil)
      (pss_one (ps_ret pe_non))))))), ?_⟩
    have h8 := G.l8
    have m6 := G.m6
    have m1 := G.m1
    refine ⟨.ref x, rfl, .ref l, rfl, x, l, many, ms, ns, rfl, hC, hl, hN, h8, fun S H1 s1 nS hSt => ?_⟩
    have hC1 := hC.same s1
    obtain ⟨dx, a0, ws, h1, h2, h3⟩ := id hC1
    obtain ⟨qs, hS, hp⟩ := hSt
    have gR := rowsOf_good G hN
    have lenR : (rowsOf ms ns).length = ns.length := by
      unfold rowsOf
      rw [List.length_map]
    have lenQ : qs.length = (rowsOf ms ns).length := hp.length
    have n1000 := hN.1
    have gE := endsK_good gR
    have lenSeen : ∀ k, (seenK many (rowsOf ms ns) bs k).length = bs.length := fun k => by
      unfold seenK
      rw [List.length_map]
    refine ⟨.ref x, rfl, x, dx, _, rfl, h1, ch_no, x, many, ms, rfl, hC1, _, rfl, RgOk.of_le (by omega) (by omega) (by omega) (by omega), fun e0 ne0 => ?_⟩
    rw [rg_ends]
    have s2 : Same H1 (upd H1 e0 (.lst ((endsK many (rowsOf ms ns) 0).map V.int))) := same_new ne0
    have hb1 := s1.seq hb
    refine ⟨.ref b, rfl, b, _, rfl, .inl (s2.seq hb1), fun g0 ng0 => ?_⟩
    have s3' : Same (upd H1 e0 (.lst ((endsK many (rowsOf ms ns) 0).map V.int))) (upd (upd H1 e0 (.lst ((endsK many (rowsOf ms ns) 0).map V.int))) g0 (.lst (bs.map V.int))) := same_new ng0
    refine while_by (fun σ H' => ∃ (k : Nat) (e g : Addr), σ = [some (.ref x), some (.ref b), some (.ref l), some (.ref S), some (.ref e), some (.ref g), some (.int (k : Int)), none] ∧ Same H1 H' ∧ k ≤ (rowsOf ms ns).length ∧ H' e = some (.lst ((endsK many (rowsOf ms ns) k).map V.int)) ∧ H' g = some (.lst ((seenK many (rowsOf ms ns) bs k).map V.int)) ∧ ∀ j, j < k → one (seenK many (rowsOf ms ns) bs j) = false)
      (fun σ _ => match σ with | [_, _, _, _, _, _, some (.int k), _] => (rowsOf ms ns).length - k.toNat | _ => 0) ⟨0, e0, g0, rfl, s2.trans s3', Nat.zero_le _, s3' _ _ upd_same, by rw [seenK_zero hbs]; exact upd_same, fun j hj => absurd hj (Nat.not_lt_zero _)⟩ ?_ ?_
    · rintro σ H2 ⟨k, e, g, rfl, s3, hk, he, hg, hbef⟩
      have hS2 := s3 _ _ hS
      obtain ⟨gl, gx⟩ := gE k hk
      have h64 : (seenK many (rowsOf ms ns) bs k).length < 64 := by rw [lenSeen]; exact b64
      -- what follows the loop
      have after : (k = (rowsOf ms ns).length ∨ one (seenK many (rowsOf ms ns) bs k) = true) → tSeq (tIfS (tB (tCall (spOne K) [] E0 (tCons (tVar 5) tNil))) (tRet (tTup (tCons (tOp (rIxL K) (tVar 5) (tC (.int 0))) (tCons (tVar 6) tNil)))) tNext) (tRet (tC .non)) { nx := fun _ H' => Q .non H', rt := Q } [some (.ref x), some (.ref b), some (.ref l), some (.ref S), some (.ref e), some (.ref g), some (.int (k : Int)), none] H2 := by
        intro hex
        refine ⟨.ref g, rfl, g, _, rfl, hg, h64, _, rfl, ite2 (fun c => ?_) (fun c => ?_)⟩
        · have g0 : ((seenK many (rowsOf ms ns) bs k).map V.int)[0]? = some (.int (goK (seenK many (rowsOf ms ns) bs k) 0)) := by
            have h0 : 0 < (seenK many (rowsOf ms ns) bs k).length := by rw [lenSeen]; omega
            rw [List.getElem?_map, List.getElem?_eq_getElem h0]
            unfold goK
            rw [List.getD_eq_getElem?_getD, show (0 : Int).toNat = 0 from rfl, List.getElem?_eq_getElem h0]
            rfl
          refine ⟨.ref g, rfl, g, _, 0, _, rfl, rfl, SqL.of hg, atI_nat (j := 0) g0, .int (k : Int), rfl, (by show 2 ≤ sizeLine; decide), fun t nt => ?_⟩
          exact q _ _ ((s1.trans s3).trans (same_new nt)) (.inl ⟨k, t, ⟨hk, c, hbef⟩, rfl, upd_same⟩)
        · refine q _ _ (s1.trans s3) (.inr ⟨fun j hj => ?_, rfl⟩)
          by_cases hjk : j < k
          · exact hbef j hjk
          · have ek : k = (rowsOf ms ns).length := hex.resolve_right c
            have ej : j = k := by omega
            rw [ej]
            cases ho : one (seenK many (rowsOf ms ns) bs k) with
            | false => rfl
            | true => exact absurd ho c
      refine ⟨.int (k : Int), rfl, .ref S, rfl, S, _, rfl, .inl (SqL.of hS2), _, _, rfl, rfl, _, rfl, ite2 (fun c => ?_) (fun c => ?_)⟩
      · have hlt : k < (rowsOf ms ns).length := by
          have := of_decide_eq_true c
          rw [List.length_map, lenQ] at this
          omega
        refine ⟨.ref g, rfl, g, _, rfl, hg, h64, _, rfl, ?_⟩
        cases ho : one (seenK many (rowsOf ms ns) bs k) with
        | true => exact after (.inr ho)
        | false =>
          refine (if_pos (rfl : (!false) = true)).mpr ?_
          have er := List.getElem?_eq_getElem hlt
          obtain ⟨qa, eqa, hqa⟩ := paired_get hp er
          have gS : (qs.map V.ref)[k]? = some (.ref qa) := by rw [List.getElem?_map, eqa]; rfl
          have hqa2 := s3 _ _ hqa
          obtain ⟨rl, rx⟩ := gR _ (List.getElem_mem hlt)
          refine ⟨.ref S, rfl, .int (k : Int), rfl, S, _, (k : Int), _, rfl, rfl, SqL.of hS2, atI_nat gS, qa, rfl, ⟨_, SqT.of hqa2⟩, fun D nD => ?_⟩
          have eK : endsK many (rowsOf ms ns) (k + 1) = (rowsOf ms ns)[k].map (goK (endsK many (rowsOf ms ns) k)) := by
            show ((rowsOf ms ns).getD k []).map _ = _
            rw [List.getD_eq_getElem?_getD, er]
            rfl
          refine lc_tup (K := K) (a := qa) (xs := ((rowsOf ms ns)[k]).map V.int) (fun i H' => Same H2 H' ∧ H' D = some (.lst ((((rowsOf ms ns)[k].map (goK (endsK many (rowsOf ms ns) k))).take i).map V.int)))
            ⟨same_new nD, by rw [List.take_zero]; exact upd_same⟩ (fun i H' _ h => SqT.of (h.1 _ _ hqa2)) ?_ ?_
          · rintro i v H3 hv ⟨s4, hD⟩
            rw [List.getElem?_map] at hv
            obtain ⟨p, hpp, rfl⟩ := Option.map_eq_some_iff.mp hv
            obtain ⟨p0, p1⟩ := rx p (List.mem_of_getElem? hpp)
            have hpl : p.toNat < (endsK many (rowsOf ms ns) k).length := by omega
            have ge : ((endsK many (rowsOf ms ns) k).map V.int)[p.toNat]? = some (.int (goK (endsK many (rowsOf ms ns) k) p)) := by
              rw [List.getElem?_map, List.getElem?_eq_getElem hpl]
              unfold goK
              rw [List.getD_eq_getElem?_getD, List.getElem?_eq_getElem hpl]
              rfl
            have hi : i < (rowsOf ms ns)[k].length := by
              obtain ⟨q1, _⟩ := List.getElem?_eq_some_iff.mp hpp
              exact q1
            refine ⟨rfl, .ref e, rfl, .int p, rfl, e, _, p, _, rfl, rfl, SqL.of (s4 _ _ he), at_of (show p = ((p.toNat : Nat) : Int) by omega) ge, _, hD, ?_, fun b u eb => by rw [upd_ne (ne_of_none eb nD)]; exact s4 _ _ eb, ?_⟩
            · rw [List.length_map, List.length_take]
              exact small8 (Nat.le_trans (Nat.min_le_left _ _) (by omega))
            · rw [upd_same, take_snoc (x := goK (endsK many (rowsOf ms ns) k) p) (by rw [List.getElem?_map, hpp]; rfl), List.map_append]
              rfl
          · rintro H3 ⟨s4, hD⟩
            rw [List.length_map, List.take_of_length_le (by rw [List.length_map]; exact Nat.le_refl _), ← eK] at hD
            have hb3 : SqL K H3 b (bs.map V.int) := (s3.trans s4).seq hb1
            obtain ⟨gl', gx'⟩ := gE (k + 1) hlt
            refine ⟨.ref b, rfl, b, rfl, ⟨_, hb3⟩, fun D' nD' => ?_⟩
            refine lc_list (K := K) (a := b) (xs := bs.map V.int) (fun i H' => Same H3 H' ∧ H' D' = some (.lst (((seenK many (rowsOf ms ns) bs (k + 1)).take i).map V.int)))
              ⟨same_new nD', by rw [List.take_zero]; exact upd_same⟩ (fun i H' _ h => h.1.seq hb3) ?_ ?_
            · rintro i v H4 hv ⟨s5, hD4⟩
              rw [List.getElem?_map] at hv
              obtain ⟨p, hpp, rfl⟩ := Option.map_eq_some_iff.mp hv
              obtain ⟨p0, p1⟩ := hbs p (List.mem_of_getElem? hpp)
              have hpl : p.toNat < (endsK many (rowsOf ms ns) (k + 1)).length := by omega
              have ge : ((endsK many (rowsOf ms ns) (k + 1)).map V.int)[p.toNat]? = some (.int (goK (endsK many (rowsOf ms ns) (k + 1)) p)) := by
                rw [List.getElem?_map, List.getElem?_eq_getElem hpl]
                unfold goK
                rw [List.getD_eq_getElem?_getD, List.getElem?_eq_getElem hpl]
                rfl
              refine ⟨rfl, .ref D, rfl, .int p, rfl, D, _, p, _, rfl, rfl, SqL.of (s5 _ _ hD), at_of (show p = ((p.toNat : Nat) : Int) by omega) ge, _, hD4, ?_, fun b u eb => by rw [upd_ne (ne_of_none eb nD')]; exact s5 _ _ eb, ?_⟩
              · rw [List.length_map, List.length_take, lenSeen]
                exact small1k (Nat.le_trans (Nat.min_le_right _ _) (by omega))
              · have et : (seenK many (rowsOf ms ns) bs (k + 1))[i]? = some (goK (endsK many (rowsOf ms ns) (k + 1)) p) := by
                  unfold seenK
                  rw [List.getElem?_map, hpp]
                  rfl
                rw [upd_same, take_snoc et, List.map_append]
                rfl
            · rintro H4 ⟨s5, hD4⟩
              rw [List.length_map, List.take_of_length_le (by rw [lenSeen]; exact Nat.le_refl _)] at hD4
              refine ⟨.int (k : Int), rfl, (k : Int), 1, rfl, rfl, ⟨k + 1, D, D', ?_, (s3.trans s4).trans s5, hlt, s5 _ _ hD, hD4, fun j hj => ?_⟩, ?_⟩
              · rfl
              · by_cases hjk : j < k
                · exact hbef j hjk
                · have ej : j = k := by omega
                  rw [ej]
                  exact ho
              · show (rowsOf ms ns).length - ((k : Int) + 1).toNat < (rowsOf ms ns).length - ((k : Int)).toNat
                omega
      · have hge : k = (rowsOf ms ns).length := by
          have h9 : ¬ ((k : Int) < ((qs.map V.ref).length : Int)) := fun z => c (decide_eq_true z)
          rw [List.length_map, lenQ] at h9
          omega
        exact after (.inl hge)
    · rintro σ H2 Q1 Q2 hq ⟨v, e1, u, e2, p, ys, e3, e4, i, j, e5, e6, b, e7, h⟩
      refine ⟨v, e1, u, e2, p, ys, e3, e4, i, j, e5, e6, b, e7, ?_⟩
      cases b with
      | false => exact hq _ _ h
      | true =>
        obtain ⟨z, e8, l2, ns2, e9, e10, e11, k2, e12, h2⟩ := h
        exact ⟨z, e8, l2, ns2, e9, e10, e11, k2, e12, hq _ _ h2⟩
end
section
variable {P : Program} {w : World} {K : PySem.W.Frag} {mg : Str → Option Value} {base : Heap} {C : Addr}
abbrev LstOf (H : Hp) : V → List Int → Prop := fun v xs => ∃ a, v = V.ref a ∧ H a = some (.lst (xs.map V.int))
def ListsAt (H : Hp) (L : Addr) (xss : List (List Int)) : Prop := ∃ vs, H L = some (.lst vs) ∧ Paired (LstOf H) vs xss
theorem ListsAt.same {H H' : Hp} {L : Addr} {xss : List (List Int)} (s : Same H H') (h : ListsAt H L xss) : ListsAt H' L xss := by
  obtain ⟨vs, e, p⟩ := h
  exact ⟨vs, s _ _ e, L2.Paired.mapP p fun v xs ⟨a, h1, h2⟩ => ⟨a, h1, s _ _ h2⟩⟩
/-- lists at F, none of them F -/
def ListsIn (H : Hp) (F : Addr) (xss : List (List Int)) : Prop := ∃ vs, H F = some (.lst vs) ∧ Paired (fun v xs => ∃ a, v = V.ref a ∧ a ≠ F ∧ H a = some (.lst (xs.map V.int))) vs xss
theorem ListsIn.same {H H' : Hp} {L : Addr} {xss : List (List Int)} (s : Same H H') (h : ListsIn H L xss) : ListsIn H' L xss := by
  obtain ⟨vs, e, p⟩ := h
  exact ⟨vs, s _ _ e, L2.Paired.mapP p fun v xs ⟨a, h1, h2, h3⟩ => ⟨a, h1, h2, s _ _ h3⟩⟩
theorem ListsIn.at {H : Hp} {L : Addr} {xss : List (List Int)} (h : ListsIn H L xss) : ListsAt H L xss := by
  obtain ⟨vs, e, p⟩ := h
  exact ⟨vs, e, L2.Paired.mapP p fun v xs ⟨a, h1, h2, h3⟩ => ⟨a, h1, h3⟩⟩
theorem dp_lists {K : PySem.W.Frag} {H : Hp} : ∀ {vs : List V} {xss : List (List Int)}, Paired (LstOf H) vs xss → DpAll K H vs (xss.map fun xs => .list (xs.map PyData.int))
  | _, _, .nil => .nil
  | _, _, .cons ⟨a, e, h⟩ t => .cons (by rw [e]; exact dp_lst h) (dp_lists t)
def lsD (xss : List (List Int)) : PyData := .list (xss.map fun xs => .list (xs.map PyData.int))
theorem Sh.lists (xss : List (List Int)) : Sh 2 (lsD xss) := Sh.list fun d hd => by
  obtain ⟨xs, _, rfl⟩ := List.mem_map.mp hd
  exact Sh.list (Sh.ints xs)
theorem ListsAt.dp {K : PySem.W.Frag} {H : Hp} {L : Addr} {xss : List (List Int)} (h : ListsAt H L xss) : Dp K H (.ref L) (lsD xss) := by
  obtain ⟨vs, e, p⟩ := h
  exact .lst (SqL.of e) (dp_lists p)
theorem Sh.lst (xs : List Int) : Sh 1 (.list (xs.map PyData.int)) := Sh.list (Sh.ints xs)
theorem eqv_lst (xs ys : List Int) : PyData.eqv (.list (xs.map PyData.int)) (.list (ys.map PyData.int)) = decide (xs = ys) := by
  simp only [PyData.eqv]
  exact PySem.W.ked_eqvAll xs ys
theorem any_lsts (g : List Int) : ∀ xss : List (List Int), ((xss.map fun xs => PyData.list (xs.map PyData.int)).any fun z => PyData.eqv z (.list (g.map PyData.int))) = decide (g ∈ xss)
  | [] => by rw [decide_eq_false (by simp)]; rfl
  | x :: xss => by
    rw [List.map_cons, List.any_cons, eqv_lst, any_lsts g xss]
    by_cases c : x = g
    · subst c
      rw [decide_eq_true rfl, decide_eq_true List.mem_cons_self]
      rfl
    · rw [decide_eq_false c, Bool.false_or]
      exact decide_eq_decide.mpr ⟨fun h => List.mem_cons_of_mem _ h, fun h => (List.mem_cons.mp h).resolve_left (Ne.symm c)⟩
end
/-! ### orders: the mathematics -/
def rankO (o : List Int) (x : Int) : Int := ((o.idxOf x : Nat) : Int)
def standsO (row o : List Int) : List Int := o.map fun p => rankO o (goK row p)
def keepsR (row o : List Int) : Bool := decide ((standsO row o).Pairwise (· ≤ ·))
/-- the first move that doesn't keep the order -/
def fbN (ms : List Mv) (o : List Int) : Option Nat := ms.findIdx? fun mv => !keepsR mv.2 o
def fbV (ms : List Mv) (o : List Int) : V := match fbN ms o with
  | none => .non
  | some k => .int (k : Int)
def isOrd (many : Nat) (o : List Int) : Prop := o.Perm (ids many)
theorem isOrd.mem {many : Nat} {o : List Int} (h : isOrd many o) {x : Int} : x ∈ o ↔ 0 ≤ x ∧ x < (many : Int) := (h.mem_iff).trans mem_ids
theorem isOrd.len {many : Nat} {o : List Int} (h : isOrd many o) : o.length = many := by
  rw [h.length_eq]
  unfold ids
  rw [List.length_map, List.length_range]
theorem ix_at {o : List Int} {x : Int} (h : x ∈ o) : (o.map V.int)[o.idxOf x]? = some (.int x) := by
  have hl : o.idxOf x < o.length := List.idxOf_lt_length_of_mem h
  rw [List.getElem?_map, List.getElem?_eq_getElem hl, List.getElem_idxOf hl]
  rfl
theorem ix_before {o : List Int} {x : Int} {m : Nat} {z : V} (hm : m < o.idxOf x) (e : (o.map V.int)[m]? = some z) : eqV z (.int x) = false := by
  rw [List.getElem?_map] at e
  obtain ⟨y, hy, rfl⟩ := Option.map_eq_some_iff.mp e
  obtain ⟨lt, e2⟩ := List.getElem?_eq_some_iff.mp hy
  have : y ≠ x := by
    intro z
    have h := List.not_of_lt_findIdx (p := (· == x)) (xs := o) hm
    rw [e2, z] at h
    simp at h
  show (y == x) = false
  exact beq_eq_false_iff_ne.mpr this
theorem flat_ints (ns : List Int) : (ns.map V.int).all flatV = true := List.all_eq_true.mpr fun v hv => by
  obtain ⟨n, _, rfl⟩ := List.mem_map.mp hv
  rfl
theorem sort_same : ∀ {xs ys : List Int}, xs.Perm ys → xs.Pairwise (· ≤ ·) → ys.Pairwise (· ≤ ·) → xs = ys
  | [], ys, h, _, _ => (List.nil_perm.mp h).symm
  | x :: xs, [], h, _, _ => absurd h.symm.nil_eq (by simp)
  | x :: xs, y :: ys, h, hx, hy => by
    obtain ⟨x1, x2⟩ := List.pairwise_cons.mp hx
    obtain ⟨y1, y2⟩ := List.pairwise_cons.mp hy
    have e : x = y := by
      have m1 := h.mem_iff.mp (List.mem_cons_self (a := x) (l := xs))
      have m2 := h.mem_iff.mpr (List.mem_cons_self (a := y) (l := ys))
      rcases List.mem_cons.mp m1 with a | a
      · exact a
      · rcases List.mem_cons.mp m2 with b | b
        · exact b.symm
        · have := x1 y b
          have := y1 x a
          omega
    subst e
    rw [sort_same (List.Perm.cons_inv h) x2 y2]
theorem ids_le (many : Nat) : (ids many).Pairwise (· ≤ ·) := List.Pairwise.imp (fun {a b} (h : a < b) => (by omega : a ≤ b)) (ids_pair many)
/-- sorted is all places in turn just for an order -/
theorem sorted_ids {many : Nat} {o zs : List Int} (hp : zs.Perm o) (hs : zs.Pairwise (· ≤ ·)) : (zs = ids many) ↔ isOrd many o := by
  constructor
  · intro e
    subst e
    exact hp.symm
  · intro h
    exact sort_same (hp.trans h) hs (ids_le many)
theorem goK_ord {many : Nat} {row o : List Int} (hr : GoodRow many row) (ho : isOrd many o) {p : Int} (hp : p ∈ o) : goK row p ∈ o := ho.mem.mpr (goK_in' hr (ho.mem.mp hp).1 (ho.mem.mp hp).2)
theorem fbN_none {ms : List Mv} {o : List Int} : fbN ms o = none ↔ ∀ mv ∈ ms, keepsR mv.2 o = true := by
  unfold fbN
  rw [List.findIdx?_eq_none_iff]
  constructor
  · intro h mv hm
    have := h mv hm
    cases hk : keepsR mv.2 o with
    | true => rfl
    | false =>
      rw [hk] at this
      cases this
  · intro h mv hm
    rw [h mv hm]
    rfl
theorem standsO_at {row o : List Int} {k : Nat} {p : Int} (h : o[k]? = some p) : (standsO row o)[k]? = some (rankO o (goK row p)) := by
  unfold standsO
  rw [List.getElem?_map, h]
  rfl
section
variable {P : Program} {w : World} {K : PySem.W.Frag} {mg : Str → Option Value} {base : Heap} {C : Addr}
/-! ### _keeps -/
theorem scKe : FnScope ["whither", "order", "stands", "place"] ["whither", "order"] (defScope sKeeps) := ⟨rfl, rfl, rfl, by decide +kernel, rfl, by decide +kernel, by decide +kernel⟩
def spKe : Sp := fun vs H Q _ => ∃ (wa l : Addr) (many : Nat) (row o : List Int), vs = [.ref wa, .ref l] ∧ H wa = some (.tup (row.map V.int)) ∧ H l = some (.lst (o.map V.int)) ∧ many ≤ 6 ∧ GoodRow many row ∧ isOrd many o ∧ ∀ H', Same H H' → Q (.bl (keepsR row o)) H'
theorem ok_keeps {k : Nat} {f : Addr} {fd : FuncData} (F : Fun K "_keeps" "_keeps" sKeeps f fd) (ms' : mg "sorted" = none) : FnOk P w K mg base CX0 (k + 1) f fd ["whither", "order"] spKe := by
  refine F.ok scKe (fun vs H Q E h => ?_) (fun cdv A outer s H vs Q E hr h => ?_)
  · obtain ⟨wa, l, many, row, o, rfl, _⟩ := h
    rfl
  · obtain ⟨wa, l, many, row, o, rfl, hw, hl, m6, hrow, ho, q⟩ := h
    have hu := hu64 hr
    refine ⟨_, (pss_cons (ps_setLc (i := 2) (own := [("place", 3)]) (g := gName 3) (tt := tYes) (te := (tBM K "list" (rIndex K) (tVar 1) (tCons (tOp (rIxT K) (tVar 0) (tVar 3)) tNil))) rfl scKe.nd rfl rfl (sw_true rfl rfl rfl (by decide +kernel)) (pi_list (pv 1)) (blkOk_by (N := ["whither", "order", "stands", "place"]) (sc := defScope sKeeps) (by decide +kernel)) (fun _ _ _ _ _ => by exact (pg_name (i := 3) scKe.nd rfl (.inl rfl))) (fun _ _ _ _ _ => pts_nil) (fun _ _ _ _ _ => by exact (pe_bm PySem.F.plainAttrs_list PySem.F.slot_list_index PySem.F.type_list_index mt_index (pv 1) (pa_cons (pe_ix ix_tup (pv 0) (pv 3) (fun _ _ => rfl)) pa_nil))))
      (pss_one (ps_ret (pe_cmpR (op_eqD hu) (pv 2) (pe_callB cr_sorted (by rfl) ms' (by decide +kernel) (pa_cons (pv 2) pa_nil)) (nomark _))))), ?_⟩
    have lo := ho.len
    refine ⟨.ref l, rfl, l, rfl, ⟨_, SqL.of hl⟩, fun D nD => ?_⟩
    refine lc_list (K := K) (a := l) (xs := o.map V.int) (fun i H' => Same H H' ∧ H' D = some (.lst (((standsO row o).take i).map V.int))) ⟨same_new nD, by rw [List.take_zero]; exact upd_same⟩ (fun i H' _ h => SqL.of (h.1 _ _ hl)) ?_ ?_
    · rintro i v H1 hv ⟨s1, hD⟩
      rw [List.getElem?_map] at hv
      obtain ⟨p, hp, rfl⟩ := Option.map_eq_some_iff.mp hv
      have hpo := List.mem_of_getElem? hp
      obtain ⟨p0, p1⟩ := ho.mem.mp hpo
      have hg := goK_ord hrow ho hpo
      refine ⟨rfl, .ref l, rfl, .inl ⟨rfl, _, SqL.of (s1 _ _ hl)⟩, .ref wa, rfl, .int p, rfl, wa, _, p, _, rfl, rfl, SqT.of (s1 _ _ hw), at_of (show p = ((p.toNat : Nat) : Int) by omega) (at_goK p0 (by rw [hrow.1]; omega)), ?_⟩
      refine ⟨l, _, .int (goK row p), o.idxOf (goK row p), _, rfl, rfl, SqL.of (s1 _ _ hl), rfl, flat_ints o, ix_at hg, beq_self_eq_true _, fun m z hm e => ix_before hm e, ?_⟩
      refine ⟨_, hD, by rw [List.length_map, List.length_take]; exact small8 (Nat.le_trans (Nat.min_le_right _ _) (by unfold standsO; rw [List.length_map]; omega)), fun b u e => by rw [upd_ne (ne_of_none e nD)]; exact s1 _ _ e, ?_⟩
      have e1 : (standsO row o)[i]? = some (rankO o (goK row p)) := by
        unfold standsO
        rw [List.getElem?_map, hp]
        rfl
      rw [upd_same, take_snoc e1, List.map_append]
      rfl
    · rintro H1 ⟨s1, hD⟩
      rw [List.length_map, List.take_of_length_le (by unfold standsO; rw [List.length_map]; exact Nat.le_refl _)] at hD
      refine ⟨.ref D, rfl, .ref D, rfl, D, _, rfl, SqL.of hD, by unfold standsO; rw [List.length_map]; omega, fun zs L hp hs nL => ?_⟩
      have s2 := same_new (o := .lst (zs.map V.int)) nL
      refine ⟨_, _, dp_lst (s2 _ _ hD), dp_lst upd_same, (Sh.lst _).shaped (by decide), (Sh.lst _).shaped (by decide), ?_⟩
      rw [eqv_lst]
      have e : decide (standsO row o = zs) = keepsR row o := by
        unfold keepsR
        refine decide_eq_decide.mpr ⟨fun e => ?_, fun h => ?_⟩
        · rw [e]
          exact hs
        · exact sort_same hp.symm h hs
      rw [e]
      exact q _ (s1.trans s2)
end
section
variable {P : Program} {w : World} {K : PySem.W.Frag} {mg : Str → Option Value} {base : Heap} {C : Addr}
/-! ### _first_breaking, keeps_order, first_order -/
theorem scFb : FnScope ["chain", "order", "number", "_", "whither"] ["chain", "order"] (defScope sFirstBreaking) := ⟨rfl, rfl, rfl, by decide +kernel, rfl, by decide +kernel, by decide +kernel⟩
def spFb (C : Addr) : Sp := fun vs H Q _ => ∃ (x l : Addr) (many : Nat) (ms : List Mv) (o : List Int), vs = [.ref x, .ref l] ∧ ChainAt C H x many ms ∧ Good many ms ∧ H l = some (.lst (o.map V.int)) ∧ isOrd many o ∧ ∀ H', Same H H' → Q (fbV ms o) H'
theorem findIdx_none {α : Type} {l : List α} {p : α → Bool} (h : ∀ x ∈ l, p x = false) : l.findIdx? p = none := List.findIdx?_eq_none_iff.mpr h
theorem findIdx_at {α : Type} {l : List α} {p : α → Bool} {i : Nat} {x : α} (e : l[i]? = some x) (hp : p x = true) (hb : ∀ j y, j < i → l[j]? = some y → p y = false) : l.findIdx? p = some i := by
  obtain ⟨lt, e2⟩ := List.getElem?_eq_some_iff.mp e
  refine List.findIdx?_eq_some_iff_getElem.mpr ⟨lt, by rw [e2]; exact hp, fun j hj => ?_⟩
  rw [hb j _ hj (List.getElem?_eq_getElem (by omega))]
  exact Bool.false_ne_true
theorem ok_fb {f fK fP fT : Addr} {fd fdK fdP fdT : FuncData} (F : Fun K "_first_breaking" "_first_breaking" sFirstBreaking f fd) (DK : Df K mg "_keeps" sKeeps ["whither", "order"] fK fdK) (T : ChM K C fP fT fdP fdT) (ms' : mg "sorted" = none) (mL : mg "list" = none) (mr : mg "range" = none) (mE : mg "enumerate" = none) : FnOk P w K mg base CX0 2 f fd ["chain", "order"] (spFb C) := by
  have GK : FnOk P w K mg base CX0 1 fK fdK ["whither", "order"] spKe := ok_keeps DK.F ms'
  have GT : FnOk P w K mg base CX0 1 fT fdT ["self"] (spTold C) := ok_told T.FT T.cl T.nV mL
  have GP : FnOk P w K mg base CX0 1 fP fdP ["self"] (spPlaces C) := ok_places T.FP T.cl T.nM
  refine F.ok scFb (fun vs H Q E h => ?_) (fun cdv A outer s H vs Q E hr h => ?_)
  · obtain ⟨x, l, many, ms, o, rfl, _⟩ := h
    rfl
  · obtain ⟨x, l, many, ms, o, rfl, hC, G, hl, ho, q⟩ := h
    have hu := hu64 hr
    have r1 : Room 1 _ := hr.mono (by decide)
    refine ⟨_, (pss_cons (ps_if (pt_cmpR (op_neD hu) (pe_callB cr_sorted (by rfl) ms' (by decide +kernel) (pa_cons (pv 1) pa_nil)) (pe_listRg rfl (by rfl) mL (prg_1 (by rfl) mr (pe_meth0 (pv 0) T.cl T.hP GP r1 T.bP .nil pass0))) (nomark _)) pss_never pss_nil)
      (pss_cons (ps_for PassesOwn.never rfl (pi_enum (by rfl) mE (pa_cons (pe_meth0 (pv 0) T.cl T.hT GT r1 T.bT .nil pass0) pa_nil)) (pg_tup rfl (pgs_cons (pg_name (i := 2) scFb.nd rfl (.inl rfl)) (pgs_cons (pg_tup rfl (pgs_cons (pg_name (i := 3) scFb.nd rfl (.inl rfl)) (pgs_cons (pg_name (i := 4) scFb.nd rfl (.inl rfl)) pgs_nil))) pgs_nil))) (pss_one (ps_if (pt_not (pt_val (pe_call GK hr (by rfl) DK.g DK.F.kp DK.b .nil pass0 (pa_cons (pv 4) (pa_cons (pv 1) pa_nil))))) (pss_one (ps_ret (pv 2))) pss_nil)))
      (pss_one (ps_ret pe_non)))), ?_⟩
    have m1 := G.m1
    have m6 := G.m6
    have l8 := G.l8
    have lo := ho.len
    refine ⟨.ref l, rfl, l, _, rfl, SqL.of hl, by omega, fun zs L hp hs nL => ?_⟩
    have s1 := same_new (o := .lst (zs.map V.int)) nL
    have hL1 : (upd H L (.lst (zs.map V.int))) L = some (.lst (zs.map V.int)) := upd_same
    generalize upd H L (.lst (zs.map V.int)) = H1 at s1 hL1 ⊢
    have hC1 := hC.same s1
    obtain ⟨dx, a0, ws, h1, h2, h3⟩ := id hC1
    refine ⟨.ref x, rfl, x, dx, _, rfl, h1, ch_no, x, many, ms, rfl, hC1, _, rfl, RgOk.of_le (by omega) (by omega) (by omega) (by omega), fun L2 nL2 => ?_⟩
    rw [rg_ends]
    have s2 := same_new (o := .lst (((List.range many).map fun (i : Nat) => (i : Int)).map V.int)) nL2
    have e1 : zs = (List.range many).map fun (i : Nat) => (i : Int) := (sorted_ids hp hs).mpr ho
    refine ne_same (d := .list (zs.map PyData.int)) (dp_lst (s2 _ _ hL1)) (by rw [e1]; exact dp_lst upd_same) (Sh.lst _) (by decide) ⟨false, rfl, iteF ?_⟩
    have s12 := s1.trans s2
    have hC2 := hC1.same s2
    have hl2 := s12 _ _ hl
    generalize upd H1 L2 (.lst (((List.range many).map fun (i : Nat) => (i : Int)).map V.int)) = H2 at s12 hC2 hl2 ⊢
    obtain ⟨dx, a0, ws, h1, h2, h3⟩ := id hC2
    refine ⟨.ref x, rfl, x, dx, _, rfl, h1, ch_noT, x, many, ms, rfl, hC2, fun m wl nm hM => ?_⟩
    have s3 := s12.trans (same_new (o := .lst wl) nm)
    have hm3 : (upd H2 m (.lst wl)) m = some (.lst wl) := upd_same
    generalize upd H2 m (.lst wl) = H3 at s3 hM hm3 ⊢
    refine ⟨m, wl, rfl, SqL.of hm3, for_it (walk_enum (K := K) (a := m) (xs := wl)) (fun i σ H' => ∃ y2 y3 y4, σ = [some (.ref x), some (.ref l), y2, y3, y4] ∧ Same H3 H' ∧ ∀ j mv, j < i → ms[j]? = some mv → keepsR mv.2 o = true) ⟨none, none, none, rfl, Same.refl _, fun j mv h => absurd h (Nat.not_lt_zero _)⟩ (fun i σ H' hi ⟨_, _, _, _, s, _⟩ => SqL.of (s _ _ hm3)) ?_ ?_⟩
    · rintro i z σ H4 H5 hi ⟨y2, y3, y4, rfl, s4, hbef⟩ ⟨Tp, u, v, rfl, nT, rfl, eu, ev⟩
      have eu' : u = .int (i : Int) := (Option.some.inj eu).symm
      subst eu'
      obtain ⟨mv, emv, hmv⟩ := hM.get' ev
      have sT := s4.trans (same_new (o := .tup [.int (i : Int), v]) nT)
      obtain ⟨ta, tb, rfl, hta, htb⟩ := hmv.same (Same.tups sT)
      have gm := G.mv mv (List.mem_of_getElem? emv)
      refine ⟨Tp, [.int (i : Int), .ref ta], rfl, SqT.of upd_same, rfl, .int (i : Int), [.ref ta], rfl, .ref ta, [], rfl, ?_⟩
      refine ⟨ta, [.int mv.1, .ref tb], rfl, SqT.of hta, rfl, .int mv.1, [.ref tb], rfl, .ref tb, [], rfl, rfl, rfl, ?_⟩
      refine ⟨.ref tb, rfl, .ref l, rfl, tb, l, many, mv.2, o, rfl, htb, (s3.trans sT) _ _ hl, m6, gm.2.2, ho, fun H6 s6 => ?_⟩
      cases hk : keepsR mv.2 o with
      | true =>
        refine ⟨true, rfl, ?_⟩
        refine ⟨some (.int (i : Int)), some (.int mv.1), some (.ref tb), rfl, sT.trans s6, fun j mv' hj e => ?_⟩
        by_cases c : j < i
        · exact hbef j mv' c e
        · have ej : j = i := by omega
          rw [ej, emv] at e
          cases e
          exact hk
      | false =>
        refine ⟨false, rfl, iteT ⟨.int (i : Int), rfl, ?_⟩⟩
        have e2 : fbV ms o = .int (i : Int) := by
          unfold fbV fbN
          rw [findIdx_at (p := fun mv => !keepsR mv.2 o) emv (by rw [hk]; rfl) (fun j y hj e => by rw [hbef j y hj e]; rfl)]
        have := q H6 ((s3.trans sT).trans s6)
        rw [e2] at this
        exact this
    · rintro σ H4 ⟨y2, y3, y4, rfl, s4, hbef⟩
      have e2 : fbV ms o = .non := by
        unfold fbV fbN
        rw [findIdx_none fun mv hmv => ?_]
        obtain ⟨j, hj, e⟩ := List.getElem_of_mem hmv
        rw [hbef j mv (by rw [hM.length]; exact hj) (by rw [← e]; exact List.getElem?_eq_getElem hj)]
        rfl
      have := q H4 (s3.trans s4)
      rw [e2] at this
      exact this
/-! keeps_order -/
end
section
variable {P : Program} {w : World} {K : PySem.W.Frag} {mg : Str → Option Value} {base : Heap} {C : Addr}
/-! ### steps_of, where a number is no move -/
def BadNo (ms : List Mv) (n : Int) : Prop := ¬ (0 ≤ n ∧ n < (ms.length : Int))
/-- numbers of which one is no move -/
def BadNos (ms : List Mv) (ns : List Int) : Prop := ns.length ≤ 1000 ∧ (∀ n ∈ ns, n.natAbs.log2 < 1920) ∧ ∃ n ∈ ns, BadNo ms n
def spStepsX (C CN : Addr) : Sp := fun vs H _ E => ∃ (x l : Addr) (many : Nat) (ms : List Mv) (ns : List Int), vs = [.ref x, .ref l] ∧ ChainAt C H x many ms ∧ H l = some (.lst (ns.map V.int)) ∧ BadNos ms ns ∧ ms.length ≤ 8 ∧
  ∀ H', Same H H' → E (.ref CN) none H'
theorem ok_stepsX {f fP fT CN : Addr} {fd fdP fdT : FuncData} (F : Fun K "steps_of" "steps_of" sStepsOf f fd) (T : ChM K C fP fT fdP fdT) (N : OwnE K mg "NoSuch" CN) (mr : mg "range" = none) (ml : mg "len" = none) (mL : mg "list" = none) : FnOk P w K mg base (L2.CX P w) 2 f fd ["chain", "numbers"] (spStepsX C CN) := by
  have GT : FnOk P w K mg base CX0 1 fT fdT ["self"] (spTold C) := ok_told T.FT T.cl T.nV mL
  refine F.okX scSt (fun vs H Q E h => ?_) (fun cdv A outer s H vs Q E hr h => ?_)
  · obtain ⟨x, l, many, ms, ns, rfl, _⟩ := h
    rfl
  · obtain ⟨x, l, many, ms, ns, rfl, hC, hl, ⟨n1000, small, bad⟩, h8, q⟩ := h
    refine ⟨_, pss_cons (ps_set (i := 2) scSt.nd rfl (.inr rfl) (pe_lc (own := [("_", 4), ("whither", 5)]) (g := gTup K 2 (gCons (gName 4) (gCons (gName 5) gNil))) (tt := tYes) (te := tVar 5) rfl scSt.nd (pi_list (pe_meth0 (pv 0) T.cl T.hT GT hr T.bT .nil pass0)) (blkOk_by (N := nSt) (sc := defScope sStepsOf) (by decide +kernel))
          (fun _ _ _ _ _ => by exact (pg_tup rfl (pgs_cons (pg_name (i := 4) scSt.nd rfl (.inl rfl)) (pgs_cons (pg_name (i := 5) scSt.nd rfl (.inl rfl)) pgs_nil)))) (fun _ _ _ _ _ => pts_nil) (fun _ _ _ _ _ => pv 5)))
      (pss_cons (ps_for (passes_of rfl) rfl (pi_list (pv 1)) (pg_name (i := 3) scSt.nd rfl (.inl rfl))
        (pss_one (ps_if (pt_cmpR op_notIn_rng (pv 3) (pe_callTy cr_range1 (by rfl) mr (by decide +kernel) (pa_cons (pe_callB call_len_seq (by rfl) ml PySem.boot_len (pa_cons (pv 2) pa_nil)) pa_nil)) rfl)
          (pss_one (ps_raise rfl (takes_of rfl rfl rfl rfl) (SkE.pmk_own1 PySem.F.excBase_ValueError N.x N.g N.k (raises_own N.b N.t) (by exact rfl) (pe_joined (.cons pe_str (.cons (pe_fmt (pv 3)) .nil)))))) pss_nil)))
      (pss_one (ps_ret (pe_lc (own := [("number", 3)]) (g := gName 3) (tt := tYes) (te := tOp (rIxL K) (tVar 2) (tVar 3)) rfl scSt.nd (pi_list (pv 1)) (blkOk_by (N := nSt) (sc := defScope sStepsOf) (by decide +kernel))
          (fun _ _ _ _ _ => pg_name (i := 3) scSt.nd rfl (.inl rfl)) (fun _ _ _ _ _ => pts_nil) (fun _ _ _ _ _ => by exact (pe_ix ix_list (pv 2) (pv 3) (fun _ _ => rfl))))))), ?_⟩
    obtain ⟨dx, a0, ws, h1, h2, h3⟩ := id hC
    refine ⟨.ref x, rfl, x, dx, _, rfl, h1, ch_noT, x, many, ms, rfl, hC, fun lt wl nlt hM => ?_⟩
    have s1 : Same H (upd H lt (.lst wl)) := same_new nlt
    have lenW := hM.length
    -- whithers
    refine ⟨lt, rfl, ⟨_, SqL.of upd_same⟩, fun W nW => ?_⟩
    have hlt : (upd H lt (.lst wl)) lt = some (.lst wl) := upd_same
    generalize upd H lt (.lst wl) = H1 at s1 hM hlt nW ⊢
    refine lc_list (K := K) (a := lt) (xs := wl) (fun i H' => Same H1 H' ∧ ∃ qs : List Addr, qs.length = i ∧ H' W = some (.lst (qs.map V.ref)) ∧ Paired (fun q (m : Mv) => H1 q = some (.tup (m.2.map V.int))) qs (ms.take i))
      ⟨same_new nW, [], rfl, upd_same, .nil⟩ (fun i H' _ h => SqL.of (h.1 _ _ hlt)) ?_ ?_
    · rintro i v H2 hv ⟨s2, qs, el, hW, hp⟩
      obtain ⟨m, em, ⟨ta, tb, rfl, hta, htb⟩⟩ := hM.get' hv
      have hi : i < ms.length := by
        obtain ⟨q1, _⟩ := List.getElem?_eq_some_iff.mp em
        exact q1
      refine ⟨ta, _, rfl, SqT.of (s2 _ _ hta), rfl, .int m.1, [.ref tb], rfl, .ref tb, [], rfl, rfl, rfl, .ref tb, rfl, _, hW, by rw [List.length_map, el]; exact small8 (by omega), ?_⟩
      refine ⟨fun b u e => by rw [upd_ne (ne_of_none e nW)]; exact s2 _ _ e, qs ++ [tb], by rw [List.length_append, el]; rfl, by rw [upd_same, List.map_append]; rfl, ?_⟩
      rw [take_snoc em]
      exact paired_end (F := fun q (m : Mv) => H1 q = some (.tup (m.2.map V.int))) htb hp
    rintro H2 ⟨s2, qs, el, hW, hp⟩
    rw [lenW, List.take_length] at hp
    have s12 := s1.trans s2
    have hl2 := s12 _ _ hl
    have lenQ : qs.length = ms.length := hp.length
    refine ⟨.ref l, rfl, l, rfl, ⟨_, SqL.of hl2⟩, for_list (K := K) (a := l) (xs := ns.map V.int) (fun i σ H' => ∃ y3, σ = [some (.ref x), some (.ref l), some (.ref W), y3, none, none] ∧ Same H2 H' ∧ ∀ n ∈ ns.take i, ¬ BadNo ms n) ⟨none, rfl, Same.refl _, fun n hn => by simp at hn⟩ (fun i σ H' _ ⟨_, _, s3, _⟩ => SqL.of (s3 _ _ hl2)) ?_ ?_⟩
    · rintro i v σ H3 hv ⟨y3, rfl, s3, hbef⟩
      rw [List.getElem?_map] at hv
      obtain ⟨n, hn, rfl⟩ := Option.map_eq_some_iff.mp hv
      have hW3 := s3 _ _ hW
      refine ⟨.int n, rfl, .ref W, rfl, W, _, rfl, .inl (SqL.of hW3), _, rfl, fun r nr => ⟨n, r, 0, _, rfl, rfl, upd_same, _, rfl, ite2 (fun c => ?_) (fun c => ?_)⟩⟩
      · refine ⟨_, rfl, (by decide), .int n, rfl, .inr ⟨n, rfl, small n (List.mem_of_getElem? hn), _, rfl, ?_, ?_⟩⟩
        · have e := int_text_length_le (k := 1920) (by decide) (small n (List.mem_of_getElem? hn))
          have e2 : (Str.ofString (toString n)).length ≤ 1921 := by rw [PySem.ofString_length]; omega
          exact app_fits (by decide) e2
        · exact q _ ((s12.trans s3).trans (same_new nr))
      · refine ⟨some (.int n), rfl, s3.trans (same_new nr), fun z hz => ?_⟩
        rw [take_snoc hn] at hz
        rcases List.mem_append.mp hz with hz | hz
        · exact hbef z hz
        · rw [List.mem_singleton.mp hz]
          intro bd
          refine c ?_
          rw [List.length_map, lenQ]
          have e : decide (0 ≤ n ∧ n < (ms.length : Int)) = false := decide_eq_false bd
          rw [e]
          rfl
    · rintro σ H3 ⟨y3, rfl, s3, hbef⟩
      rw [List.length_map, List.take_length] at hbef
      obtain ⟨n, hn, bd⟩ := bad
      exact (hbef n hn bd).elim
end
/-! ### _ends: the mathematics -/
def idRow (many : Nat) : List Int := (List.range many).map fun (i : Nat) => (i : Int)
def foldR (many : Nat) (rows : List (List Int)) : List Int := rows.foldl (fun L r => L.map (goK r)) (idRow many)
theorem foldR_snoc {many i : Nat} {rows : List (List Int)} {r : List Int} (h : rows[i]? = some r) : foldR many (rows.take (i + 1)) = (foldR many (rows.take i)).map (goK r) := by
  unfold foldR
  rw [take_snoc h, List.foldl_append]
  rfl
theorem goK_inR {many : Nat} {f : List Int} {p : Int} (h : GoodRow many f) (h0 : 0 ≤ p) (h1 : p < (many : Int)) : 0 ≤ goK f p ∧ goK f p < (many : Int) := by
  have hl : p.toNat < f.length := by rw [h.1]; omega
  unfold goK
  rw [List.getD_eq_getElem?_getD, List.getElem?_eq_getElem hl]
  exact h.2 _ (List.getElem_mem hl)
theorem map_goodR {many : Nat} {f L : List Int} (hf : GoodRow many f) (hL : GoodRow many L) : GoodRow many (L.map (goK f)) := by
  refine ⟨by rw [List.length_map, hL.1], fun x hx => ?_⟩
  obtain ⟨p, hp, rfl⟩ := List.mem_map.mp hx
  exact goK_inR hf (hL.2 p hp).1 (hL.2 p hp).2
theorem idRow_good (many : Nat) : GoodRow many (idRow many) := by
  refine ⟨by unfold idRow; rw [List.length_map, List.length_range], fun x hx => ?_⟩
  obtain ⟨i, hi, rfl⟩ := List.mem_map.mp hx
  have := List.mem_range.mp hi
  omega
theorem foldR_goodL {many : Nat} : ∀ {rows : List (List Int)} {L : List Int}, (∀ r ∈ rows, GoodRow many r) → GoodRow many L → GoodRow many (rows.foldl (fun L r => L.map (goK r)) L)
  | [], _, _, h => h
  | r :: rows, L, hn, hL => by
    rw [List.foldl_cons]
    exact foldR_goodL (fun z hz => hn z (List.mem_cons_of_mem _ hz)) (map_goodR (hn r List.mem_cons_self) hL)
theorem foldR_good {many : Nat} {rows : List (List Int)} (h : ∀ r ∈ rows, GoodRow many r) : GoodRow many (foldR many rows) := foldR_goodL h (idRow_good many)
theorem goK_idRow {many : Nat} {p : Int} (h0 : 0 ≤ p) (h1 : p < (many : Int)) : goK (idRow many) p = p := by
  unfold goK idRow
  rw [List.getD_eq_getElem?_getD, List.getElem?_map, List.getElem?_range (by omega)]
  show ((p.toNat : Nat) : Int) = p
  omega
theorem goK_mapR {many : Nat} {f g : List Int} {p : Int} (hg : GoodRow many g) (h0 : 0 ≤ p) (h1 : p < (many : Int)) : goK (g.map (goK f)) p = goK f (goK g p) := by
  have hl : p.toNat < g.length := by rw [hg.1]; omega
  unfold goK
  rw [List.getD_eq_getElem?_getD, List.getElem?_map, List.getD_eq_getElem?_getD (l := g), List.getElem?_eq_getElem hl]
  rfl
theorem fold_back {many : Nat} {rows : List (List Int)} (h : ∀ r ∈ rows, GoodRow many r) : ∀ (k : Nat), k ≤ rows.length → ∀ L : List Int, GoodRow many L →
    ((rows.take k).reverse).foldl (fun L r => L.map (goK r)) L = L.map (goK (endsK many rows k))
  | 0, _, L, hL => by
    show L = L.map (goK (endsK many rows 0))
    have : L.map (goK (endsK many rows 0)) = L.map id := List.map_congr_left fun p hp => goK_idRow (hL.2 p hp).1 (hL.2 p hp).2
    rw [this, List.map_id]
  | k + 1, hk, L, hL => by
    have hkl : k < rows.length := by omega
    have e := List.getElem?_eq_getElem hkl
    have gr := h rows[k] (List.getElem_mem hkl)
    rw [take_snoc e, List.reverse_append, List.reverse_cons, List.reverse_nil, List.nil_append, List.singleton_append, List.foldl_cons, fold_back h k (by omega) _ (map_goodR gr hL), List.map_map]
    refine List.map_congr_left fun p hp => ?_
    show goK (endsK many rows k) (goK rows[k] p) = goK ((rows.getD k []).map (goK (endsK many rows k))) p
    rw [List.getD_eq_getElem?_getD, e]
    exact (goK_mapR gr (hL.2 p hp).1 (hL.2 p hp).2).symm
theorem foldR_back {many : Nat} {rows : List (List Int)} (h : ∀ r ∈ rows, GoodRow many r) (k : Nat) (hk : k ≤ rows.length) : foldR many ((rows.take k).reverse) = endsK many rows k := by
  have gE := endsK_good h k hk
  unfold foldR
  rw [fold_back h k hk _ (idRow_good many)]
  unfold idRow
  rw [List.map_map]
  apply List.ext_getElem?
  intro i
  rw [List.getElem?_map]
  by_cases hi : i < many
  · rw [List.getElem?_range hi, List.getElem?_eq_getElem (by rw [gE.1]; exact hi)]
    show some (goK (endsK many rows k) (i : Int)) = _
    unfold goK
    rw [Int.toNat_natCast, List.getD_eq_getElem?_getD, List.getElem?_eq_getElem (by rw [gE.1]; exact hi)]
    rfl
  · rw [List.getElem?_eq_none_iff.mpr (by rw [List.length_range]; omega), List.getElem?_eq_none_iff.mpr (by rw [gE.1]; omega)]
    rfl
section
variable {P : Program} {w : World} {K : PySem.W.Frag} {mg : Str → Option Value} {base : Heap} {C : Addr}
def nPe : List Str := ["chain", "steps", "ends", "whither", "place"]
theorem scPe : FnScope ["chain", "steps", "ends", "whither", "place"] ["chain", "steps"] (defScope sEnds) := ⟨rfl, rfl, rfl, by decide +kernel, rfl, by decide +kernel, by decide +kernel⟩
def spPe (C : Addr) : Sp := fun vs H Q _ => ∃ (x l : Addr) (many : Nat) (ms : List Mv) (rows : List (List Int)), vs = [.ref x, .ref l] ∧ ChainAt C H x many ms ∧ many ≤ 6 ∧ StepsAt H l rows ∧ (∀ r ∈ rows, GoodRow many r) ∧
  ∀ e H', Same H H' → H e = none → H' e = some (.lst ((foldR many rows).map V.int)) → Q (.ref e) H'
theorem ok_pends {f fP fT : Addr} {fd fdP fdT : FuncData} {k : Nat} (F : Fun K "_ends" "_ends" sEnds f fd) (T : ChM K C fP fT fdP fdT) (mr : mg "range" = none) (mL : mg "list" = none) : FnOk P w K mg base CX0 (k + 2) f fd ["chain", "steps"] (spPe C) := by
  have GP : FnOk P w K mg base CX0 1 fP fdP ["self"] (spPlaces C) := ok_places T.FP T.cl T.nM
  refine F.ok scPe (fun vs H Q E h => ?_) (fun cdv A outer s H vs Q E hr h => ?_)
  · obtain ⟨x, l, many, ms, rows, rfl, _⟩ := h
    rfl
  · obtain ⟨x, l, many, ms, rows, rfl, hC, m6, hl, G, q⟩ := h
    have r1 : Room 1 _ := hr.mono (by omega)
    refine ⟨_, pss_cons (ps_set (i := 2) scPe.nd rfl (.inl rfl) (pe_listRg rfl (by rfl) mL (prg_1 (by rfl) mr (pe_meth0 (pv 0) T.cl T.hP GP r1 T.bP .nil pass0))))
      (pss_cons (ps_for PassesOwn.never rfl (pi_list (pv 1)) (pg_name (i := 3) scPe.nd rfl (.inr rfl))
        (pss_one (ps_setLc (i := 2) (own := [("place", 4)]) (g := gName 4) (tt := tYes) (te := tOp (rIxT K) (tVar 3) (tVar 4)) rfl scPe.nd rfl rfl (sw_true rfl rfl rfl (by decide +kernel)) (pi_list (pv 2)) (blkOk_by (N := nPe) (sc := defScope sEnds) (by decide +kernel))
          (fun _ _ _ _ _ => pg_name (i := 4) scPe.nd rfl (.inl rfl)) (fun _ _ _ _ _ => pts_nil)
          (fun _ _ _ _ _ => by exact (pe_ix ix_tup (pv 3) (pv 4) (fun _ _ => rfl))))))
      (pss_one (ps_ret (pv 2)))), ?_⟩
    obtain ⟨dx, a0, ws, h1, h2, h3⟩ := id hC
    obtain ⟨qs, hS, hp⟩ := hl
    have lenQ : qs.length = rows.length := hp.length
    refine ⟨.ref x, rfl, x, dx, _, rfl, h1, ch_no, x, many, ms, rfl, hC, _, rfl, RgOk.of_le (by omega) (by omega) (by omega) (by omega), fun e0 ne0 => ?_⟩
    rw [rg_ends]
    have s1 : Same H (upd H e0 (.lst ((idRow many).map V.int))) := same_new ne0
    refine ⟨.ref l, rfl, l, rfl, ⟨_, SqL.of (s1 _ _ hS)⟩, for_list (K := K) (a := l) (xs := qs.map V.ref) (fun i σ H' => ∃ e y3, σ = [some (.ref x), some (.ref l), some (.ref e), y3, none] ∧ Same H H' ∧ H e = none ∧ H' e = some (.lst ((foldR many (rows.take i)).map V.int)))
      ⟨e0, none, rfl, s1, ne0, by rw [List.take_zero]; exact upd_same⟩ (fun i σ H' _ ⟨_, _, _, s, _⟩ => SqL.of (s _ _ hS)) ?_ ?_⟩
    · rintro i v σ H1 hv ⟨e, y3, rfl, s2, ne, he⟩
      rw [List.getElem?_map] at hv
      obtain ⟨qa, eqa, rfl⟩ := Option.map_eq_some_iff.mp hv
      have hi : i < rows.length := by
        obtain ⟨q1, _⟩ := List.getElem?_eq_some_iff.mp eqa
        omega
      have er := List.getElem?_eq_getElem hi
      obtain ⟨qb, eqb, hqb⟩ := paired_get hp er
      rw [eqa] at eqb
      cases eqb
      have gR := G _ (List.getElem_mem hi)
      have gL : GoodRow many (foldR many (rows.take i)) := foldR_good fun z hz => G z (List.mem_of_mem_take hz)
      refine ⟨.ref e, rfl, e, rfl, ⟨_, SqL.of he⟩, fun D nD => ?_⟩
      refine lc_list (K := K) (a := e) (xs := (foldR many (rows.take i)).map V.int) (fun j H' => Same H1 H' ∧ H' D = some (.lst ((((foldR many (rows.take i)).map (goK rows[i])).take j).map V.int)))
        ⟨same_new nD, by rw [List.take_zero]; exact upd_same⟩ (fun j H' _ h => SqL.of (h.1 _ _ he)) ?_ ?_
      · rintro j u H2 hu ⟨s3, hD⟩
        rw [List.getElem?_map] at hu
        obtain ⟨p, hpp, rfl⟩ := Option.map_eq_some_iff.mp hu
        obtain ⟨p0, p1⟩ := gL.2 p (List.mem_of_getElem? hpp)
        have hj : j < many := by
          obtain ⟨q1, _⟩ := List.getElem?_eq_some_iff.mp hpp
          rw [gL.1] at q1
          exact q1
        have hpl : p.toNat < rows[i].length := by rw [gR.1]; omega
        have gp : (rows[i].map V.int)[p.toNat]? = some (.int (goK rows[i] p)) := by
          rw [List.getElem?_map, List.getElem?_eq_getElem hpl]
          unfold goK
          rw [List.getD_eq_getElem?_getD, List.getElem?_eq_getElem hpl]
          rfl
        refine ⟨rfl, .ref qa, rfl, .int p, rfl, qa, _, p, _, rfl, rfl, SqT.of (s3 _ _ (s2 _ _ hqb)), at_of (show p = ((p.toNat : Nat) : Int) by omega) gp, _, hD, ?_, fun b o eb => by rw [upd_ne (ne_of_none eb nD)]; exact s3 _ _ eb, ?_⟩
        · rw [List.length_map, List.length_take]
          exact small8 (Nat.le_trans (Nat.min_le_left _ _) (by omega))
        · rw [upd_same, take_snoc (x := goK rows[i] p) (by rw [List.getElem?_map, hpp]; rfl), List.map_append]
          rfl
      · rintro H2 ⟨s3, hD⟩
        rw [List.length_map, List.take_of_length_le (by rw [List.length_map]; exact Nat.le_refl _), ← foldR_snoc er] at hD
        exact ⟨D, some (.ref qa), rfl, s2.trans s3, s2.free nD, hD⟩
    · rintro σ H1 ⟨e, y3, rfl, s2, ne, he⟩
      rw [List.length_map, lenQ, List.take_length] at he
      exact ⟨.ref e, rfl, q e H1 s2 ne he⟩
end
/-! ### together, walked -/
def walkE (rows : List (List Int)) (b : Int) : Int := rows.foldl (fun p r => goK r p) b
theorem walkE_snoc {i : Nat} {rows : List (List Int)} {r : List Int} {b : Int} (h : rows[i]? = some r) : walkE (rows.take (i + 1)) b = goK r (walkE (rows.take i) b) := by
  unfold walkE
  rw [take_snoc h, List.foldl_append]
  rfl
theorem walkE_in {many : Nat} : ∀ {rows : List (List Int)} {b : Int}, (∀ r ∈ rows, GoodRow many r) → 0 ≤ b → b < (many : Int) → 0 ≤ walkE rows b ∧ walkE rows b < (many : Int)
  | [], _, _, h0, h1 => ⟨h0, h1⟩
  | r :: rows, b, h, h0, h1 => by
    show 0 ≤ walkE rows (goK r b) ∧ walkE rows (goK r b) < (many : Int)
    have g := goK_inR (h r List.mem_cons_self) h0 h1
    exact walkE_in (fun z hz => h z (List.mem_cons_of_mem _ hz)) g.1 g.2
theorem foldl_walk : ∀ (rows : List (List Int)) (L : List Int), rows.foldl (fun L r => L.map (goK r)) L = L.map (walkE rows)
  | [], L => by
    show L = L.map id
    rw [List.map_id]
  | r :: rows, L => by
    rw [List.foldl_cons, foldl_walk rows, List.map_map]
    rfl
/-- the walk's places -/
def walkL (rows : List (List Int)) (b : Int) (n : Nat) : List Int := (List.range (n + 1)).map fun j => walkE (rows.take j) b
theorem walkL_succ (rows : List (List Int)) (b : Int) (n : Nat) : walkL rows b (n + 1) = walkL rows b n ++ [walkE (rows.take (n + 1)) b] := by
  unfold walkL
  rw [List.range_succ, List.map_append]
  rfl
theorem walkL_last (rows : List (List Int)) (b : Int) : ∀ n, ∃ L, walkL rows b n = L ++ [walkE (rows.take n) b] ∧ L.length = n
  | 0 => ⟨[], rfl, rfl⟩
  | n + 1 => ⟨walkL rows b n, walkL_succ rows b n, by unfold walkL; rw [List.length_map, List.length_range]⟩
section
variable {P : Program} {w : World} {K : PySem.W.Frag} {mg : Str → Option Value} {base : Heap} {C : Addr}
theorem scTo : FnScope ["chain", "numbers"] ["chain", "numbers"] (defScope sTogether) := ⟨rfl, rfl, rfl, by decide +kernel, rfl, by decide +kernel, by decide +kernel⟩
def spTo (C : Addr) : Sp := fun vs H Q _ => ∃ (x l : Addr) (many : Nat) (ms : List Mv) (ns : List Int), vs = [.ref x, .ref l] ∧ ChainAt C H x many ms ∧ Good many ms ∧ H l = some (.lst (ns.map V.int)) ∧ NumsOk ms ns ∧
  ∀ e H', Same H H' → H' e = some (.lst ((foldR many (rowsOf ms ns)).map V.int)) → Q (.ref e) H'
theorem ok_together {f fS fE fP fT : Addr} {fd fdS fdE fdP fdT : FuncData} (F : Fun K "together" "together" sTogether f fd) (FS : Fun K "steps_of" "steps_of" sStepsOf fS fdS) (bS : Binds K fdS ["chain", "numbers"] []) (gS : mg "steps_of" = some (.ref fS))
    (FE : Fun K "_ends" "_ends" sEnds fE fdE) (bE : Binds K fdE ["chain", "steps"] []) (gE : mg "_ends" = some (.ref fE)) (T : ChM K C fP fT fdP fdT) (mr : mg "range" = none) (ml : mg "len" = none) (mL : mg "list" = none) :
    FnOk P w K mg base CX0 3 f fd ["chain", "numbers"] (spTo C) := by
  have GS : FnOk P w K mg base CX0 2 fS fdS ["chain", "numbers"] (spSteps C) := ok_steps FS T mr ml mL
  have GE : FnOk P w K mg base CX0 2 fE fdE ["chain", "steps"] (spPe C) := ok_pends FE T mr mL
  refine F.ok scTo (fun vs H Q E h => ?_) (fun cdv A outer s H vs Q E hr h => ?_)
  · obtain ⟨x, l, many, ms, ns, rfl, _⟩ := h
    rfl
  · obtain ⟨x, l, many, ms, ns, rfl, hC, G, hl, hN, q⟩ := h
    refine ⟨_, pss_one (ps_ret (pe_call GE hr (by rfl) gE FE.kp bE .nil pass0 (pa_cons (pv 0) (pa_cons (pe_call GS hr (by rfl) gS FS.kp bS .nil pass0 (pa_cons (pv 0) (pa_cons (pv 1) pa_nil))) pa_nil)))), ?_⟩
    have m6 := G.m6
    refine ⟨.ref x, rfl, .ref x, rfl, .ref l, rfl, x, l, many, ms, ns, rfl, hC, hl, hN, G.l8, fun S H1 s1 nS hSt => ?_⟩
    exact ⟨x, S, many, ms, rowsOf ms ns, rfl, hC.same s1, m6, hSt, rowsOf_good G hN, fun e H2 s2 _ he => q e H2 (s1.trans s2) he⟩
theorem scWa : FnScope ["chain", "begin", "numbers", "steps", "places", "whither"] ["chain", "begin", "numbers"] (defScope sWalked) := ⟨rfl, rfl, rfl, by decide +kernel, rfl, by decide +kernel, by decide +kernel⟩
def spWa (C : Addr) : Sp := fun vs H Q _ => ∃ (x l : Addr) (many : Nat) (ms : List Mv) (ns : List Int) (b : Int), vs = [.ref x, .int b, .ref l] ∧ ChainAt C H x many ms ∧ Good many ms ∧ H l = some (.lst (ns.map V.int)) ∧ NumsOk ms ns ∧ 0 ≤ b ∧ b < (many : Int) ∧
  ∀ e H', Same H H' → H' e = some (.lst ((walkL (rowsOf ms ns) b ns.length).map V.int)) → Q (.ref e) H'
theorem ok_walked {f fS fP fT : Addr} {fd fdS fdP fdT : FuncData} (F : Fun K "walked" "walked" sWalked f fd) (FS : Fun K "steps_of" "steps_of" sStepsOf fS fdS) (bS : Binds K fdS ["chain", "numbers"] []) (gS : mg "steps_of" = some (.ref fS))
    (T : ChM K C fP fT fdP fdT) (mr : mg "range" = none) (ml : mg "len" = none) (mL : mg "list" = none) :
    FnOk P w K mg base CX0 3 f fd ["chain", "begin", "numbers"] (spWa C) := by
  have GS : FnOk P w K mg base CX0 2 fS fdS ["chain", "numbers"] (spSteps C) := ok_steps FS T mr ml mL
  have GP : FnOk P w K mg base CX0 1 fP fdP ["self"] (spPlaces C) := ok_places T.FP T.cl T.nM
  refine F.ok scWa (fun vs H Q E h => ?_) (fun cdv A outer s H vs Q E hr h => ?_)
  · obtain ⟨x, l, many, ms, ns, b, rfl, _⟩ := h
    rfl
  · obtain ⟨x, l, many, ms, ns, b, rfl, hC, G, hl, hN, b0, b1, q⟩ := h
    have r1 : Room 1 _ := hr.mono (by decide)
    refine ⟨_, pss_cons (ps_set (i := 3) scWa.nd rfl (.inl rfl) (pe_call GS hr (by rfl) gS FS.kp bS .nil pass0 (pa_cons (pv 0) (pa_cons (pv 2) pa_nil))))
      (pss_cons (ps_if (pt_cmpR op_notIn_rng (pv 1) (pe_callTy cr_range1 (by rfl) mr (by decide +kernel) (pa_cons (pe_meth0 (pv 0) T.cl T.hP GP r1 T.bP .nil pass0) pa_nil)) rfl) pss_never pss_nil)
      (pss_cons (ps_set (i := 4) scWa.nd rfl (.inl rfl) (pe_lst (pa_cons (pv 1) pa_nil)))
      (pss_cons (ps_for PassesOwn.never rfl (pi_list (pv 3)) (pg_name (i := 5) scWa.nd rfl (.inl rfl))
        (pss_one (ps_expr (pe_bm PySem.F.plainAttrs_list PySem.F.slot_list_append PySem.F.type_list_append mt_append (pv 4) (pa_cons (pe_ix ix_tup (pv 5) (pe_ix ix_list (pv 4) (pe_un un_neg pe_int) (fun _ _ => rfl)) (fun _ _ => rfl)) pa_nil)))))
      (pss_one (ps_ret (pv 4)))))), ?_⟩
    have m6 := G.m6
    refine ⟨.ref x, rfl, .ref l, rfl, x, l, many, ms, ns, rfl, hC, hl, hN, G.l8, fun S H1 s1 nS hSt => ?_⟩
    have hC1 := hC.same s1
    obtain ⟨dx, a0, ws, h1, h2, h3⟩ := id hC1
    obtain ⟨qs, hS, hp⟩ := hSt
    have gR := rowsOf_good G hN
    have lenR : (rowsOf ms ns).length = ns.length := by
      unfold rowsOf
      rw [List.length_map]
    have lenQ : qs.length = (rowsOf ms ns).length := hp.length
    have n1000 := hN.1
    refine ⟨.int b, rfl, .ref x, rfl, x, dx, _, rfl, h1, ch_no, x, many, ms, rfl, hC1, _, rfl, fun r nr => ⟨b, r, 0, _, rfl, rfl, upd_same, _, rfl, iteNS (by omega) ?_⟩⟩
    have s2 : Same H1 (upd H1 r (.rng 0 (many : Int))) := same_new nr
    generalize upd H1 r (.rng 0 (many : Int)) = H2 at s2 ⊢
    refine ⟨.int b, rfl, (by show 1 ≤ sizeLine; decide), fun p np => ?_⟩
    have s3 : Same H2 (upd H2 p (.lst [.int b])) := same_new np
    refine ⟨.ref S, rfl, S, rfl, ⟨_, SqL.of (s3 _ _ (s2 _ _ hS))⟩, for_list (K := K) (a := S) (xs := qs.map V.ref) (fun i σ H' => ∃ y5, σ = [some (.ref x), some (.int b), some (.ref l), some (.ref S), some (.ref p), y5] ∧ Same H2 H' ∧ H' p = some (.lst ((walkL (rowsOf ms ns) b i).map V.int)))
      ⟨none, rfl, s3, upd_same⟩ (fun i σ H' _ ⟨_, _, s, _⟩ => SqL.of (s _ _ (s2 _ _ hS))) ?_ ?_⟩
    · rintro i v σ H3 hv ⟨y5, rfl, s4, hp3'⟩
      obtain ⟨L, eL, lL⟩ := walkL_last (rowsOf ms ns) b i
      have hp3 := hp3'
      rw [eL] at hp3
      rw [List.getElem?_map] at hv
      obtain ⟨qa, eqa, rfl⟩ := Option.map_eq_some_iff.mp hv
      have hi : i < (rowsOf ms ns).length := by
        obtain ⟨q1, _⟩ := List.getElem?_eq_some_iff.mp eqa
        omega
      have er := List.getElem?_eq_getElem hi
      obtain ⟨qb, eqb, hqb⟩ := paired_get hp er
      rw [eqa] at eqb
      cases eqb
      have gr := gR _ (List.getElem_mem hi)
      obtain ⟨w0, w1⟩ := walkE_in (fun z hz => gR z (List.mem_of_mem_take hz) : ∀ z ∈ (rowsOf ms ns).take i, GoodRow many z) b0 b1
      have hpl : (walkE ((rowsOf ms ns).take i) b).toNat < (rowsOf ms ns)[i].length := by rw [gr.1]; omega
      have gp : ((rowsOf ms ns)[i].map V.int)[(walkE ((rowsOf ms ns).take i) b).toNat]? = some (.int (goK (rowsOf ms ns)[i] (walkE ((rowsOf ms ns).take i) b))) := by
        rw [List.getElem?_map, List.getElem?_eq_getElem hpl]
        unfold goK
        rw [List.getD_eq_getElem?_getD, List.getElem?_eq_getElem hpl]
        rfl
      refine ⟨.ref p, rfl, .inl ⟨rfl, _, SqL.of hp3⟩, .ref qa, rfl, .ref p, rfl, 1, rfl, p, _, _, _, rfl, rfl, SqL.of hp3, by rw [List.map_append]; exact atI_last _ _, ?_⟩
      refine ⟨qa, _, _, _, rfl, rfl, SqT.of (s4 _ _ (s2 _ _ hqb)), at_of (show walkE ((rowsOf ms ns).take i) b = (((walkE ((rowsOf ms ns).take i) b).toNat : Nat) : Int) by omega) gp, ?_⟩
      refine ⟨p, _, _, rfl, rfl, hp3, ?_, ?_⟩
      · rw [List.length_map, List.length_append, lL]
        exact small1k (by show i + 1 ≤ 1001; omega)
      · refine ⟨some (.ref qa), rfl, fun c o ec => by rw [upd_ne (ne_of_none ec np)]; exact s4 _ _ ec, ?_⟩
        rw [upd_same, walkL_succ, eL, walkE_snoc er, List.map_append (l₂ := [goK (rowsOf ms ns)[i] (walkE ((rowsOf ms ns).take i) b)])]
        rfl
    · rintro σ H3 ⟨y5, rfl, s4, hp3⟩
      rw [List.length_map, lenQ, lenR] at hp3
      exact ⟨.ref p, rfl, q p H3 ((s1.trans s2).trans s4) hp3⟩
end
section
variable {P : Program} {w : World} {K : PySem.W.Frag} {mg : Str → Option Value} {base : Heap} {C : Addr}
theorem scDr : FnScope ["chain", "numbers"] ["chain", "numbers"] (defScope sDrawn) := ⟨rfl, rfl, rfl, by decide +kernel, rfl, by decide +kernel, by decide +kernel⟩
def spDrawn (C : Addr) : Sp := fun vs H Q _ => ∃ (x l : Addr) (many : Nat) (ms : List Mv) (ns : List Int), vs = [.ref x, .ref l] ∧ ChainAt C H x many ms ∧ Good many ms ∧ H l = some (.lst (ns.map V.int)) ∧ NumsOk ms ns ∧
  ∀ v H', Same H H' → DrawnAt H' v many (rowsOf ms ns) → Q v H'
theorem ok_drawn {f fF fS fO fP fT : Addr} {fd fdF fdS fdO fdP fdT : FuncData} (F : Fun K "drawn" "drawn" sDrawn f fd) (FF : Fun K "drawn_from" "drawn_from" sDrawnFrom fF fdF) (bF : Binds K fdF ["chain", "begins", "numbers"] []) (gF : mg "drawn_from" = some (.ref fF)) (FS : Fun K "steps_of" "steps_of" sStepsOf fS fdS) (bS : Binds K fdS ["chain", "numbers"] []) (gS : mg "steps_of" = some (.ref fS))
    (FO : Fun K "_are_one" "_are_one" sAreOne fO fdO) (bO : Binds K fdO ["ends"] []) (gO : mg "_are_one" = some (.ref fO)) (T : ChM K C fP fT fdP fdT) (mr : mg "range" = none) (ml : mg "len" = none) (mL : mg "list" = none) (mS : mg "set" = none) :
    FnOk P w K mg base CX0 4 f fd ["chain", "numbers"] (spDrawn C) := by
  have GF : FnOk P w K mg base CX0 3 fF fdF ["chain", "begins", "numbers"] (spDf K C) := ok_drawnFrom FF FS bS gS FO bO gO T mr ml mL mS
  have GP : FnOk P w K mg base CX0 1 fP fdP ["self"] (spPlaces C) := ok_places T.FP T.cl T.nM
  refine F.ok scDr (fun vs H Q E h => ?_) (fun cdv A outer s H vs Q E hr h => ?_)
  · obtain ⟨x, l, many, ms, ns, rfl, _⟩ := h
    rfl
  · obtain ⟨x, l, many, ms, ns, rfl, hC, G, hl, hN, q⟩ := h
    have r1 : Room 1 _ := hr.mono (by decide)
    refine ⟨_, pss_one (ps_ret (pe_call GF hr (by rfl) gF FF.kp bF .nil pass0 (pa_cons (pv 0) (pa_cons (pe_listRg rfl (by rfl) mL (prg_1 (by rfl) mr (pe_meth0 (pv 0) T.cl T.hP GP r1 T.bP .nil pass0))) (pa_cons (pv 1) pa_nil))))), ?_⟩
    obtain ⟨dx, a0, ws, h1, h2, h3⟩ := id hC
    have m6 := G.m6
    have m1 := G.m1
    refine ⟨.ref x, rfl, .ref x, rfl, x, dx, _, rfl, h1, ch_no, x, many, ms, rfl, hC, _, rfl, RgOk.of_le (by omega) (by omega) (by omega) (by omega), fun e0 ne0 => ?_⟩
    rw [rg_ends]
    have s1 : Same H (upd H e0 (.lst (((List.range many).map fun (i : Nat) => (i : Int)).map V.int))) := same_new ne0
    refine ⟨.ref l, rfl, x, e0, l, many, ms, _, ns, rfl, hC.same s1, G, SqL.of upd_same, by rw [List.length_map, List.length_range]; omega, by rw [List.length_map, List.length_range]; omega, fun z hz => ?_, s1 _ _ hl, hN, fun v H' s2 hd => q v H' (s1.trans s2) (hd.all (rowsOf_good G hN))⟩
    obtain ⟨i, hi, rfl⟩ := List.mem_map.mp hz
    have := List.mem_range.mp hi
    omega
end
section
variable {P : Program} {w : World} {K : PySem.W.Frag} {mg : Str → Option Value} {base : Heap} {C : Addr}
/-! ### tries -/
def TryAt (H : Hp) (p : Addr) (x : Nat × List Int) : Prop := ∃ q, H p = some (.tup [.int (x.1 : Int), .ref q]) ∧ H q = some (.lst (x.2.map V.int))
def TriesAt (H : Hp) (t : Addr) (tr : List (Nat × List Int)) : Prop := ∃ ps : List Addr, H t = some (.lst (ps.map V.ref)) ∧ Paired (TryAt H) ps tr
def TryNe (T : Addr) (H : Hp) (p : Addr) (x : Nat × List Int) : Prop := ∃ q, q ≠ T ∧ H p = some (.tup [.int (x.1 : Int), .ref q]) ∧ H q = some (.lst (x.2.map V.int))
theorem TryNe.at {T : Addr} {H : Hp} {p : Addr} {x : Nat × List Int} (h : TryNe T H p x) : TryAt H p x := let ⟨q, _, a, b⟩ := h; ⟨q, a, b⟩
theorem cutTo (xs : List V) (n : Nat) : cutV xs none (some ((n : Nat) : Int)) = xs.take n := by
  unfold cutV
  rw [HT.sIx_none, HT.sIx_nat, List.drop_zero, Nat.sub_zero]
  by_cases h : n ≤ xs.length
  · rw [Nat.min_eq_left h]
  · rw [Nat.min_eq_right (by omega), List.take_of_length_le (Nat.le_refl _), List.take_of_length_le (by omega)]
theorem TryAt.same {H H' : Hp} {p : Addr} {x : Nat × List Int} (s : Same H H') (h : TryAt H p x) : TryAt H' p x := by
  obtain ⟨q, a, b⟩ := h
  exact ⟨q, s _ _ a, s _ _ b⟩
theorem TriesAt.same {H H' : Hp} {t : Addr} {tr : List (Nat × List Int)} (s : Same H H') (h : TriesAt H t tr) : TriesAt H' t tr := by
  obtain ⟨ps, a, b⟩ := h
  exact ⟨ps, s _ _ a, L2.Paired.mapP b fun _ _ e => e.same s⟩
theorem scTr : FnScope ["chain", "numbers", "steps", "told", "far", "ends"] ["chain", "numbers"] (defScope sTries) := ⟨rfl, rfl, rfl, by decide +kernel, rfl, by decide +kernel, by decide +kernel⟩
def spTries (C : Addr) : Sp := fun vs H Q _ => ∃ (x l : Addr) (many : Nat) (ms : List Mv) (ns : List Int), vs = [.ref x, .ref l] ∧ ChainAt C H x many ms ∧ Good many ms ∧ H l = some (.lst (ns.map V.int)) ∧ NumsOk ms ns ∧
  ∀ t H' tr, Same H H' → TriesAt H' t tr → Tried (endsK many (rowsOf ms ns)) ns.length tr → Q (.ref t) H'
theorem steps_take {H : Hp} {S c : Addr} {rows : List (List Int)} {qs : List Addr} {k : Nat} (hp : Paired (fun q row => H q = some (.tup (row.map V.int))) qs rows) (hc : H c = some (.lst ((qs.map V.ref).take k).reverse)) : StepsAt H c (rows.take k).reverse := by
  refine ⟨(qs.take k).reverse, by rw [List.map_reverse, List.map_take]; exact hc, ?_⟩
  have take : ∀ {l₁ : List Addr} {l₂ : List (List Int)} (k : Nat), Paired (fun q row => H q = some (.tup (row.map V.int))) l₁ l₂ → Paired (fun q row => H q = some (.tup (row.map V.int))) (l₁.take k) (l₂.take k) := by
    intro l₁ l₂ k h
    induction h generalizing k with
    | nil => rw [List.take_nil, List.take_nil]; exact .nil
    | cons a _ ih =>
      cases k with
      | zero => exact .nil
      | succ k => exact .cons a (ih k)
  have rev : ∀ {l₁ : List Addr} {l₂ : List (List Int)}, Paired (fun q row => H q = some (.tup (row.map V.int))) l₁ l₂ → Paired (fun q row => H q = some (.tup (row.map V.int))) l₁.reverse l₂.reverse := by
    intro l₁ l₂ h
    induction h with
    | nil => exact .nil
    | cons a _ ih =>
      rw [List.reverse_cons, List.reverse_cons]
      exact paired_end (F := fun q (row : List Int) => H q = some (.tup (row.map V.int))) a ih
  exact rev (take k hp)
theorem ok_tries {f fS fO fE fP fT : Addr} {fd fdS fdO fdE fdP fdT : FuncData} (F : Fun K "tries" "tries" sTries f fd) (FS : Fun K "steps_of" "steps_of" sStepsOf fS fdS) (bS : Binds K fdS ["chain", "numbers"] []) (gS : mg "steps_of" = some (.ref fS))
    (FO : Fun K "_are_one" "_are_one" sAreOne fO fdO) (bO : Binds K fdO ["ends"] []) (gO : mg "_are_one" = some (.ref fO)) (FE : Fun K "_ends" "_ends" sEnds fE fdE) (bE : Binds K fdE ["chain", "steps"] []) (gE : mg "_ends" = some (.ref fE))
    (T : ChM K C fP fT fdP fdT) (mr : mg "range" = none) (ml : mg "len" = none) (mL : mg "list" = none) (mS : mg "set" = none) (mo : mg "sorted" = none) :
    FnOk P w K mg base CX0 3 f fd ["chain", "numbers"] (spTries C) := by
  have GS : FnOk P w K mg base CX0 2 fS fdS ["chain", "numbers"] (spSteps C) := ok_steps FS T mr ml mL
  have GE : FnOk P w K mg base CX0 2 fE fdE ["chain", "steps"] (spPe C) := ok_pends FE T mr mL
  have GO : FnOk P w K mg base CX0 1 fO fdO ["ends"] (spOne K) := ok_one FO ml mS
  refine F.ok scTr (fun vs H Q E h => ?_) (fun cdv A outer s H vs Q E hr h => ?_)
  · obtain ⟨x, l, many, ms, ns, rfl, _⟩ := h
    rfl
  · obtain ⟨x, l, many, ms, ns, rfl, hC, G, hl, hN, q⟩ := h
    have r1 : Room 1 _ := hr.mono (by decide)
    refine ⟨_, pss_cons (ps_set (i := 2) scTr.nd rfl (.inl rfl) (pe_call GS hr (by rfl) gS FS.kp bS .nil pass0 (pa_cons (pv 0) (pa_cons (pv 1) pa_nil))))
      (pss_cons (ps_set (i := 3) scTr.nd rfl (.inl rfl) (pe_lst pa_nil))
      (pss_cons (ps_set (i := 4) scTr.nd rfl (.inl rfl) pe_int)
      (pss_cons (ps_while PassesOwn.never (pt_cmpR op_le (pv 4) (pe_callB call_len_seq (by rfl) ml PySem.boot_len (pa_cons (pv 2) pa_nil)) (nomark _))
        (pss_cons (ps_set (i := 5) scTr.nd rfl (.inl rfl) (pe_call GE hr (by rfl) gE FE.kp bE .nil pass0 (pa_cons (pv 0) (pa_cons (pe_revL (pe_slice sl_list (pv 2) po_none (po_some (pv 4)))) pa_nil))))
        (pss_cons (ps_expr (pe_bm PySem.F.plainAttrs_list PySem.F.slot_list_append PySem.F.type_list_append mt_append (pv 3) (pa_cons (pe_tup (pa_cons (pv 4) (pa_cons (pe_sset (by rfl) mo (by rfl) mS (pv 5)) pa_nil))) pa_nil)))
        (pss_cons (ps_if (pt_val (pe_call GO r1 (by rfl) gO FO.kp bO .nil pass0 (pa_cons (pv 5) pa_nil))) (pss_one (ps_ret (pv 3))) pss_nil)
        (pss_one (ps_aug (i := 4) scTr.nd rfl (.inl rfl) pe_int iop_mul))))))
      (pss_one (ps_ret (pv 3)))))), ?_⟩
    have h8 := G.l8
    have m6 := G.m6
    have m1 := G.m1
    refine ⟨.ref x, rfl, .ref l, rfl, x, l, many, ms, ns, rfl, hC, hl, hN, h8, fun S H1 s1 nS hSt => ?_⟩
    have hC1 := hC.same s1
    obtain ⟨qs, hS, hp⟩ := hSt
    have gR := rowsOf_good G hN
    have lenR : (rowsOf ms ns).length = ns.length := by
      unfold rowsOf
      rw [List.length_map]
    have lenQ : qs.length = (rowsOf ms ns).length := hp.length
    have n1000 := hN.1
    have gE := endsK_good gR
    refine ⟨(by show 0 ≤ sizeLine; exact Nat.zero_le _), fun T nT => ?_⟩
    have s2 : Same H1 (upd H1 T (.lst [])) := same_new nT
    generalize hE : endsK many (rowsOf ms ns) = E at *
    refine while_by (fun σ H' => ∃ (i : Nat) (ps : List Addr) (tr : List (Nat × List Int)) (y5 : Option V), σ = [some (.ref x), some (.ref l), some (.ref S), some (.ref T), some (.int ((2 ^ i : Nat) : Int)), y5] ∧ Same H1 H' ∧ H' T = some (.lst (ps.map V.ref)) ∧ Paired (TryNe T H') ps tr ∧ tr.length = i ∧ 2 ^ i ≤ 2000 ∧
        (∀ j y, tr[j]? = some y → y.1 = 2 ^ j ∧ 2 ^ j ≤ ns.length ∧ Rise y.2 (E (2 ^ j))) ∧ ∀ j, j < i → one (E (2 ^ j)) = false)
      (fun σ _ => match σ with | [_, _, _, _, some (.int k), _] => 4000 - k.toNat | _ => 0)
      ⟨0, [], [], none, rfl, s2, upd_same, .nil, rfl, (by decide), fun j y e => by simp at e, fun j hj => absurd hj (Nat.not_lt_zero _)⟩ ?_ ?_
    · rintro σ H2 ⟨i, ps, tr, y5, rfl, s3, hT, hP, hi, h2k, hT1, hT2⟩
      have hS2 := s3 _ _ hS
      have lenP : ps.length = i := hP.length.trans hi
      have pos : 0 < 2 ^ i := Nat.pow_pos (by decide)
      have i64 : i ≤ 11 := by
        by_cases c : i ≤ 11
        · exact c
        · have : 2 ^ 12 ≤ 2 ^ i := Nat.pow_le_pow_right (by decide) (by omega)
          have e : (2 : Nat) ^ 12 = 4096 := by decide
          omega
      refine ⟨.int ((2 ^ i : Nat) : Int), rfl, .ref S, rfl, S, _, rfl, .inl (SqL.of hS2), _, _, rfl, rfl, _, rfl, ite2 (fun c => ?_) (fun c => ?_)⟩
      · have hle : 2 ^ i ≤ ns.length := by
          have := of_decide_eq_true c
          rw [List.length_map, lenQ, lenR] at this
          omega
        have gk : GoodRow many (E (2 ^ i)) := gE _ (by rw [lenR]; exact hle)
        have h64 : (E (2 ^ i)).length < 64 := by rw [gk.1]; omega
        refine ⟨.ref x, rfl, .ref S, rfl, .int ((2 ^ i : Nat) : Int), rfl, _, rfl, S, _, rfl, SqL.of hS2, fun c nc => ?_⟩
        rw [cutTo]
        have s4 : Same H2 (upd H2 c (.lst ((qs.map V.ref).take (2 ^ i)))) := same_new nc
        refine ⟨c, _, rfl, SqL.of upd_same, fun r nr => ?_⟩
        have s5 : Same (upd H2 c (.lst ((qs.map V.ref).take (2 ^ i)))) (upd (upd H2 c (.lst ((qs.map V.ref).take (2 ^ i)))) r (.lst ((qs.map V.ref).take (2 ^ i)).reverse)) := same_new nr
        have s45 := s4.trans s5
        have hr5 : (upd (upd H2 c (.lst ((qs.map V.ref).take (2 ^ i)))) r (.lst ((qs.map V.ref).take (2 ^ i)).reverse)) r = some (.lst ((qs.map V.ref).take (2 ^ i)).reverse) := upd_same
        generalize upd (upd H2 c (.lst ((qs.map V.ref).take (2 ^ i)))) r (.lst ((qs.map V.ref).take (2 ^ i)).reverse) = H5 at s45 hr5 ⊢
        have s35 := s3.trans s45
        have hp5 : Paired (fun q row => H5 q = some (.tup (row.map V.int))) qs (rowsOf ms ns) := L2.Paired.mapP hp fun _ _ e => s35 _ _ e
        refine ⟨x, r, many, ms, _, rfl, hC1.same s35, m6, steps_take (S := S) hp5 hr5, fun z hz => gR z (List.mem_of_mem_take (List.mem_reverse.mp hz)), fun e H6 s6 ne he => ?_⟩
        rw [foldR_back gR (2 ^ i) (by rw [lenR]; exact hle), hE] at he
        have hT6 := (s45.trans s6) _ _ hT
        refine ⟨.ref T, rfl, .inl ⟨rfl, _, SqL.of hT6⟩, .int ((2 ^ i : Nat) : Int), rfl, .ref e, rfl, e, _, rfl, SqL.of he, h64, fun p xs cn hx hm hcn hc64 np => ?_⟩
        refine ⟨(by show 2 ≤ sizeLine; decide), fun tp ntp => ?_⟩
        have s7 : Same H6 (upd H6 p (.lst (xs.map V.int))) := same_new np
        have s8 : Same (upd H6 p (.lst (xs.map V.int))) (upd (upd H6 p (.lst (xs.map V.int))) tp (.tup [.int ((2 ^ i : Nat) : Int), .ref p])) := same_new ntp
        have s78 := s7.trans s8
        have hp8 := s8 _ _ (upd_same : (upd H6 p (.lst (xs.map V.int))) p = _)
        have htp8 : (upd (upd H6 p (.lst (xs.map V.int))) tp (.tup [.int ((2 ^ i : Nat) : Int), .ref p])) tp = some (.tup [.int ((2 ^ i : Nat) : Int), .ref p]) := upd_same
        have nTp : p ≠ T := fun z => by rw [z, hT6] at np; cases np
        generalize upd (upd H6 p (.lst (xs.map V.int))) tp (.tup [.int ((2 ^ i : Nat) : Int), .ref p]) = H8 at s78 hp8 htp8 ⊢
        have hT8 := s78 _ _ hT6
        have he8 := s78 _ _ he
        have neT : e ≠ T := fun z => by rw [z, s45 _ _ hT] at ne; cases ne
        have s28 := (s45.trans s6).trans s78
        refine ⟨T, _, _, rfl, rfl, hT8, by rw [List.length_map, lenP]; exact small1k (by omega), ?_⟩
        have s19 : Same H1 (upd H8 T (.lst (ps.map V.ref ++ [.ref tp]))) := fun b o eb => by
          rw [upd_ne (ne_of_none eb nT)]
          exact (s3.trans s28) b o eb
        have hP9 : Paired (TryNe T (upd H8 T (.lst (ps.map V.ref ++ [.ref tp])))) (ps ++ [tp]) (tr ++ [(2 ^ i, xs)]) := by
          have off : ∀ {b o}, H8 b = some o → b ≠ T → (upd H8 T (.lst (ps.map V.ref ++ [.ref tp]))) b = some o := fun e n => by rw [upd_ne n]; exact e
          have neTup : ∀ {b vs}, H8 b = some (.tup vs) → b ≠ T := fun e z => by rw [z, hT8] at e; cases e
          refine paired_end ⟨p, nTp, off htp8 (neTup htp8), off hp8 nTp⟩ (L2.Paired.mapP hP fun a y hy => ?_)
          obtain ⟨qq, nq, y1, y2⟩ := hy
          exact ⟨qq, nq, off (s28 _ _ y1) (neTup (s28 _ _ y1)), off (s28 _ _ y2) nq⟩
        have hT9 : (upd H8 T (.lst (ps.map V.ref ++ [.ref tp]))) T = some (.lst ((ps ++ [tp]).map V.ref)) := by
          rw [upd_same, List.map_append]
          rfl
        have he9 : (upd H8 T (.lst (ps.map V.ref ++ [.ref tp]))) e = some (.lst ((E (2 ^ i)).map V.int)) := by
          rw [upd_ne neT]
          exact he8
        generalize upd H8 T (.lst (ps.map V.ref ++ [.ref tp])) = H9 at s19 hP9 hT9 he9 ⊢
        have lenT : (tr ++ [(2 ^ i, xs)]).length = i + 1 := by rw [List.length_append, hi]; rfl
        have all : ∀ j y, (tr ++ [(2 ^ i, xs)])[j]? = some y → y.1 = 2 ^ j ∧ 2 ^ j ≤ ns.length ∧ Rise y.2 (E (2 ^ j)) := by
          intro j y hy
          by_cases hj : j < tr.length
          · rw [List.getElem?_append_left hj] at hy
            exact hT1 j y hy
          · rw [List.getElem?_append_right (by omega)] at hy
            have ej : j = i := by
              have := (List.getElem?_eq_some_iff.mp hy).1
              simp at this
              omega
            subst ej
            rw [hi, Nat.sub_self] at hy
            cases hy
            exact ⟨rfl, hle, hx, hm⟩
        refine ⟨.ref e, rfl, e, _, rfl, he9, h64, _, rfl, ?_⟩
        cases ho : one (E (2 ^ i)) with
        | true =>
          refine (if_pos rfl).mpr ⟨.ref T, rfl, q T H9 _ (s1.trans s19) ⟨_, hT9, L2.Paired.mapP hP9 fun _ _ e => e.at⟩ ⟨all, fun j hj => hT2 j (by omega), .inr ⟨i, lenT, ho⟩⟩⟩
        | false =>
          refine (if_neg Bool.false_ne_true).mpr ⟨.int ((2 ^ i : Nat) : Int), rfl, ((2 ^ i : Nat) : Int), 2, rfl, rfl, ?_, ⟨i + 1, ps ++ [tp], tr ++ [(2 ^ i, xs)], some (.ref e), ?_, s19, hT9, hP9, lenT, ?_, all, fun j hj => ?_⟩, ?_⟩
          · exact .inl ⟨by omega, by omega⟩
          · show [some (V.ref x), some (.ref l), some (.ref S), some (.ref T), some (.int (((2 ^ i : Nat) : Int) * 2)), some (.ref e)] = _
            rw [Nat.pow_succ, Int.natCast_mul]
            rfl
          · rw [Nat.pow_succ]
            omega
          · by_cases hji : j < i
            · exact hT2 j hji
            · have ej : j = i := by omega
              rw [ej]
              exact ho
          · show 4000 - (((2 ^ i : Nat) : Int) * 2).toNat < 4000 - (((2 ^ i : Nat) : Int)).toNat
            omega
      · have hgt : ns.length < 2 ^ i := by
          have h9 : ¬ (((2 ^ i : Nat) : Int) ≤ ((qs.map V.ref).length : Int)) := fun z => c (decide_eq_true z)
          rw [List.length_map, lenQ, lenR] at h9
          omega
        exact ⟨.ref T, rfl, q T H2 _ (s1.trans s3) ⟨_, hT, L2.Paired.mapP hP fun _ _ e => e.at⟩ ⟨hT1, fun j hj => hT2 j (by omega), .inl (by rw [hi]; exact hgt)⟩⟩
    · rintro σ H2 Q1 Q2 hq ⟨v, e1, u, e2, p, ys, e3, e4, i, j, e5, e6, b, e7, h⟩
      exact ⟨v, e1, u, e2, p, ys, e3, e4, i, j, e5, e6, b, e7, hq _ _ h⟩
end
section
variable {P : Program} {w : World} {K : PySem.W.Frag} {mg : Str → Option Value} {base : Heap} {C : Addr}
/-! ### together, drawn, tries, walked, where a number is no move -/
theorem ok_togetherX {f fS fE fP fT CN : Addr} {fd fdS fdE fdP fdT : FuncData} (F : Fun K "together" "together" sTogether f fd) (FS : Fun K "steps_of" "steps_of" sStepsOf fS fdS) (bS : Binds K fdS ["chain", "numbers"] []) (gS : mg "steps_of" = some (.ref fS))
    (FE : Fun K "_ends" "_ends" sEnds fE fdE) (bE : Binds K fdE ["chain", "steps"] []) (gE : mg "_ends" = some (.ref fE)) (T : ChM K C fP fT fdP fdT) (N : OwnE K mg "NoSuch" CN) (mr : mg "range" = none) (ml : mg "len" = none) (mL : mg "list" = none) :
    FnOk P w K mg base (L2.CX P w) 3 f fd ["chain", "numbers"] (spStepsX C CN) := by
  have GS : FnOk P w K mg base (L2.CX P w) 2 fS fdS ["chain", "numbers"] (spStepsX C CN) := ok_stepsX FS T N mr ml mL
  have GE : FnOk P w K mg base CX0 2 fE fdE ["chain", "steps"] (spPe C) := ok_pends FE T mr mL
  refine F.okX scTo (fun vs H Q E h => ?_) (fun cdv A outer s H vs Q E hr h => ?_)
  · obtain ⟨x, l, many, ms, ns, rfl, _⟩ := h
    rfl
  · obtain ⟨x, l, many, ms, ns, rfl, hC, hl, bad, h8, q⟩ := h
    refine ⟨_, pss_one (ps_ret (pe_call GE hr (by rfl) gE FE.kp bE .nil pass0 (pa_cons (pv 0) (pa_cons (pe_call GS hr (by rfl) gS FS.kp bS .nil (passes_call (takes_of rfl rfl rfl rfl) (fun _ _ _ _ h => h)) (pa_cons (pv 0) (pa_cons (pv 1) pa_nil))) pa_nil)))), ?_⟩
    exact ⟨.ref x, rfl, .ref x, rfl, .ref l, rfl, x, l, many, ms, ns, rfl, hC, hl, bad, h8, q⟩
def spDfX (K : PySem.W.Frag) (C CN : Addr) : Sp := fun vs H _ E => ∃ (x b l : Addr) (many : Nat) (ms : List Mv) (ns : List Int), vs = [.ref x, .ref b, .ref l] ∧ ChainAt C H x many ms ∧ H l = some (.lst (ns.map V.int)) ∧ BadNos ms ns ∧ ms.length ≤ 8 ∧
  ∀ H', Same H H' → E (.ref CN) none H'
theorem ok_drawnFromX {f fS fP fT CN : Addr} {fd fdS fdP fdT : FuncData} (F : Fun K "drawn_from" "drawn_from" sDrawnFrom f fd) (FS : Fun K "steps_of" "steps_of" sStepsOf fS fdS) (bS : Binds K fdS ["chain", "numbers"] []) (gS : mg "steps_of" = some (.ref fS))
    (T : ChM K C fP fT fdP fdT) (N : OwnE K mg "NoSuch" CN) (mr : mg "range" = none) (ml : mg "len" = none) (mL : mg "list" = none) :
    FnOk P w K mg base (L2.CX P w) 3 f fd ["chain", "begins", "numbers"] (spDfX K C CN) := by
  have GS : FnOk P w K mg base (L2.CX P w) 2 fS fdS ["chain", "numbers"] (spStepsX C CN) := ok_stepsX FS T N mr ml mL
  refine F.okX scDf (fun vs H Q E h => ?_) (fun cdv A outer s H vs Q E hr h => ?_)
  · obtain ⟨x, b, l, many, ms, ns, rfl, _⟩ := h
    rfl
  · obtain ⟨x, b, l, many, ms, ns, rfl, hC, hl, bad, h8, q⟩ := h
    refine ⟨_, pss_cons (ps_set (i := 3) scDf.nd rfl (.inl rfl) (pe_call GS hr (by rfl) gS FS.kp bS .nil (passes_call (takes_of rfl rfl rfl rfl) (fun _ _ _ _ h => h)) (pa_cons (pv 0) (pa_cons (pv 2) pa_nil)))) pss_never, ?_⟩
    exact ⟨.ref x, rfl, .ref l, rfl, x, l, many, ms, ns, rfl, hC, hl, bad, h8, q⟩
/-- drawn, where a number is no move -/
def spDrX (C CN : Addr) : Sp := fun vs H _ E => ∃ (x l : Addr) (many : Nat) (ms : List Mv) (ns : List Int), vs = [.ref x, .ref l] ∧ ChainAt C H x many ms ∧ H l = some (.lst (ns.map V.int)) ∧ BadNos ms ns ∧ ms.length ≤ 8 ∧ many ≤ 6 ∧
  ∀ H', Same H H' → E (.ref CN) none H'
theorem ok_drawnX {f fF fS fP fT CN : Addr} {fd fdF fdS fdP fdT : FuncData} (F : Fun K "drawn" "drawn" sDrawn f fd) (FF : Fun K "drawn_from" "drawn_from" sDrawnFrom fF fdF) (bF : Binds K fdF ["chain", "begins", "numbers"] []) (gF : mg "drawn_from" = some (.ref fF)) (FS : Fun K "steps_of" "steps_of" sStepsOf fS fdS) (bS : Binds K fdS ["chain", "numbers"] []) (gS : mg "steps_of" = some (.ref fS))
    (T : ChM K C fP fT fdP fdT) (N : OwnE K mg "NoSuch" CN) (mr : mg "range" = none) (ml : mg "len" = none) (mL : mg "list" = none) :
    FnOk P w K mg base (L2.CX P w) 4 f fd ["chain", "numbers"] (spDrX C CN) := by
  have GF : FnOk P w K mg base (L2.CX P w) 3 fF fdF ["chain", "begins", "numbers"] (spDfX K C CN) := ok_drawnFromX FF FS bS gS T N mr ml mL
  have GP : FnOk P w K mg base CX0 1 fP fdP ["self"] (spPlaces C) := ok_places T.FP T.cl T.nM
  refine F.okX scDr (fun vs H Q E h => ?_) (fun cdv A outer s H vs Q E hr h => ?_)
  · obtain ⟨x, l, many, ms, ns, rfl, _⟩ := h
    rfl
  · obtain ⟨x, l, many, ms, ns, rfl, hC, hl, bad, h8, m6, q⟩ := h
    have r1 : Room 1 _ := hr.mono (by decide)
    refine ⟨_, pss_one (ps_ret (pe_call GF hr (by rfl) gF FF.kp bF .nil (passes_call (takes_of rfl rfl rfl rfl) (fun _ _ _ _ h => h)) (pa_cons (pv 0) (pa_cons (pe_listRg rfl (by rfl) mL (prg_1 (by rfl) mr (pe_meth0 (pv 0) T.cl T.hP GP r1 T.bP .nil pass0))) (pa_cons (pv 1) pa_nil))))), ?_⟩
    obtain ⟨dx, a0, ws, h1, h2, h3⟩ := id hC
    refine ⟨.ref x, rfl, .ref x, rfl, x, dx, _, rfl, h1, ch_no, x, many, ms, rfl, hC, _, rfl, RgOk.of_le (by omega) (by omega) (by omega) (by omega), fun e0 ne0 => ?_⟩
    have s1 := same_new (o := .lst (rgV 0 (many : Int))) ne0
    exact ⟨.ref l, rfl, x, e0, l, many, ms, ns, rfl, hC.same s1, s1 _ _ hl, bad, h8, fun H' s2 => q H' (s1.trans s2)⟩
theorem ok_triesX {f fS fP fT CN : Addr} {fd fdS fdP fdT : FuncData} (F : Fun K "tries" "tries" sTries f fd) (FS : Fun K "steps_of" "steps_of" sStepsOf fS fdS) (bS : Binds K fdS ["chain", "numbers"] []) (gS : mg "steps_of" = some (.ref fS))
    (T : ChM K C fP fT fdP fdT) (N : OwnE K mg "NoSuch" CN) (mr : mg "range" = none) (ml : mg "len" = none) (mL : mg "list" = none) :
    FnOk P w K mg base (L2.CX P w) 3 f fd ["chain", "numbers"] (spStepsX C CN) := by
  have GS : FnOk P w K mg base (L2.CX P w) 2 fS fdS ["chain", "numbers"] (spStepsX C CN) := ok_stepsX FS T N mr ml mL
  refine F.okX scTr (fun vs H Q E h => ?_) (fun cdv A outer s H vs Q E hr h => ?_)
  · obtain ⟨x, l, many, ms, ns, rfl, _⟩ := h
    rfl
  · obtain ⟨x, l, many, ms, ns, rfl, hC, hl, bad, h8, q⟩ := h
    refine ⟨_, pss_cons (ps_set (i := 2) scTr.nd rfl (.inl rfl) (pe_call GS hr (by rfl) gS FS.kp bS .nil (passes_call (takes_of rfl rfl rfl rfl) (fun _ _ _ _ h => h)) (pa_cons (pv 0) (pa_cons (pv 1) pa_nil)))) pss_never, ?_⟩
    exact ⟨.ref x, rfl, .ref l, rfl, x, l, many, ms, ns, rfl, hC, hl, bad, h8, q⟩
/-- walked, where a number is no move -/
def spWaX (C CN : Addr) : Sp := fun vs H _ E => ∃ (x l : Addr) (many : Nat) (ms : List Mv) (ns : List Int) (b : Int), vs = [.ref x, .int b, .ref l] ∧ ChainAt C H x many ms ∧ H l = some (.lst (ns.map V.int)) ∧ BadNos ms ns ∧ ms.length ≤ 8 ∧
  ∀ H', Same H H' → E (.ref CN) none H'
theorem ok_walkedX {f fS fP fT CN : Addr} {fd fdS fdP fdT : FuncData} (F : Fun K "walked" "walked" sWalked f fd) (FS : Fun K "steps_of" "steps_of" sStepsOf fS fdS) (bS : Binds K fdS ["chain", "numbers"] []) (gS : mg "steps_of" = some (.ref fS))
    (T : ChM K C fP fT fdP fdT) (N : OwnE K mg "NoSuch" CN) (mr : mg "range" = none) (ml : mg "len" = none) (mL : mg "list" = none) :
    FnOk P w K mg base (L2.CX P w) 3 f fd ["chain", "begin", "numbers"] (spWaX C CN) := by
  have GS : FnOk P w K mg base (L2.CX P w) 2 fS fdS ["chain", "numbers"] (spStepsX C CN) := ok_stepsX FS T N mr ml mL
  refine F.okX scWa (fun vs H Q E h => ?_) (fun cdv A outer s H vs Q E hr h => ?_)
  · obtain ⟨x, l, many, ms, ns, b, rfl, _⟩ := h
    rfl
  · obtain ⟨x, l, many, ms, ns, b, rfl, hC, hl, bad, h8, q⟩ := h
    refine ⟨_, pss_cons (ps_set (i := 3) scWa.nd rfl (.inl rfl) (pe_call GS hr (by rfl) gS FS.kp bS .nil (passes_call (takes_of rfl rfl rfl rfl) (fun _ _ _ _ h => h)) (pa_cons (pv 0) (pa_cons (pv 2) pa_nil)))) pss_never, ?_⟩
    exact ⟨.ref x, rfl, .ref l, rfl, x, l, many, ms, ns, rfl, hC, hl, bad, h8, q⟩
/-- walked, where all numbers are moves and the place isn't there -/
def spWaP (C CN : Addr) : Sp := fun vs H _ E => ∃ (x l : Addr) (many : Nat) (ms : List Mv) (ns : List Int) (b : Int), vs = [.ref x, .int b, .ref l] ∧ ChainAt C H x many ms ∧ H l = some (.lst (ns.map V.int)) ∧ NumsOk ms ns ∧ ms.length ≤ 8 ∧ many ≤ 6 ∧
  ¬ (0 ≤ b ∧ b < (many : Int)) ∧ b.natAbs.log2 < 1920 ∧ ∀ H', Same H H' → E (.ref CN) none H'
theorem ok_walkedP {f fS fP fT CN : Addr} {fd fdS fdP fdT : FuncData} (F : Fun K "walked" "walked" sWalked f fd) (FS : Fun K "steps_of" "steps_of" sStepsOf fS fdS) (bS : Binds K fdS ["chain", "numbers"] []) (gS : mg "steps_of" = some (.ref fS))
    (T : ChM K C fP fT fdP fdT) (N : OwnE K mg "NoSuch" CN) (mr : mg "range" = none) (ml : mg "len" = none) (mL : mg "list" = none) :
    FnOk P w K mg base (L2.CX P w) 3 f fd ["chain", "begin", "numbers"] (spWaP C CN) := by
  have GS : FnOk P w K mg base CX0 2 fS fdS ["chain", "numbers"] (spSteps C) := ok_steps FS T mr ml mL
  have GP : FnOk P w K mg base CX0 1 fP fdP ["self"] (spPlaces C) := ok_places T.FP T.cl T.nM
  refine F.okX scWa (fun vs H Q E h => ?_) (fun cdv A outer s H vs Q E hr h => ?_)
  · obtain ⟨x, l, many, ms, ns, b, rfl, _⟩ := h
    rfl
  · obtain ⟨x, l, many, ms, ns, b, rfl, hC, hl, hN, h8, m6, nb, sb, q⟩ := h
    have r1 : Room 1 _ := hr.mono (by decide)
    refine ⟨_, pss_cons (ps_set (i := 3) scWa.nd rfl (.inl rfl) (pe_call GS hr (by rfl) gS FS.kp bS .nil pass0 (pa_cons (pv 0) (pa_cons (pv 2) pa_nil))))
      (pss_cons (ps_if (pt_cmpR op_notIn_rng (pv 1) (pe_callTy cr_range1 (by rfl) mr (by decide +kernel) (pa_cons (pe_meth0 (pv 0) T.cl T.hP GP r1 T.bP .nil pass0) pa_nil)) rfl)
        (pss_one (ps_raise rfl (takes_of rfl rfl rfl rfl) (SkE.pmk_own1 PySem.F.excBase_ValueError N.x N.g N.k (raises_own N.b N.t) (by exact rfl) (pe_joined (.cons pe_str (.cons (pe_fmt (pv 1)) .nil)))))) pss_nil)
      pss_never), ?_⟩
    refine ⟨.ref x, rfl, .ref l, rfl, x, l, many, ms, ns, rfl, hC, hl, hN, h8, fun S H1 s1 nS hSt => ?_⟩
    have hC1 := hC.same s1
    obtain ⟨dx, a0, ws, h1, h2, h3⟩ := id hC1
    refine ⟨.int b, rfl, .ref x, rfl, x, dx, _, rfl, h1, ch_no, x, many, ms, rfl, hC1, _, rfl, fun r nr => ⟨b, r, 0, _, rfl, rfl, upd_same, _, rfl, ?_⟩⟩
    have e : decide (0 ≤ b ∧ b < (many : Int)) = false := decide_eq_false nb
    rw [e]
    refine iteT ⟨_, rfl, (by decide), .int b, rfl, .inr ⟨b, rfl, sb, _, rfl, ?_, ?_⟩⟩
    · have e := int_text_length_le (k := 1920) (by decide) sb
      have e2 : (Str.ofString (toString b)).length ≤ 1921 := by rw [PySem.ofString_length]; omega
      exact app_fits (by decide) e2
    · exact q _ (s1.trans (same_new nr))
end
section
variable {P : Program} {w : World} {K : PySem.W.Frag} {mg : Str → Option Value} {base : Heap} {C : Addr}
/-! ### what is no order is refused -/
theorem line400 {n : Nat} (h : n ≤ 400000) : n ≤ sizeLine := Nat.le_trans h (by decide)
theorem fitB {a b : Str} {m n : Nat} (h1 : a.length ≤ m) (h2 : b.length ≤ n) (h : m + n ≤ 400000) : (a ++ b).length ≤ sizeLine := Nat.le_trans (app_le h1 h2) (line400 h)
def NoOrd (many : Nat) (o : List Int) : Prop := ¬ isOrd many o ∧ o.length < 64 ∧ ∀ n ∈ o, n.natAbs ≤ 2000000
def spFbX (C CN : Addr) : Sp := fun vs H _ E => ∃ (x l : Addr) (many : Nat) (ms : List Mv) (o : List Int), vs = [.ref x, .ref l] ∧ ChainAt C H x many ms ∧ Good many ms ∧ H l = some (.lst (o.map V.int)) ∧ NoOrd many o ∧ ∀ H', Same H H' → E (.ref CN) none H'
theorem ok_fbX {f fP fT CN : Addr} {fd fdP fdT : FuncData} (F : Fun K "_first_breaking" "_first_breaking" sFirstBreaking f fd) (N : OwnE K mg "NoSuch" CN) (T : ChM K C fP fT fdP fdT) (ms' : mg "sorted" = none) (mL : mg "list" = none) (mr : mg "range" = none) : FnOk P w K mg base (L2.CX P w) 2 f fd ["chain", "order"] (spFbX C CN) := by
  have GP : FnOk P w K mg base CX0 1 fP fdP ["self"] (spPlaces C) := ok_places T.FP T.cl T.nM
  refine F.okX scFb (fun vs H Q E h => ?_) (fun cdv A outer s H vs Q E hr h => ?_)
  · obtain ⟨x, l, many, ms, o, rfl, _⟩ := h
    rfl
  · obtain ⟨x, l, many, ms, o, rfl, hC, G, hl, ⟨hno, h64, hsm⟩, q⟩ := h
    have hu := hu64 hr
    have r1 : Room 1 _ := hr.mono (by decide)
    refine ⟨_, pss_cons (ps_if (pt_cmpR (op_neD hu) (pe_callB cr_sorted (by rfl) ms' (by decide +kernel) (pa_cons (pv 1) pa_nil)) (pe_listRg rfl (by rfl) mL (prg_1 (by rfl) mr (pe_meth0 (pv 0) T.cl T.hP GP r1 T.bP .nil pass0))) (nomark _))
        (pss_one (ps_raise rfl (takes_of rfl rfl rfl rfl) (SkE.pmk_own1 PySem.F.excBase_ValueError N.x N.g N.k (raises_own N.b N.t) (by exact rfl) (pe_joined (.cons (pe_fmtL hr (pv 1)) (.cons pe_str (.cons (pe_fmt (pe_meth0 (pv 0) T.cl T.hP GP r1 T.bP .nil pass0)) (.cons pe_str .nil)))))))) pss_nil)
      pss_never, ?_⟩
    have m1 := G.m1
    have m6 := G.m6
    refine ⟨.ref l, rfl, l, _, rfl, SqL.of hl, h64, fun zs L hp hs nL => ?_⟩
    have s1 := same_new (o := .lst (zs.map V.int)) nL
    have hL1 : (upd H L (.lst (zs.map V.int))) L = some (.lst (zs.map V.int)) := upd_same
    generalize upd H L (.lst (zs.map V.int)) = H1 at s1 hL1 ⊢
    have hC1 := hC.same s1
    obtain ⟨dx, a0, ws, h1, h2, h3⟩ := id hC1
    refine ⟨.ref x, rfl, x, dx, _, rfl, h1, ch_no, x, many, ms, rfl, hC1, _, rfl, RgOk.of_le (by omega) (by omega) (by omega) (by omega), fun L2 nL2 => ?_⟩
    rw [rg_ends]
    have s2 := same_new (o := .lst (((List.range many).map fun (i : Nat) => (i : Int)).map V.int)) nL2
    have e1 : zs ≠ (List.range many).map fun (i : Nat) => (i : Int) := fun z => hno ((sorted_ids hp hs).mp z)
    refine ⟨_, _, dp_lst (s2 _ _ hL1), dp_lst upd_same, (Sh.lst _).shaped (by decide), (Sh.lst _).shaped (by decide), ?_⟩
    rw [eqv_lst, decide_eq_false e1]
    refine ⟨_, rfl, iteT ?_⟩
    have s12 := s1.trans s2
    have hC2 := hC1.same s2
    have hl2 := s12 _ _ hl
    generalize upd H1 L2 (.lst (((List.range many).map fun (i : Nat) => (i : Int)).map V.int)) = H2 at s12 hC2 hl2 ⊢
    obtain ⟨dx, a0, ws, h1, h2, h3⟩ := id hC2
    have hg : ((many : Nat) : Int).natAbs.log2 < 1920 := log_small (by omega)
    refine ⟨.ref l, rfl, l, o, rfl, SqL.of hl2, by omega, fun n hn => log_small (hsm n hn), fun m hm => ?_⟩
    refine ⟨m, rfl, Nat.le_trans (by show (Str.empty ++ m).length ≤ 0 + 200000; exact app_le (Nat.zero_le _) hm) (line400 (by decide)), ?_⟩
    have k0 : (Str.empty ++ m).length ≤ 200000 := by
      have := app_le (a := Str.empty) (b := m) (m := 0) (Nat.le_refl _) hm
      omega
    have k1 := app_le k0 (show (Str.ofString " is no order of ").length ≤ 100 by decide)
    refine ⟨_, rfl, line400 (Nat.le_trans k1 (by decide)), ?_⟩
    have k2 := app_le k1 (int_len hg)
    refine ⟨.ref x, rfl, x, dx, _, rfl, h1, ch_no, x, many, ms, rfl, hC2, .inr ⟨_, rfl, hg, _, rfl, line400 (Nat.le_trans k2 (by decide)), _, rfl, line400 (Nat.le_trans (app_le k2 (show (Str.ofString " places").length ≤ 100 by decide)) (by decide)), q _ s12⟩⟩
end
theorem goK_map {many : Nat} {f g : List Int} {p : Int} (hg : GoodRow many g) (h0 : 0 ≤ p) (h1 : p < (many : Int)) : goK (g.map (goK f)) p = goK f (goK g p) := by
  have hl : p.toNat < g.length := by rw [hg.1]; omega
  unfold goK
  rw [List.getD_eq_getElem?_getD, List.getElem?_map, List.getD_eq_getElem?_getD (l := g), List.getElem?_eq_getElem hl]
  rfl
/-! ### walks between two others: the mathematics -/
theorem rank_inj {o : List Int} {x y : Int} (hx : x ∈ o) (hy : y ∈ o) (e : rankO o x = rankO o y) : x = y := by
  have h1 := List.getElem_idxOf (List.idxOf_lt_length_of_mem hx)
  have h2 := List.getElem_idxOf (List.idxOf_lt_length_of_mem hy)
  have e' : o.idxOf x = o.idxOf y := by
    unfold rankO at e
    omega
  rw [← h1, ← h2]
  exact getElem_congr_idx e'
theorem nodup_idx {o : List Int} (nd : o.Nodup) {i : Nat} {x : Int} (e : o[i]? = some x) : o.idxOf x = i := by
  obtain ⟨hi, ei⟩ := List.getElem?_eq_some_iff.mp e
  have hl := List.idxOf_lt_length_of_mem (List.mem_of_getElem? e)
  have ex := List.getElem_idxOf hl
  have pw := List.pairwise_iff_getElem.mp nd
  rcases Nat.lt_trichotomy (o.idxOf x) i with c | c | c
  · exact absurd (ex.trans ei.symm) (pw _ _ hl hi c)
  · exact c
  · exact absurd (ei.trans ex.symm) (pw _ _ hi hl c)
/-- what leaves places in their order -/
def Mono (o f : List Int) : Prop := ∀ p q, p ∈ o → q ∈ o → rankO o p ≤ rankO o q → rankO o (goK f p) ≤ rankO o (goK f q)
theorem mono_of {o row : List Int} (nd : o.Nodup) (h : keepsR row o = true) : Mono o row := by
  intro p q hp hq hle
  have hpw : (standsO row o).Pairwise (· ≤ ·) := of_decide_eq_true h
  have lp := List.idxOf_lt_length_of_mem hp
  have lq := List.idxOf_lt_length_of_mem hq
  have sp : (standsO row o)[o.idxOf p]? = some (rankO o (goK row p)) := standsO_at (by rw [List.getElem?_eq_getElem lp, List.getElem_idxOf lp])
  have sq : (standsO row o)[o.idxOf q]? = some (rankO o (goK row q)) := standsO_at (by rw [List.getElem?_eq_getElem lq, List.getElem_idxOf lq])
  obtain ⟨l1, e1⟩ := List.getElem?_eq_some_iff.mp sp
  obtain ⟨l2, e2⟩ := List.getElem?_eq_some_iff.mp sq
  have hle' : o.idxOf p ≤ o.idxOf q := by
    unfold rankO at hle
    omega
  rcases Nat.lt_or_eq_of_le hle' with c | c
  · have := List.pairwise_iff_getElem.mp hpw _ _ l1 l2 c
    rw [e1, e2] at this
    exact this
  · have : p = q := rank_inj hp hq (by unfold rankO; omega)
    rw [this]
    exact Int.le_refl _
theorem isOrd.nodup {many : Nat} {o : List Int} (h : isOrd many o) : o.Nodup := by
  have n : (ids many).Nodup := List.Pairwise.imp (fun {a b} (h : a < b) => (by omega : a ≠ b)) (ids_pair many)
  exact h.nodup_iff.mpr n
theorem mono_ends {many : Nat} {o : List Int} {rows : List (List Int)} (ho : isOrd many o) (hg : ∀ r ∈ rows, GoodRow many r) (hk : ∀ r ∈ rows, keepsR r o = true) : ∀ k, k ≤ rows.length → Mono o (endsK many rows k)
  | 0, _ => fun p q hp hq hle => by
    have ep : goK (endsK many rows 0) p = p := goK_zero (ho.mem.mp hp).1 (ho.mem.mp hp).2
    have eq : goK (endsK many rows 0) q = q := goK_zero (ho.mem.mp hq).1 (ho.mem.mp hq).2
    rw [ep, eq]
    exact hle
  | k + 1, hlt => fun p q hp hq hle => by
    have ih := mono_ends ho hg hk k (by omega)
    have er : rows.getD k [] = rows[k] := by rw [List.getD_eq_getElem?_getD, List.getElem?_eq_getElem (by omega)]; rfl
    have gr := hg rows[k] (List.getElem_mem (by omega))
    have kr := hk rows[k] (List.getElem_mem (by omega))
    have step : ∀ {z}, z ∈ o → goK (endsK many rows (k + 1)) z = goK (endsK many rows k) (goK rows[k] z) := fun {z} hz => by
      show goK ((rows.getD k []).map (goK (endsK many rows k))) z = _
      rw [er]
      exact goK_map gr (ho.mem.mp hz).1 (ho.mem.mp hz).2
    rw [step hp, step hq]
    exact ih _ _ (goK_ord gr ho hp) (goK_ord gr ho hq) (mono_of ho.nodup kr p q hp hq hle)
/-- two ends that meet hold all others between them -/
theorem between {many : Nat} {o : List Int} {rows : List (List Int)} (m1 : 1 ≤ many) (ho : isOrd many o) (hg : ∀ r ∈ rows, GoodRow many r) (hk : ∀ r ∈ rows, keepsR r o = true) {k : Nat} (hl : k ≤ rows.length) {lo hi : Int} (h0 : o[0]? = some lo) (h1 : o[many - 1]? = some hi) :
    one (seenK many rows [lo, hi] k) = one (endsK many rows k) ∧ (one (endsK many rows k) = true → goK (seenK many rows [lo, hi] k) 0 = goK (endsK many rows k) 0) := by
  have M := mono_ends ho hg hk k hl
  have gE := endsK_good hg k hl
  have mlo := List.mem_of_getElem? h0
  have mhi := List.mem_of_getElem? h1
  have lo' := ho.mem.mp mlo
  have hi' := ho.mem.mp mhi
  have seen : seenK many rows [lo, hi] k = [goK (endsK many rows k) lo, goK (endsK many rows k) hi] := rfl
  have inE : ∀ {z}, z ∈ o → goK (endsK many rows k) z ∈ endsK many rows k := fun {z} hz => by
    have hz' := ho.mem.mp hz
    have hlt : z.toNat < (endsK many rows k).length := by rw [gE.1]; omega
    unfold goK
    rw [List.getD_eq_getElem?_getD, List.getElem?_eq_getElem hlt]
    exact List.getElem_mem hlt
  have ofE : ∀ {v}, v ∈ endsK many rows k → ∃ z, z ∈ o ∧ goK (endsK many rows k) z = v := fun {v} hv => by
    obtain ⟨i, hi, e⟩ := List.getElem_of_mem hv
    refine ⟨(i : Int), ho.mem.mpr ⟨by omega, by rw [gE.1] at hi; omega⟩, ?_⟩
    unfold goK
    rw [List.getD_eq_getElem?_getD, Int.toNat_natCast, List.getElem?_eq_getElem hi]
    exact e
  have rk : ∀ {z}, z ∈ o → rankO o lo ≤ rankO o z ∧ rankO o z ≤ rankO o hi := fun {z} hz => by
    have nd := ho.nodup
    have lz := List.idxOf_lt_length_of_mem hz
    obtain ⟨l0, e0⟩ := List.getElem?_eq_some_iff.mp h0
    obtain ⟨l1, e1⟩ := List.getElem?_eq_some_iff.mp h1
    have i0 : o.idxOf lo = 0 := nodup_idx nd h0
    have i1 : o.idxOf hi = many - 1 := nodup_idx nd h1
    have lo := ho.len
    unfold rankO
    omega
  have key : goK (endsK many rows k) lo = goK (endsK many rows k) hi → ∀ v ∈ endsK many rows k, v = goK (endsK many rows k) lo := fun e v hv => by
    obtain ⟨z, hz, rfl⟩ := ofE hv
    obtain ⟨r1, r2⟩ := rk hz
    have a := M lo z mlo hz r1
    have b := M z hi hz mhi r2
    rw [← e] at b
    have hin : ∀ {y}, y ∈ o → goK (endsK many rows k) y ∈ o := fun {y} hy => ho.mem.mpr (gE.2 _ (inE hy))
    exact rank_inj (hin hz) (hin mlo) (by omega)
  have mem0 : (endsK many rows k) ≠ [] := fun z => by
    have := gE.1
    rw [z] at this
    have : (0 : Nat) = many := this
    omega
  have h0E : goK (endsK many rows k) 0 ∈ endsK many rows k := inE (ho.mem.mpr ⟨by omega, by omega⟩)
  constructor
  · by_cases c : goK (endsK many rows k) lo = goK (endsK many rows k) hi
    · have a : one (seenK many rows [lo, hi] k) = true := one_iff.mpr ⟨_, List.mem_cons_self, fun x hx => by
        rw [seen] at hx
        rcases List.mem_cons.mp hx with e | hx
        · exact e
        · rw [List.mem_singleton.mp hx]
          exact c.symm⟩
      have b : one (endsK many rows k) = true := one_iff.mpr ⟨_, inE mlo, key c⟩
      rw [a, b]
    · have a : one (seenK many rows [lo, hi] k) = false := by
        rw [Bool.eq_false_iff]
        intro z
        obtain ⟨v, hv, all⟩ := one_iff.mp z
        have x1 := all _ (by rw [seen]; exact List.mem_cons_self)
        have x2 := all _ (by rw [seen]; exact List.mem_cons_of_mem _ List.mem_cons_self)
        exact c (x1.trans x2.symm)
      have b : one (endsK many rows k) = false := by
        rw [Bool.eq_false_iff]
        intro z
        obtain ⟨v, hv, all⟩ := one_iff.mp z
        exact c ((all _ (inE mlo)).trans (all _ (inE mhi)).symm)
      rw [a, b]
  · intro z
    obtain ⟨v, hv, all⟩ := one_iff.mp z
    have : goK (seenK many rows [lo, hi] k) 0 = goK (endsK many rows k) lo := rfl
    rw [this, all _ (inE mlo), all _ h0E]
theorem DrawnB.ends {many : Nat} {o : List Int} {rows : List (List Int)} {H : Hp} {v : V} (m1 : 1 ≤ many) (ho : isOrd many o) (hg : ∀ r ∈ rows, GoodRow many r) (hk : ∀ r ∈ rows, keepsR r o = true) {lo hi : Int} (h0 : o[0]? = some lo) (h1 : o[many - 1]? = some hi) (h : DrawnB H v many rows [lo, hi]) : DrawnAt H v many rows := by
  have B := fun k (hl : k ≤ rows.length) => between m1 ho hg hk hl h0 h1
  rcases h with ⟨k, t, ⟨hl, a, b⟩, e, ht⟩ | ⟨n, e⟩
  · have o1 : one (endsK many rows k) = true := by rw [← (B k hl).1]; exact a
    refine .inl ⟨k, t, ⟨hl, o1, fun j hj => by rw [← (B j (by omega)).1]; exact b j hj⟩, e, ?_⟩
    rw [ht, (B k hl).2 o1]
  · exact .inr ⟨fun j hj => by rw [← (B j hj).1]; exact n j hj, e⟩
section
open PySem.W NdefX
variable {P : Program} {w : World} {K : PySem.W.Frag} {mg : Str → Option Value} {base : Heap}
/-! ### NotOrdered.__init__ -/
theorem scNO : NScope ["self", "move", "__class__"] ["self", "move"] ["__class__"] (defScope (inClass cNotOrdered 0)) := nscope_by (by decide +kernel)
def spNO (K : PySem.W.Frag) (C : Addr) : Sp := fun vs H Q _ => ∃ (x : Addr) (n : Int), vs = [.ref x, .int n] ∧ H x = some (exo x C none) ∧ n.natAbs ≤ 2000000 ∧ OexC K C ∧ PySem.W.findIn K (.ref C) "move" = some none ∧
  ∀ d H', (∀ b o, b ≠ x → H b = some o → H' b = some o) → H' x = some (exo x C (some d)) → H' d = some (exd d [("move", .int n)]) → H d = none → Q .non H'
theorem ok_no {f C cc cda : Addr} {dV kV doc pm ct oc : Value} {an od : Option Addr} {osl : Array (Option Value)} (T : SupE P K C cc cda)
    (lk : K.lookup f = some ⟨oc, od, .func (fnX "__init__" "NotOrdered.__init__" (defArgs (inClass cNotOrdered 0)) (defBody (inClass cNotOrdered 0)) (defScope (inClass cNotOrdered 0)) [("__class__", cc)] dV kV doc pm an (.ref cda) ct), osl⟩) (hcd : codeIn K (.ref cda) "NotOrdered.__init__" = true) :
    FnOk P w K mg base CX0 1 f (fnX "__init__" "NotOrdered.__init__" (defArgs (inClass cNotOrdered 0)) (defBody (inClass cNotOrdered 0)) (defScope (inClass cNotOrdered 0)) [("__class__", cc)] dV kV doc pm an (.ref cda) ct) ["self", "move"] (spNO K C) := by
  refine fn_sup T lk hcd scNO rfl rfl (by decide +kernel) (by decide +kernel) (fun env he => rfl) (fun env => rfl) (fun env => rfl) (fun env he => ?_) (fun env he => ?_) (fun vs H Q E h => ?_) (fun A outer s H vs Q E hr h => ?_)
  · unfold interactive
    rw [he]
    rfl
  · rfl
  · obtain ⟨x, n, rfl, _⟩ := h
    rfl
  · obtain ⟨x, n, rfl, hx, hn, TX, hno, q⟩ := h
    refine ⟨x, _, _, rfl, hx, pa_cons (pe_joined (.cons pe_str (.cons (pe_fmt (pv 1)) (.cons pe_str .nil)))) pa_nil, pss_one (ps_ost (pv 0) (pv 1)), ?_⟩
    have hg : n.natAbs.log2 < 1920 := log_small hn
    refine ⟨_, rfl, by decide, .int n, rfl, .inr ⟨_, rfl, hg, _, rfl, fitA (m := 100) (by decide) (int_len hg) (by decide), _, rfl, fitA (app_le (m := 100) (by decide) (int_len hg)) (n := 100) (by decide) (by decide), ?_⟩⟩
    refine ⟨by simp, hx, .int n, rfl, .ref x, rfl, x, C, rfl, TX, hno, .inl ⟨hx, fun dx ndx nxx => ?_⟩⟩
    refine q dx _ (fun b o nb e => ?_) upd_same (by rw [upd_ne nxx]; exact upd_same) ndx
    rw [upd_ne nb, upd_ne (ne_of_none e ndx)]
    exact e
end
section
variable {P : Program} {w : World} {K : PySem.W.Frag} {mg : Str → Option Value} {base : Heap} {C : Addr}
/-- an own error with an __init__ of its own, its field f -/
structure OwnI (K : PySem.W.Frag) (mg : Str → Option Value) (x : Str) (CE fI : Addr) (fd : FuncData) (ps : List Str) (fld : Str) : Prop where
  g : mg x = some (.ref CE)
  T : OexC K CE
  iC : PySem.W.findIn K (.ref CE) "__init__" = some (some (.ref fI))
  tI : PySem.W.typeIn K (.ref fI) = some (.type "function")
  no : PySem.W.findIn K (.ref CE) fld = some none
  b : Binds K fd ps []
/-! ### by_ends -/
theorem scBe : FnScope ["chain", "order", "numbers", "breaking"] ["chain", "order", "numbers"] (defScope sByEnds) := ⟨rfl, rfl, rfl, by decide +kernel, rfl, by decide +kernel, by decide +kernel⟩
def spBe (C : Addr) : Sp := fun vs H Q _ => ∃ (x l m : Addr) (many : Nat) (ms : List Mv) (o ns : List Int), vs = [.ref x, .ref l, .ref m] ∧ ChainAt C H x many ms ∧ Good many ms ∧ H l = some (.lst (o.map V.int)) ∧ isOrd many o ∧ H m = some (.lst (ns.map V.int)) ∧ NumsOk ms ns ∧ fbN ms o = none ∧
  ∀ v H', Same H H' → DrawnAt H' v many (rowsOf ms ns) → Q v H'
theorem atI_back {xs : List V} {n : Nat} {v : V} (hn : 1 ≤ n) (hl : xs.length = n) (h : xs[n - 1]? = some v) : atI xs (-1) = some v := by
  have ne : xs ≠ [] := fun z => by
    rw [z] at hl
    have : (0 : Nat) = n := hl
    omega
  have a : atI xs (-1) = atI (xs.dropLast ++ [xs.getLast ne]) (-1) := by rw [List.dropLast_concat_getLast ne]
  rw [a, atI_last, List.getLast_eq_getElem]
  subst hl
  rw [List.getElem?_eq_getElem (by omega)] at h
  exact h
theorem rows_keep {ms : List Mv} {o ns : List Int} (h : fbN ms o = none) (hN : NumsOk ms ns) : ∀ r ∈ rowsOf ms ns, keepsR r o = true := by
  intro r hr
  obtain ⟨n, hn, rfl⟩ := List.mem_map.mp hr
  obtain ⟨a, b⟩ := hN.2 n hn
  have hl : n.toNat < ms.length := by omega
  rw [List.getD_eq_getElem?_getD, List.getElem?_eq_getElem hl]
  exact fbN_none.mp h _ (List.getElem_mem hl)
theorem ok_be {f fB fD : Addr} {fd fdB fdD : FuncData} (F : Fun K "by_ends" "by_ends" sByEnds f fd) (DB : Df K mg "_first_breaking" sFirstBreaking ["chain", "order"] fB fdB) (GB : FnOk P w K mg base CX0 2 fB fdB ["chain", "order"] (spFb C)) (DDf : Df K mg "drawn_from" sDrawnFrom ["chain", "begins", "numbers"] fD fdD) (GDf : FnOk P w K mg base CX0 3 fD fdD ["chain", "begins", "numbers"] (spDf K C)) :
    FnOk P w K mg base CX0 4 f fd ["chain", "order", "numbers"] (spBe C) := by
  refine F.ok scBe (fun vs H Q E h => ?_) (fun cdv A outer s H vs Q E hr h => ?_)
  · obtain ⟨x, l, m, many, ms, o, ns, rfl, _⟩ := h
    rfl
  · obtain ⟨x, l, m, many, ms, o, ns, rfl, hC, G, hl, ho, hm, hN, hf, q⟩ := h
    have r2 : Room 2 _ := hr.mono (by decide)
    refine ⟨_, (pss_cons (ps_set (i := 3) scBe.nd rfl (.inl rfl) (pe_call GB r2 (by rfl) DB.g DB.F.kp DB.b .nil pass0 (pa_cons (pv 0) (pa_cons (pv 1) pa_nil))))
      (pss_cons (ps_if (pt_cmpR op_notN (pv 3) pe_non (nomark _)) pss_never pss_nil)
      (pss_one (ps_ret (pe_call GDf hr (by rfl) DDf.g DDf.F.kp DDf.b .nil pass0 (pa_cons (pv 0) (pa_cons (pe_lst (pa_cons (pe_ix ix_list (pv 1) pe_int (fun _ _ => rfl)) (pa_cons (pe_ix ix_list (pv 1) (pe_un un_neg pe_int) (fun _ _ => rfl)) pa_nil))) (pa_cons (pv 2) pa_nil)))))))), ?_⟩
    have m1 := G.m1
    have m6 := G.m6
    have lo := ho.len
    refine ⟨.ref x, rfl, .ref l, rfl, x, l, many, ms, o, rfl, hC, G, hl, ho, fun H1 s1 => ?_⟩
    have efb : fbV ms o = .non := by
      unfold fbV
      rw [hf]
    rw [efb]
    refine ⟨.non, rfl, rfl, false, by simp, iteF ?_⟩
    obtain ⟨p0, e0⟩ : ∃ p0, o[0]? = some p0 := ⟨_, List.getElem?_eq_getElem (by omega)⟩
    obtain ⟨p1, e1⟩ : ∃ p1, o[many - 1]? = some p1 := ⟨_, List.getElem?_eq_getElem (by omega)⟩
    have b0 := ho.mem.mp (List.mem_of_getElem? e0)
    have b1 := ho.mem.mp (List.mem_of_getElem? e1)
    have hl1 := s1 _ _ hl
    have eh : (o.map V.int)[many - 1]? = some (.int p1) := by rw [List.getElem?_map, e1]; rfl
    have e00 : (o.map V.int)[0]? = some (.int p0) := by rw [List.getElem?_map, e0]; rfl
    refine ⟨.ref x, rfl, .ref l, rfl, l, _, 0, _, rfl, rfl, SqL.of hl1, atI_nat (j := 0) e00, .ref l, rfl, 1, rfl, l, _, _, _, rfl, rfl, SqL.of hl1, atI_back m1 (by rw [List.length_map]; exact lo) eh, (by show 2 ≤ sizeLine; decide), fun B nB => ?_⟩
    have s2 := s1.trans (same_new (o := .lst [.int p0, .int p1]) nB)
    refine ⟨.ref m, rfl, x, B, m, many, ms, [p0, p1], ns, rfl, hC.same s2, G, SqL.of upd_same, (by show 2 < 64; decide), (by show 1 ≤ 2; decide), fun z hz => ?_, s2 _ _ hm, hN, fun v H2 s3 hv => ?_⟩
    · rcases List.mem_cons.mp hz with e | hz
      · rw [e]; exact b0
      · rw [List.mem_singleton.mp hz]; exact b1
    · exact q v H2 (s2.trans s3) (hv.ends m1 ho (rowsOf_good G hN) (rows_keep hf hN) e0 e1)
/-! refusals -/
/-- a move doesn't keep the order: told is the first -/
def spBeO (C CE : Addr) : Sp := fun vs H _ E => ∃ (x l m : Addr) (many : Nat) (ms : List Mv) (o : List Int) (k : Nat), vs = [.ref x, .ref l, .ref m] ∧ ChainAt C H x many ms ∧ Good many ms ∧ H l = some (.lst (o.map V.int)) ∧ isOrd many o ∧ fbN ms o = some k ∧
  ∀ d H', Same H H' → H' d = some (.xd [("move", .int (k : Int))]) → E (.ref CE) (some d) H'
theorem ok_beO {f fB fI CE : Addr} {fd fdB fdI : FuncData} (F : Fun K "by_ends" "by_ends" sByEnds f fd) (DB : Df K mg "_first_breaking" sFirstBreaking ["chain", "order"] fB fdB) (GB : FnOk P w K mg base CX0 2 fB fdB ["chain", "order"] (spFb C)) (N : OwnI K mg "NotOrdered" CE fI fdI ["self", "move"] "move")
    (GI : FnOk P w K mg base CX0 1 fI fdI ["self", "move"] (spNO K CE)) : FnOk P w K mg base (L2.CX P w) 4 f fd ["chain", "order", "numbers"] (spBeO C CE) := by
  refine F.okX scBe (fun vs H Q E h => ?_) (fun cdv A outer s H vs Q E hr h => ?_)
  · obtain ⟨x, l, m, many, ms, o, k, rfl, _⟩ := h
    rfl
  · obtain ⟨x, l, m, many, ms, o, k, rfl, hC, G, hl, ho, hf, q⟩ := h
    have r2 : Room 2 _ := hr.mono (by decide)
    refine ⟨_, pss_cons (ps_set (i := 3) scBe.nd rfl (.inl rfl) (pe_call GB r2 (by rfl) DB.g DB.F.kp DB.b .nil pass0 (pa_cons (pv 0) (pa_cons (pv 1) pa_nil))))
      (pss_cons (ps_if (pt_cmpR op_notN (pv 3) pe_non (nomark _))
          (pss_one (ps_raise rfl (takes_of rfl rfl rfl rfl) (pmk_oex N.T N.iC N.tI GI (hr.mono (by decide)) N.b .nil pass0 (by rfl) N.g (pa_cons (pv 3) pa_nil)))) pss_nil)
      pss_never), ?_⟩
    have l8 := G.l8
    refine ⟨.ref x, rfl, .ref l, rfl, x, l, many, ms, o, rfl, hC, G, hl, ho, fun H1 s1 => ?_⟩
    have efb : fbV ms o = .int (k : Int) := by
      unfold fbV
      rw [hf]
    rw [efb]
    have k8 : k < ms.length := (List.findIdx?_eq_some_iff_getElem.mp hf).1
    refine ⟨.int (k : Int), rfl, rfl, true, by simp, iteT ?_⟩
    refine ⟨.int (k : Int), rfl, by show 1 ≤ 1000; decide, fun a na => ?_⟩
    refine ⟨a, _, rfl, upd_same, by omega, N.T, N.no, fun d H' kp hx hd nd => ?_⟩
    have nda : d ≠ a := fun z => by rw [z, upd_same] at nd; cases nd
    have nd1 : H1 d = none := by rw [upd_ne nda] at nd; exact nd
    refine ⟨rfl, d, _, hx, hd, nd1, ?_⟩
    refine q d _ (fun b o' e => ?_) upd_same
    have e1 := s1 _ _ e
    have nba : b ≠ a := ne_of_none e1 na
    rw [upd_ne (ne_of_none e1 nd1), del_ne nba]
    exact kp b o' nba (by rw [upd_ne nba]; exact e1)
/-- a number is no move -/
def spBeN (C CN : Addr) : Sp := fun vs H _ E => ∃ (x l m : Addr) (many : Nat) (ms : List Mv) (o ns : List Int), vs = [.ref x, .ref l, .ref m] ∧ ChainAt C H x many ms ∧ Good many ms ∧ H l = some (.lst (o.map V.int)) ∧ isOrd many o ∧ H m = some (.lst (ns.map V.int)) ∧ BadNos ms ns ∧ fbN ms o = none ∧
  ∀ H', Same H H' → E (.ref CN) none H'
theorem ok_beN {f fB fD CN : Addr} {fd fdB fdD : FuncData} (F : Fun K "by_ends" "by_ends" sByEnds f fd) (DB : Df K mg "_first_breaking" sFirstBreaking ["chain", "order"] fB fdB) (GB : FnOk P w K mg base CX0 2 fB fdB ["chain", "order"] (spFb C)) (DDf : Df K mg "drawn_from" sDrawnFrom ["chain", "begins", "numbers"] fD fdD)
    (GDX : FnOk P w K mg base (L2.CX P w) 3 fD fdD ["chain", "begins", "numbers"] (spDfX K C CN)) : FnOk P w K mg base (L2.CX P w) 4 f fd ["chain", "order", "numbers"] (spBeN C CN) := by
  refine F.okX scBe (fun vs H Q E h => ?_) (fun cdv A outer s H vs Q E hr h => ?_)
  · obtain ⟨x, l, m, many, ms, o, ns, rfl, _⟩ := h
    rfl
  · obtain ⟨x, l, m, many, ms, o, ns, rfl, hC, G, hl, ho, hm, bad, hf, q⟩ := h
    have r2 : Room 2 _ := hr.mono (by decide)
    refine ⟨_, pss_cons (ps_set (i := 3) scBe.nd rfl (.inl rfl) (pe_call GB r2 (by rfl) DB.g DB.F.kp DB.b .nil pass0 (pa_cons (pv 0) (pa_cons (pv 1) pa_nil))))
      (pss_cons (ps_if (pt_cmpR op_notN (pv 3) pe_non (nomark _)) pss_never pss_nil)
      (pss_one (ps_ret (pe_call GDX hr (by rfl) DDf.g DDf.F.kp DDf.b .nil (passes_call (takes_of rfl rfl rfl rfl) (fun _ _ _ _ h => h)) (pa_cons (pv 0) (pa_cons (pe_lst (pa_cons (pe_ix ix_list (pv 1) pe_int (fun _ _ => rfl)) (pa_cons (pe_ix ix_list (pv 1) (pe_un un_neg pe_int) (fun _ _ => rfl)) pa_nil))) (pa_cons (pv 2) pa_nil))))))), ?_⟩
    have m1 := G.m1
    have m6 := G.m6
    have lo := ho.len
    refine ⟨.ref x, rfl, .ref l, rfl, x, l, many, ms, o, rfl, hC, G, hl, ho, fun H1 s1 => ?_⟩
    have efb : fbV ms o = .non := by
      unfold fbV
      rw [hf]
    rw [efb]
    refine ⟨.non, rfl, rfl, false, by simp, iteF ?_⟩
    obtain ⟨p0, e0⟩ : ∃ p0, o[0]? = some p0 := ⟨_, List.getElem?_eq_getElem (by omega)⟩
    obtain ⟨p1, e1⟩ : ∃ p1, o[many - 1]? = some p1 := ⟨_, List.getElem?_eq_getElem (by omega)⟩
    have hl1 := s1 _ _ hl
    have eh : (o.map V.int)[many - 1]? = some (.int p1) := by rw [List.getElem?_map, e1]; rfl
    have e00 : (o.map V.int)[0]? = some (.int p0) := by rw [List.getElem?_map, e0]; rfl
    refine ⟨.ref x, rfl, .ref l, rfl, l, _, 0, _, rfl, rfl, SqL.of hl1, atI_nat (j := 0) e00, .ref l, rfl, 1, rfl, l, _, _, _, rfl, rfl, SqL.of hl1, atI_back m1 (by rw [List.length_map]; exact lo) eh, (by show 2 ≤ sizeLine; decide), fun B nB => ?_⟩
    have s2 := s1.trans (same_new (o := .lst [.int p0, .int p1]) nB)
    exact ⟨.ref m, rfl, x, B, m, many, ms, ns, rfl, hC.same s2, s2 _ _ hm, bad, G.l8, fun H2 s3 => q H2 (s2.trans s3)⟩
end
section
variable {P : Program} {w : World} {K : PySem.W.Frag} {mg : Str → Option Value} {base : Heap} {C : Addr}
/-! ### shares of a length that there isn't -/
theorem scSh : FnScope ["chain", "far", "weights", "_", "total", "ones", "place", "one"] ["chain", "far"] (defScope sShares) := ⟨rfl, rfl, rfl, by decide +kernel, rfl, by decide +kernel, by decide +kernel⟩
def spShX (C CN : Addr) : Sp := fun vs H _ E => ∃ (x : Addr) (n : Int), vs = [.ref x, .int n] ∧ ¬ (0 ≤ n ∧ n < 21) ∧ n.natAbs ≤ 2000000 ∧ ∀ H', Same H H' → E (.ref CN) none H'
theorem ok_sharesX {f CN : Addr} {fd : FuncData} {tF : Tok} (F : Fun K "shares" "shares" sShares f fd) (N : OwnE K mg "NoSuch" CN) (gF : mg "MOST_FAR" = some (.int 20 tF)) (mr : mg "range" = none) : FnOk P w K mg base (L2.CX P w) 3 f fd ["chain", "far"] (spShX C CN) := by
  refine F.okX scSh (fun vs H Q E h => ?_) (fun cdv A outer s H vs Q E hr h => ?_)
  · obtain ⟨x, n, rfl, _⟩ := h
    rfl
  · obtain ⟨x, n, rfl, hn, hsm, q⟩ := h
    refine ⟨_, pss_cons (ps_if (pt_cmpR op_notIn_rng (pv 1) (pe_callTy cr_range1 (by rfl) mr (by decide +kernel) (pa_cons (pe_op op_add (pe_glob (v := .int 20) (by rfl) gF ⟨_, rfl⟩) pe_int) pa_nil)) (by with_unfolding_all rfl))
        (pss_one (ps_raise rfl (takes_of rfl rfl rfl rfl) (SkE.pmk_own1 PySem.F.excBase_ValueError N.x N.g N.k (raises_own N.b N.t) (by exact rfl) (pe_joined (.cons pe_str (.cons (pe_fmt (pe_glob (v := .int 20) (by rfl) gF ⟨_, rfl⟩)) (.cons pe_str (.cons (pe_fmt (pv 1)) .nil)))))))) pss_nil)
      pss_never, ?_⟩
    refine ⟨.int n, rfl, _, _, rfl, rfl, _, rfl, fun rp nrp => ?_⟩
    have s0 := same_new (o := .rng 0 (20 + 1)) nrp
    refine ⟨n, rp, 0, 21, rfl, rfl, upd_same, ?_⟩
    refine ⟨true, by rw [decide_eq_false hn]; rfl, iteT ?_⟩
    have hg := log_small hsm
    have g20 : ((20 : Int)).natAbs.log2 < 1920 := by decide
    refine ⟨_, rfl, (by decide), .inr ⟨20, rfl, g20, _, rfl, ?_, ?_⟩⟩
    · exact fitA (m := 100) (by decide) (int_len g20) (by decide)
    have k1 : (Str.empty ++ Str.ofString "shares are told of 0 to " ++ Str.ofString (toString (20 : Int))).length ≤ 100 := by decide +kernel
    refine ⟨_, rfl, fitA k1 (n := 100) (by decide) (by decide), .int n, rfl, .inr ⟨n, rfl, hg, _, rfl, ?_, ?_⟩⟩
    · exact fitA (app_le k1 (n := 100) (by decide)) (int_len hg) (by decide)
    · exact q _ s0
end
section
variable {P : Program} {w : World} {K : PySem.W.Frag} {mg : Str → Option Value} {base : Heap}
/-! ### _law_numbers -/
def nNu : List Str := ["_law_d", "_law_moves", "_law_most", "_law_k"]
theorem scNu : FnScope ["_law_d", "_law_moves", "_law_most", "_law_k"] ["_law_d", "_law_moves", "_law_most"] (defScope sNumbers) := ⟨rfl, rfl, rfl, by decide +kernel, rfl, by decide +kernel, by decide +kernel⟩
def spNu (K : PySem.W.Frag) : Sp := fun vs H Q _ => ∃ (d l m : Addr) (most : Nat) (ns : List Int) (ws : List V), vs = [.ref d, .ref m, .int ((most : Nat) : Int)] ∧ Dc K l ns H d ∧ H m = some (.lst ws) ∧ m ≠ d ∧ 1 ≤ ws.length ∧ ws.length ≤ 8 ∧ most ≤ 900 ∧
  ∀ (r : Addr) (zs : List Int) H', Dc K l ns H' d → Gr d H H' → H r = none → r ≠ d → H' r = some (.lst (zs.map V.int)) → zs.length ≤ most → (∀ z ∈ zs, 0 ≤ z ∧ z < (ws.length : Int)) → Q (.ref r) H'
theorem small900 {n : Nat} (h : n ≤ 900) : n < sizeLine := Nat.lt_of_le_of_lt h (by decide)
theorem ok_numbers {f fC fD fO : Addr} {fd fdC fdD fdO : FuncData} (F : Fun K "_law_numbers" "_law_numbers" sNumbers f fd) (T : LawTxt K mg fC fD fO fdC fdD fdO) : FnOk P w K mg base CX0 3 f fd ["_law_d", "_law_moves", "_law_most"] (spNu K) := by
  have GO : FnOk P w K mg base CX0 2 fO fdO ["_law_d", "_law_most"] (spOff K) := T.off
  refine F.ok scNu (fun vs H Q E h => ?_) (fun cdv A outer s H vs Q E hr h => ?_)
  · obtain ⟨d, l, m, most, ns, ws, rfl, _⟩ := h
    rfl
  · obtain ⟨d, l, m, most, ns, ws, rfl, hD, hm, nmd, w1, w8, h900, q⟩ := h
    refine ⟨_, pss_one (ps_ret (pe_lc (own := [("_law_k", 3)]) (g := gName 3) (tt := tYes) (te := tCall (spOff K) [] E0 (tCons (tVar 0) (tCons (tCB (rLenSq K) (tCons (tVar 1) tNil)) tNil))) rfl scNu.nd
        (pi_range1 (by rfl) T.mr (pa_cons (pe_call GO hr (by rfl) T.gO T.FO.kp T.bO .nil pass0 (pa_cons (pv 0) (pa_cons (pe_op op_add (pv 2) pe_int) pa_nil))) pa_nil)) (blkOk_by (N := nNu) (sc := defScope sNumbers) (by decide +kernel))
        (fun _ _ _ _ _ => pg_name (i := 3) scNu.nd rfl (.inl rfl)) (fun _ _ _ _ _ => pts_nil)
        (fun _ _ _ _ _ => by exact (pe_call GO hr (by rfl) T.gO T.FO.kp T.bO .nil pass0 (pa_cons (pv 0) (pa_cons (pe_callB call_len_seq (by rfl) T.ml PySem.boot_len (pa_cons (pv 1) pa_nil)) pa_nil)))))), ?_⟩
    have m0 : (0 : Int) ≤ ((most : Nat) : Int) := Int.natCast_nonneg _
    refine ⟨.ref d, rfl, .int ((most : Nat) : Int), rfl, _, _, rfl, rfl, d, l, ns, _, rfl, hD, by omega, by omega, fun cnt H1 hc hD1 o1 => ?_⟩
    refine ⟨_, rfl, by omega, by omega, fun D nD => ?_⟩
    have nDd : D ≠ d := hD1.ne nD
    have hm1 : H1 m = some (.lst ws) := by rw [o1 m nmd]; exact hm
    have g1 : Gr d H H1 := (Gr.refl d H).off o1
    have nDH : H D = none := by
      rw [← o1 D nDd]
      exact nD
    refine lc_range (lo := 0) (n := ((cnt : Nat) : Int).toNat) (fun j H' => Dc K l ns H' d ∧ Gr d H1 H' ∧ ∃ zs : List Int, zs.length = j ∧ H' D = some (.lst (zs.map V.int)) ∧ ∀ z ∈ zs, 0 ≤ z ∧ z < (ws.length : Int))
      ⟨hD1.new nD, (Gr.refl d H1).new nD, [], rfl, upd_same, (fun _ z => nomatch z)⟩ ?_ ?_
    · rintro j H2 hj ⟨hD2, g2, zs, el, hz, hin⟩
      have hm2 := g2 m _ nmd hm1
      refine ⟨rfl, .ref d, rfl, .ref m, rfl, m, ws, rfl, .inl (SqL.of hm2), d, l, ns, _, rfl, hD2, by omega, by omega, fun x H3 hx hD3 o3 => ?_⟩
      have hz3 : H3 D = some (.lst (zs.map V.int)) := by rw [o3 D nDd]; exact hz
      refine ⟨_, hz3, by rw [List.length_map, el]; exact small900 (by omega), hD3.turn hD1 nD nDd, ?_, zs ++ [(x : Int)], by rw [List.length_append, el]; rfl, by rw [upd_same, List.map_append]; rfl, ?_⟩
      · intro b o nb e
        rw [upd_ne (ne_of_none e nD)]
        exact (g2.off o3) b o nb e
      · intro z hzz
        rcases List.mem_append.mp hzz with hzz | hzz
        · exact hin z hzz
        · have e : z = (x : Int) := by simpa using hzz
          omega
    · rintro H2 ⟨hD2, g2, zs, el, hz, hin⟩
      exact q D zs H2 hD2 (g1.trans g2) nDH nDd hz (by omega) hin
end
/-! ### a lambda as a value: made, kept, called -/
/-- its words: parameters, body, names, captured cells, its code object, its defaults -/
structure LF where
  params : Arguments
  body : Expr
  scope : Scope
  cl : List (Str × Addr)
  qual : Str
  c : Addr
  dV : Value
abbrev LF.fd (F : LF) (doc pm ctv : Value) : FuncData := PySem.W.kdv_fn "<lambda>" F.qual F.params (.expr F.body) F.scope F.cl F.dV doc pm (.ref F.c) ctv
def LfO (f : Addr) (F : LF) : HO := .ext fun h => ∃ (od : Option Addr) (sl : Array (Option Value)) (v1 v2 v3 : Value), h.get? f = some ⟨.type "function", od, .func (F.fd v1 v2 v3), sl⟩
/-- the tuple of one default, 0 -/
def DvO (t : Addr) : HO := .ext fun h => ∃ k : Tok, h.get? t = some (PySem.W.kdv_tup [.int 0 k])
structure LamAt (H : Hp) (f : Addr) (F : LF) : Prop where
  fn : H f = some (LfO f F)
  code : H F.c = some (LamX.CodeO F.c F.qual)
  dfl : F.dV = .none ∨ ∃ t, F.dV = .ref t ∧ H t = some (DvO t)
theorem LamAt.mono {H H' : Hp} {f : Addr} {F : LF} (h : LamAt H f F) (k : ∀ b φ, H b = some (.ext φ) → H' b = some (.ext φ)) : LamAt H' f F :=
  ⟨k _ _ h.fn, k _ _ h.code, h.dfl.imp id fun ⟨t, e, q⟩ => ⟨t, e, k _ _ q⟩⟩
section
variable {X : Cx} {pins : List (Addr × Obj)} {σ : L2.St} {H : Hp} {s : Shared}
theorem inv_lf {F : LF} {t' : Nat} {v1 v2 v3 : Value} (I : Inv X pins σ H s) :
    Inv X pins σ (upd H s.heap.objs.size (LfO s.heap.objs.size F)) { s with heap := s.heap.push { cls := .type "function", data := .func (F.fd v1 v2 v3) }, toks := t' } := by
  have at' : (s.heap.push { cls := .type "function", data := .func (F.fd v1 v2 v3) }).get? s.heap.objs.size = some { cls := .type "function", data := .func (F.fd v1 v2 v3) } := Heap.get?_push_size _ rfl
  exact I.laid (fun _ _ z => Heap.get?_push_of_some _ z) (Nat.le_refl _) ⟨⟨_, _, v1, v2, v3, at'⟩, ⟨_, at'⟩, fun _ _ ⟨od, sl, u1, u2, u3, z⟩ st => ⟨od, sl, u1, u2, u3, st _ z⟩⟩
theorem inv_dv {u : Tok} (I : Inv X pins σ H s) : Inv X pins σ (upd H s.heap.objs.size (DvO s.heap.objs.size)) { s with heap := s.heap.push (PySem.W.kdv_tup [.int 0 u]) } := by
  have at' : (s.heap.push (PySem.W.kdv_tup [.int 0 u])).get? s.heap.objs.size = some (PySem.W.kdv_tup [.int 0 u]) := Heap.get?_push_size _ rfl
  exact I.laid (t' := s.toks) (fun _ _ z => Heap.get?_push_of_some _ z) (Nat.le_refl _) ⟨⟨u, at'⟩, ⟨_, at'⟩, fun _ _ ⟨k, z⟩ st => ⟨k, st _ z⟩⟩
/-- the making's last part: the table of code objects grows or tells, the object is laid -/
theorem lam_tail {c P : Addr} {params : Arguments} {body : Expr} {scope : Scope} {pos : Pos} {dV : Value} {E Q : Value → Shared → Prop} (I : Inv X pins σ H s) (TB : LamX.TabB X.base X.mg c P) (hcode : X.env.code = .ref c) (hT : LamX.TabS H P (X.env.qual ++ "<lambda>"))
    (free : ∀ y ∈ scope.names, y.2 = .free → ∃ c, X.env.cells.lookup y.1 = some c)
    (go : ∀ (f c' : Addr) (H1 : Hp) (s' : Shared), Inv X pins σ H1 s' → (∀ b o, b ≠ P → H b = some o → H1 b = some o) → LamX.TabS H1 P (X.env.qual ++ "<lambda>") → H f = none →
      H1 f = some (LfO f ⟨params, body, scope, cloFrom X.env.cells scope.names [], X.env.qual ++ "<lambda>", c', dV⟩) → H1 c' = some (LamX.CodeO c' (X.env.qual ++ "<lambda>")) → Q (.ref f) s') :
    wpAny (model X.prog X.w) X.A (makeTail "<lambda>" (X.env.qual ++ "<lambda>") params (.expr body) scope X.env dV .none none pos pos.line) Q E s := by
  obtain ⟨ps, hP, tri, told⟩ := hT
  have glob := I.mod.glob.keeps I.bk
  have hdP := TB.code.keeps I.bk
  have rawP : s.heap.get? P = some { cls := .none, data := .fields ps } := I.hok P _ hP
  have blt : s.heap.BuiltinsAt X.mg P := TB.bm.keeps I.bk
  rcases found : codeAmong pos ps.toList with _ | cv
  · refine PySem.W.kdv_makeTail (mg := X.mg) (closure_ok free) I.ok.glob glob hcode hdP rawP tri found TB.gP blt fun c' w1 w2 h' tk grown le lt rec' tab' => ?_
    obtain ⟨_, oc, fs, tq, e0, oce, fse, nme⟩ := rec'
    cases e0
    have J := LamX.inv_table (t' := tk) (more := #[rawInt pos.line, rawInt pos.col, .ref c']) I hP (fun b o nb z => grown b o nb z) tab' le ⟨oc, fs, tq, oce, fse, nme⟩
    have newC : H c' = none := I.hok.fresh le
    have PneC : P ≠ c' := ne_of_none hP newC
    have J2 := inv_lf (F := ⟨params, body, scope, cloFrom X.env.cells scope.names [], X.env.qual ++ "<lambda>", c', dV⟩) (t' := tk) (v1 := w2) (v2 := (X.mg "__name__").getD .none) (v3 := w1) J
    have newF := J.hok.fresh (Nat.le_refl _)
    have stays : ∀ b o, b ≠ P → H b = some o → (upd (upd H P (.tbl (ps ++ #[rawInt pos.line, rawInt pos.col, .ref c']))) c' (LamX.CodeO c' (X.env.qual ++ "<lambda>"))) b = some o := fun b o nb z => by
      rw [upd_ne (ne_of_none z newC), upd_ne nb]
      exact z
    have atP : (upd (upd H P (.tbl (ps ++ #[rawInt pos.line, rawInt pos.col, .ref c']))) c' (LamX.CodeO c' (X.env.qual ++ "<lambda>"))) P = some (.tbl (ps ++ #[rawInt pos.line, rawInt pos.col, .ref c'])) := by
      rw [upd_ne PneC]
      exact upd_same
    have T1 : LamX.TabS (upd (upd H P (.tbl (ps ++ #[rawInt pos.line, rawInt pos.col, .ref c']))) c' (LamX.CodeO c' (X.env.qual ++ "<lambda>"))) P (X.env.qual ++ "<lambda>") := by
      have asList : (ps ++ #[rawInt pos.line, rawInt pos.col, .ref c']).toList = ps.toList ++ [rawInt pos.line, rawInt pos.col, .ref c'] := by simp
      refine ⟨_, atP, by rw [asList]; exact PySem.TriplesOk_snoc _ _ _ _ tri, fun q v hv => ?_⟩
      rw [asList] at hv
      rcases LamX.among_app _ tri hv with old | new
      · obtain ⟨c0, e1, e2⟩ := told q v old
        exact ⟨c0, e1, stays _ _ (fun z => by rw [z, hP] at e2; exact LamX.codeO_ne _ (Option.some.inj e2).symm) e2⟩
      · exact ⟨c', new, upd_same⟩
    have up : ∀ b o, (upd (upd H P (.tbl (ps ++ #[rawInt pos.line, rawInt pos.col, .ref c']))) c' (LamX.CodeO c' (X.env.qual ++ "<lambda>"))) b = some o → (upd (upd (upd H P (.tbl (ps ++ #[rawInt pos.line, rawInt pos.col, .ref c']))) c' (LamX.CodeO c' (X.env.qual ++ "<lambda>"))) h'.objs.size (LfO h'.objs.size ⟨params, body, scope, cloFrom X.env.cells scope.names [], X.env.qual ++ "<lambda>", c', dV⟩)) b = some o := fun b o z => by
      rw [upd_ne (ne_of_none z newF)]
      exact z
    exact go h'.objs.size c' _ _ J2 (fun b o nb z => up _ _ (stays b o nb z)) (T1.ext up) (I.hok.fresh (Nat.le_trans le (Nat.le_of_lt lt))) upd_same (up _ _ upd_same)
  · obtain ⟨c', e0, known⟩ := told pos cv found
    subst e0
    refine PySem.W.kdv_makeTailHit (mg := X.mg) (closure_ok free) I.ok.glob glob hcode hdP rawP tri found blt fun w1 w2 h' tk grown le => ?_
    have J : Inv X pins σ H { s with heap := h', toks := tk } := I.kept grown
    have newF : H h'.objs.size = none := J.hok.fresh (Nat.le_refl _)
    have J2 := inv_lf (F := ⟨params, body, scope, cloFrom X.env.cells scope.names [], X.env.qual ++ "<lambda>", c', dV⟩) (t' := tk) (v1 := w2) (v2 := (X.mg "__name__").getD .none) (v3 := w1) J
    have up : ∀ b o, H b = some o → (upd H h'.objs.size (LfO h'.objs.size ⟨params, body, scope, cloFrom X.env.cells scope.names [], X.env.qual ++ "<lambda>", c', dV⟩)) b = some o := fun b o z => by
      rw [upd_ne (ne_of_none z newF)]
      exact z
    exact go h'.objs.size c' _ _ J2 (fun b o _ z => up _ _ z) (LamX.TabS.ext ⟨ps, hP, tri, told⟩ up) newF upd_same (up _ _ known)
end
/-- what the making of a lambda tells -/
def tLamQ (q : Str) (P : Addr) (ok : Addr → LF → Prop) : TE := fun _ H Q => LamX.TabS H P q ∧ ∀ f F H1, (∀ b o, b ≠ P → H b = some o → H1 b = some o) → LamX.TabS H1 P q → H f = none → LamAt H1 f F → ok f F → Q (.ref f) H1
section
variable {X : Cx}
/-- lambda: body -/
theorem pe_lam0 {c P : Addr} {params : Arguments} {body : Expr} {scope : Scope} {pos : Pos} {ok : Addr → LF → Prop} (TB : LamX.TabB X.base X.mg c P) (hcode : X.env.code = .ref c)
    (free : ∀ y ∈ scope.names, y.2 = .free → X.env.scope.names.lookup y.1 = some .cell ∨ X.env.scope.names.lookup y.1 = some .free) (hdef : defaultsOf params X.env = ([], []))
    (hok : ∀ f c', X.Ok → ok f ⟨params, body, scope, cloFrom X.env.cells scope.names [], X.env.qual ++ "<lambda>", c', .none⟩) :
    PE X (.Lambda params body scope pos) (tLamQ (X.env.qual ++ "<lambda>") P ok) := by
  refine ⟨fun pins s σ H Q I h => ?_⟩
  refine PySem.W.kla_eval hdef ?_
  rw [makeFunction_eq]
  simp only [List.zip_nil_right, List.filterMap_nil, List.isEmpty_nil, if_true, pure_bind]
  refine lam_tail I TB hcode h.1 (fun y hy e => (free y hy e).elim (fun z => I.ok.has _ (.inl z)) fun z => I.ok.has _ (.inr z)) fun f c' H1 s' J k T1 n0 n1 n2 => ?_
  exact ⟨.ref f, H1, J, rfl, h.2 f _ H1 k T1 n0 ⟨n1, n2, .inl rfl⟩ (hok f c' I.ok)⟩
/-- lambda x=0: body -/
theorem pe_lam1 {c P : Addr} {params : Arguments} {body : Expr} {scope : Scope} {pos dp : Pos} {j : Nat} {ok : Addr → LF → Prop} (TB : LamX.TabB X.base X.mg c P) (hcode : X.env.code = .ref c)
    (free : ∀ y ∈ scope.names, y.2 = .free → X.env.scope.names.lookup y.1 = some .cell ∨ X.env.scope.names.lookup y.1 = some .free) (hd : params.defaults = [.Constant (.int 0) j dp]) (hk : params.kw_defaults = [])
    (hok : ∀ f c' t, X.Ok → ok f ⟨params, body, scope, cloFrom X.env.cells scope.names [], X.env.qual ++ "<lambda>", c', .ref t⟩) :
    PE X (.Lambda params body scope pos) (tLamQ (X.env.qual ++ "<lambda>") P ok) := by
  refine ⟨fun pins s σ H Q I h => ?_⟩
  refine PySem.W.kdv_lam (by rw [hd]; rfl) hk ?_
  rw [hd]
  refine PySem.W.kdv_all1 (thn ((pe_int (X := X) (i := 0) (j := j) (pos := dp)).run pins s σ H (fun v H1 => v = .int 0 ∧ H1 = H) I ⟨rfl, rfl⟩) fun u s1 ⟨v, H1, I1, r1, q1⟩ => PySem.W.kdv_all0 ?_)
  obtain ⟨e1, e2⟩ := q1
  subst e1 e2
  obtain ⟨tk, rfl⟩ := r1
  rw [makeFunction_eq]
  simp only [List.zip_nil_right, List.filterMap_nil, List.isEmpty_nil, List.isEmpty_cons, if_true, Bool.false_eq_true, if_false, pure_bind]
  refine wpAny_bind (wpAny_newTextTuple ?_)
  have J0 := inv_dv (u := tk) I1
  have nT := I1.hok.fresh (Nat.le_refl s1.heap.objs.size)
  have up : ∀ b o, H1 b = some o → (upd H1 s1.heap.objs.size (DvO s1.heap.objs.size)) b = some o := fun b o z => by
    rw [upd_ne (ne_of_none z nT)]
    exact z
  refine lam_tail J0 TB hcode (h.1.ext up) (fun y hy e => (free y hy e).elim (fun z => I.ok.has _ (.inl z)) fun z => I.ok.has _ (.inr z)) fun f c' H2 s' J k T1 n0 n1 n2 => ?_
  have nf : H1 f = none := by
    cases e : H1 f with
    | none => rfl
    | some o => rw [up _ _ e] at n0; cases n0
  refine ⟨.ref f, H2, J, rfl, h.2 f _ H2 (fun b o nb z => k b o nb (up b o z)) T1 nf ⟨n1, n2, .inr ⟨_, rfl, k _ _ (fun z => ?_) upd_same⟩⟩ (hok f c' _ I.ok)⟩
  obtain ⟨ps, hP, _⟩ := h.1
  rw [z, hP] at nT
  cases nT
end
/-! ### a kept lambda called -/
abbrev nfOf (F : LF) : NdefX.NF := ⟨"<lambda>", F.qual, F.params, [], F.scope, F.cl, F.c⟩
/-- what a lambda promises, by what its captured cells hold -/
def LamRun (P : Program) (w : World) (K : PySem.W.Frag) (mg : Str → Option Value) (base : Heap) (k : Nat) (f : Addr) (F : LF) (fr : List Str) (t : List (Option V) → XK → Hp → VK → Prop) : Prop :=
  ∀ (A : Around) (outer : List Env) (s : Shared) (H : Hp) (ws : List (Option V)) (Q : VK) (E : XK), Room k A → Env0 P w K mg base A outer s H → LamAt H f F → NdefX.CellsAt F.cl fr ws s.heap H → t ws E H Q →
    codeAny (model P w) A (.call (.ref f) ⟨[], []⟩) (CR (L2.CX P w) outer P w H s Q E) s
section
variable {P : Program} {w : World} {K : PySem.W.Frag} {mg : Str → Option Value} {base : Heap} {k : Nat} {f : Addr} {F : LF} {fr : List Str}
theorem lam_enter {N ps : List Str} {us : List Value} {vs : List V} {A : Around} {outer : List Env} {s : Shared} {H : Hp} {ws : List (Option V)} {Q : VK} {E : XK} {t : TE} (S : NdefX.NScope N ps fr F.scope) (hr : Room (k + 1) A) (e0 : Env0 P w K mg base A outer s H) (L : LamAt H f F)
    (C : NdefX.CellsAt F.cl fr ws s.heap H) (bd : ∀ v1 v2 v3, BindsTo s (F.fd v1 v2 v3) ⟨[], []⟩ (ps.zip us)) (r : Vals vs us) (hl : vs.length = ps.length)
    (hb : Room k (A.deeper (NdefX.envF (nfOf F) f s.heap.objs.size)) → PE (NdefX.ncx (L2.CX P w) P w K mg base N (nfOf F) f A outer s H E) F.body t) (ht : t (NdefX.startF N vs ws) H Q) :
    codeAny (model P w) A (.call (.ref f) ⟨[], []⟩) (CR (L2.CX P w) outer P w H s Q E) s := by
  obtain ⟨⟨od, sl, v1, v2, v3, obj⟩, _, _⟩ := e0.hok f _ L.fn
  obtain ⟨⟨oc, fs, tq, objc, fse, nme⟩, _, _⟩ := e0.hok F.c _ L.code
  have room : s.heap.NoLimit := e0.mod.nolimit.keeps fun b o z => (e0.bs b o z).1
  refine PySem.W.kla_callFunE hr.depth obj rfl S.co S.gen rfl ⟨F.c, oc, fs, tq, rfl, objc, fse, nme⟩ (bd v1 v2 v3 _ _ _ _ ?_)
  refine wpAny_newFunctionEnv S.nocell (fun y hy => S.par y.1 (List.of_mem_zip (a := y.1) (b := y.2) hy).1) (fun h1 names but => ⟨room.fresh _ but, ?_⟩) S.kind
  show codeAny _ _ (.expr F.body (NdefX.envF (nfOf F) f s.heap.objs.size)) _ _
  have J := NdefX.inv_startN (CX := L2.CX P w) (E := E) (f := f) (F := nfOf F) (tk := s.toks + (ps.zip us).length) S hr.hd e0 hl r C names fun b o z => but.extBut b o (Nat.ne_of_lt (Heap.lt_size z)) (Heap.get?_push_of_some _ z)
  exact PySem.W.kla_codeExpr (wpAny_mono ((hb (hr.deeper _)).run [] _ _ H Q J ht) (fun v s' ⟨v', H', J', rv, q⟩ => ⟨v', H', J'.os, J'.bare, J'.base, J'.hok, rv, q⟩) fun _ _ z => z)
/-- without parameters -/
theorem LamRun.of0 {t : XK → TE} (S : NdefX.NScope fr [] fr F.scope) (bd : ∀ v1 v2 v3, bindArgs (F.fd v1 v2 v3) ⟨[], []⟩ = pure [])
    (hb : ∀ (A : Around) (outer : List Env) (s : Shared) (H : Hp) (E : XK), Room k (A.deeper (NdefX.envF (nfOf F) f s.heap.objs.size)) → PE (NdefX.ncx (L2.CX P w) P w K mg base fr (nfOf F) f A outer s H E) F.body (t E)) :
    LamRun P w K mg base (k + 1) f F fr fun ws E H Q => t E (NdefX.startF fr [] ws) H Q := fun A outer s H ws Q E hr e0 L C ht =>
  lam_enter (us := []) (vs := []) S hr e0 L C (fun v1 v2 v3 _ _ _ _ hq => by
    rw [bd]
    exact wpAny_pure hq) .nil rfl (hb A outer s H E) ht
/-- with one parameter, which is 0 -/
theorem LamRun.of1 {a : Str} {T : Addr} {t : XK → TE} (S : NdefX.NScope (a :: fr) [a] fr F.scope) (dv : F.dV = .ref T) (bd : ∀ v1 v2 v3 u, ∃ k : Option (Array Value) → Sem (List (Str × Value)), bindArgs (F.fd v1 v2 v3) ⟨[], []⟩ = seqItems? F.dV >>= k ∧ k (some #[u]) = pure [(a, u)])
    (hb : ∀ (A : Around) (outer : List Env) (s : Shared) (H : Hp) (E : XK), Room k (A.deeper (NdefX.envF (nfOf F) f s.heap.objs.size)) → PE (NdefX.ncx (L2.CX P w) P w K mg base (a :: fr) (nfOf F) f A outer s H E) F.body (t E)) :
    LamRun P w K mg base (k + 1) f F fr fun ws E H Q => t E (NdefX.startF (a :: fr) [.int 0] ws) H Q := fun A outer s H ws Q E hr e0 L C ht => by
  obtain ⟨T', eT, hT⟩ := L.dfl.resolve_left fun z => by rw [dv] at z; cases z
  obtain ⟨⟨tk, objT⟩, _, _⟩ := e0.hok T' _ hT
  refine lam_enter (us := [.int 0 tk]) (vs := [.int 0]) S hr e0 L C (fun v1 v2 v3 => ?_) (.cons ⟨tk, rfl⟩ .nil) rfl (hb A outer s H E) ht
  obtain ⟨kont, b1, b2⟩ := bd v1 v2 v3 (.int 0 tk)
  exact BindsTo.of_defaults (T := T') eT objT rfl b1 b2
end
/-- a lambda of the running def -/
def WorkOk (X : Cx) (k : Nat) (js : List Nat) (t : List (Option V) → XK → Hp → VK → Prop) (f : Addr) (F : LF) : Prop := ∃ fr, NdefX.Caps X F.cl fr js ∧ LamRun X.prog X.w X.K X.mg X.base k f F fr t
section
variable {X : Cx} {c P : Addr} {params : Arguments} {body : Expr} {scope : Scope} {pos dp : Pos} {j k : Nat} {js : List Nat} {fr : List Str} {t : XK → TE}
theorem pe_work0 (TB : LamX.TabB X.base X.mg c P) (hcode : X.env.code = .ref c) (fr : List Str) (hB : NdefX.ndefB X.env.scope scope fr = true) (hS : NdefX.nscB fr [] fr scope = true) (hjs : js.map (fun j => X.N[j]?) = fr.map some) (hdef : defaultsOf params X.env = ([], []))
    (bd : ∀ (cl : List (Str × Addr)) (q : Str) (c' : Addr) (v1 v2 v3 : Value), bindArgs (LF.fd ⟨params, body, scope, cl, q, c', .none⟩ v1 v2 v3) ⟨[], []⟩ = pure [])
    (hb : ∀ (q : Str) (cl : List (Str × Addr)) (c' f : Addr) (A : Around) (outer : List Env) (s : Shared) (H : Hp) (E : XK), Room k (A.deeper (NdefX.envF ⟨"<lambda>", q, params, [], scope, cl, c'⟩ f s.heap.objs.size)) → PE (NdefX.ncx (L2.CX X.prog X.w) X.prog X.w X.K X.mg X.base fr ⟨"<lambda>", q, params, [], scope, cl, c'⟩ f A outer s H E) body (t E)) :
    PE X (.Lambda params body scope pos) (tLamQ (X.env.qual ++ "<lambda>") P (WorkOk X (k + 1) js fun ws E H Q => t E (NdefX.startF fr [] ws) H Q)) :=
  pe_lam0 TB hcode (NdefX.ndef_free hB) hdef fun f c' ok => ⟨fr, NdefX.Caps.made ok (NdefX.ndef_free hB) (NdefX.ndef_fr hB) hjs, LamRun.of0 (NdefX.nscope_by hS) (fun v1 v2 v3 => bd _ _ _ v1 v2 v3) fun A outer s H E hr => hb _ _ _ f A outer s H E hr⟩
theorem pe_work1 {a : Str} (TB : LamX.TabB X.base X.mg c P) (hcode : X.env.code = .ref c) (fr : List Str) (hB : NdefX.ndefB X.env.scope scope fr = true) (hS : NdefX.nscB (a :: fr) [a] fr scope = true) (hjs : js.map (fun j => X.N[j]?) = fr.map some) (hd : params.defaults = [.Constant (.int 0) j dp]) (hk : params.kw_defaults = [])
    (bd : ∀ (cl : List (Str × Addr)) (q : Str) (c' : Addr) (dV v1 v2 v3 u : Value), ∃ k : Option (Array Value) → Sem (List (Str × Value)), bindArgs (LF.fd ⟨params, body, scope, cl, q, c', dV⟩ v1 v2 v3) ⟨[], []⟩ = seqItems? dV >>= k ∧ k (some #[u]) = pure [(a, u)])
    (hb : ∀ (q : Str) (cl : List (Str × Addr)) (c' f : Addr) (A : Around) (outer : List Env) (s : Shared) (H : Hp) (E : XK), Room k (A.deeper (NdefX.envF ⟨"<lambda>", q, params, [], scope, cl, c'⟩ f s.heap.objs.size)) → PE (NdefX.ncx (L2.CX X.prog X.w) X.prog X.w X.K X.mg X.base (a :: fr) ⟨"<lambda>", q, params, [], scope, cl, c'⟩ f A outer s H E) body (t E)) :
    PE X (.Lambda params body scope pos) (tLamQ (X.env.qual ++ "<lambda>") P (WorkOk X (k + 1) js fun ws E H Q => t E (NdefX.startF (a :: fr) [.int 0] ws) H Q)) :=
  pe_lam1 TB hcode (NdefX.ndef_free hB) hd hk fun f c' T ok => ⟨fr, NdefX.Caps.made ok (NdefX.ndef_free hB) (NdefX.ndef_fr hB) hjs, LamRun.of1 (NdefX.nscope_by hS) rfl (fun v1 v2 v3 u => bd _ _ _ _ v1 v2 v3 u) fun A outer s H E hr => hb _ _ _ f A outer s H E hr⟩
end
/-! x(), x a name of the running def that holds a lambda -/
section
variable {P : Program} {w : World} {K : PySem.W.Frag} {mg : Str → Option Value} {base : Heap} {k i : Nat} {f g : Addr} {F : LF} {fr N : List Str} {t : List (Option V) → XK → Hp → VK → Prop}
theorem pe_do {A : Around} {outer : List Env} {s : Shared} {H : Hp} {ws : List (Option V)} {EF : XK} {q a : Str} {sc : Scope} {cdv : Value} {pn : List (Addr × Obj)} {xe : Value → Shared → Prop} {W : WX} {p1 p2 : Pos} (R : LamRun P w K mg base k f F fr t) (C : NdefX.CellsAt F.cl fr ws s.heap H) (nf : ∀ y c, F.cl.lookup y = some c → c ∉ frs outer)
    (tk : Takes ((cxOf CX0 P w K mg base N q sc g cdv A outer s H EF).tr pn xe) W) (hr : Room k (A.deeper (envOfC q sc s.heap.objs.size g cdv))) (hN : N[i]? = some a) (hv : Vis sc a) (hd : (a == ("__debug__" : Str)) = false := by decide) (hcd : (a == ("__classdict__" : Str)) = false := by decide) :
    PE ((cxOf CX0 P w K mg base N q sc g cdv A outer s H EF).tr pn xe) (.Call (.Name a p1) [] [] p2) (fun σ1 H1 Q => σ1[i]? = some (some (.ref f)) ∧ LamAt H1 f F ∧ t ws (WE W σ1) H1 Q) := by
  refine ⟨fun pins s1 σ1 H1 Q I h => ?_⟩
  obtain ⟨slot, L, ht⟩ := h
  refine wpAny_Call_Name_kw (thn ((pe_var (pos := p1) (i := i) hN hv hd hcd).run pins s1 σ1 H1 (fun v H2 => v = .ref f ∧ H2 = H1) I ⟨.ref f, slot, rfl, rfl⟩) fun u s2 got => ?_)
  obtain ⟨v, H2, J, rv, e1, e2⟩ := got
  subst e1 e2
  obtain rfl : u = Value.ref f := rv
  obtain ⟨⟨od, sl, v1, v2, v3, obj⟩, _, _⟩ := J.hok f _ L.fn
  refine PySem.W.callWith_F0 ⟨_, _, _, _, obj⟩ ?_
  have lets := passAt tk σ1
  have held := NdefX.CellsAt.later (X := (cxOf CX0 P w K mg base N q sc g cdv A outer s H EF).tr pn xe) C nf (fun _ _ _ z => nomatch (show _ ∈ ([] : List Addr) from z)) J
  refine wpAny_call (codeAny_mono (R _ _ _ _ ws Q _ hr J.env0 L held ht) fun r s' res => ?_)
  match r, res with
  | .error e, res => exact lets pins _ s2 e s' J res
  | .ok (.ret u), res => exact J.after res
end
/-! ### [elt for target in iter if ..] where elt, or the tests, call what the running def has captured -/
/-- a comprehension's block that was entered from the running def, which stood so -/
def BlkFrom (X : Cx) (σ : L2.St) (s : Shared) (H : Hp) (fp : List Addr) : Prop := ∃ pins, Inv X pins σ H s ∧ ∀ b ∈ fp, FpOk X pins H b
section
variable {X : Cx} {scope : Scope} {own : List (Str × Nat)} {elt tg iter : Expr} {ifs : List Expr} {pos : Pos} {wi : TI} {g : TG} {tt : L2.St → TT} {te : L2.St → TE}
/-- one turn of the loop, and what is left of it -/
theorem lcI_turn {σ : L2.St} {s s' : Shared} {H : Hp} {it D : Addr} {fp : List Addr} {tn : Nat → Heap → Prop} {J : It} {ce : Env} {W : Nat → Nat → Hp → Prop} {Q : VK} {Qf : Value → Shared → Prop} {pins : List (Addr × Obj)} (hc : X.calm = true) (I : Inv X pins σ H s) (fpo : ∀ b ∈ fp, FpOk X pins H b)
    (ceL : ce.locals = s.heap.objs.size) (turns : Turn X.prog X.w X.K tg J fp it tn) (pg : PG (X.blk s H scope ce fp) tg g) (pt : PTs (X.blk s H scope ce fp) ifs (tt σ)) (pe : PE (X.blk s H scope ce fp) elt (te σ))
    (ways : ∀ i m H, W i m H → (J.stop i H ∧ Q (.ref D) H) ∨ (J.go i H ∧ ∃ Nx : Hp → Prop, (∀ H', Nx H' → ∃ m', m' < m ∧ W (i + 1) m' H') ∧ ∀ x H', J.yld i H x H' → g x (wipe σ (own.map (·.2))) H' fun σ2 H2 => wipe σ2 (own.map (·.2)) = wipe σ (own.map (·.2)) ∧ tt σ σ2 H2 fun b H3 =>
      if b = true then te σ σ2 H3 fun y H4 => ∃ acc, H4 D = some (.lst acc) ∧ acc.length < sizeLine ∧ Nx (upd H4 D (.lst (acc ++ [y]))) else Nx H3))
    (out : ∀ s2 m H2, Inv X pins σ H2 s2 → Q (.ref D) H2 → s2.heap.Ns s.heap.objs.size m → FpOk X pins H2 s.heap.objs.size → ∀ h', Heap.SameBut s.heap.objs.size s2.heap h' → Qf (.ref D) { s2 with heap := h' })
    (n0 : Nat) (w0 : W 0 n0 H) (J0 : Inv (X.blk s H scope ce fp) [] (wipe σ (own.map (·.2))) H s') (t0 : tn 0 s'.heap) (f0 : ∀ b ∈ fp, H b = none) :
    codeAny (model X.prog X.w) X.A (.compLoop (.ListComp elt [⟨tg, iter, ifs, 0⟩] scope pos) 0 (.ref it) (.ref D) ce) (compPost (model X.prog X.w) X.A X.xe none Qf (.ref D) s.heap.objs.size) s' := by
  have fps : ∀ {σ1 : L2.St} {H1 : Hp} {s1 : Shared}, Inv (X.blk s H scope ce fp) [] σ1 H1 s1 → (∀ b ∈ fp, H1 b = none) → ∀ b ∈ fp, FpOk (X.blk s H scope ce fp) [] H1 b := fun {σ1 H1 s1} K1 z b hb =>
    ⟨z b hb, (K1.ok.exf b hb).1, K1.ok.exfs b hb, Or.inl hb, fun y a ey => (K1.ok.exf b hb).2 y a ey, fun q hq => (List.not_mem_nil hq).elim⟩
  refine compLoop_any (fun m s1 => ∃ i H1, W i m H1 ∧ (∀ b ∈ fp, H1 b = none) ∧ tn i s1.heap ∧ Inv (X.blk s H scope ce fp) [] (wipe σ (own.map (·.2))) H1 s1) ?_ n0 ⟨0, H, w0, f0, t0, J0⟩
  rintro m s1 ⟨i, H1, w1, f1, t1, J1⟩
  rcases ways i m H1 w1 with ⟨st, qq⟩ | ⟨mv, Nx, nxt, step⟩
  · -- no item is left: back in the running def
    refine thnF (turns.done (X.blk s H scope ce fp) rfl rfl rfl hc i [] s1 _ H1 (fun _ _ => False) J1 (fps J1 f1) t1 st) fun r s2 fin => ?_
    obtain ⟨er, J2⟩ := fin
    subst er
    have back : Inv X pins σ H1 s2 := I.call' (ch := fp) J2.os J2.base J2.hok J2.bare fun b hb => ⟨(fpo b hb).2.2.2.1, (fpo b hb).2.1, (fpo b hb).2.2.2.2.1, (fpo b hb).2.2.2.2.2⟩
    have freeL : H1 s.heap.objs.size = none := by
      rw [← ceL]
      exact J2.free
    obtain ⟨mm, names, _⟩ := J2.loc
    have names' : s2.heap.Ns s.heap.objs.size mm := by
      rw [← ceL]
      exact names
    exact ⟨mm, names', out s2 mm H1 back qq names' (I.fpOk (Nat.le_refl _) freeL)⟩
  · -- an item
    refine thnF (turns.item (X.blk s H scope ce fp) rfl rfl rfl hc i [] s1 _ H1 (fun _ _ => False) J1 (fps J1 f1) t1 mv) fun r s2 got => ?_
    obtain ⟨u, er, got⟩ := got
    subst er
    refine thnF got fun _ s3 ⟨x, H3, J3, rx, yx, t3, f3⟩ => ?_
    refine thnF (pg.run _ s3 _ H3 x u _ (J3.pinned (fps J3 f3) (turns.obj _ _ t3)) rx (step x H3 yx)) fun _ s4 ⟨σ4, H4, J4, same4, q4⟩ => ?_
    refine thnF (pt.run _ s4 σ4 H4 _ J4 q4) fun ans s5 ⟨H5, J5, q5⟩ => ?_
    have close : ∀ {s6 : Shared} {H6 : Hp}, Inv (X.blk s H scope ce fp) ([] ++ pinsAt fp s3.heap) σ4 H6 s6 → Nx H6 → ∃ m', m' < m ∧ ∃ i H1, W i m' H1 ∧ (∀ b ∈ fp, H1 b = none) ∧ tn i s6.heap ∧ Inv (X.blk s H scope ce fp) [] (wipe σ (own.map (·.2))) H1 s6 := fun {s6 H6} J6 nx => by
      obtain ⟨m', lt, w'⟩ := nxt H6 nx
      have kept : ∀ b ∈ fp, ∀ o, s3.heap.get? b = some o → s6.heap.get? b = some o ∧ H6 b = none := fun b hb o eo => by
        have z := J6.pin (b, o) (List.mem_append_right _ (List.mem_append_right _ (mem_pinsAt hb eo)))
        exact ⟨z.1, z.2.1⟩
      refine ⟨m', lt, i + 1, H6, w', fun b hb => ?_, turns.keep _ _ _ t3 fun b hb o eo => (kept b hb o eo).1, (J6.unpinned (pins := [])).weak ?_ fun e v ev => ?_⟩
      · obtain ⟨o, eo, _⟩ := turns.obj _ _ t3 b hb
        exact (kept b hb o eo).2
      · rw [← same4, wipe_length]
      · rw [← same4] at ev
        exact (wipe_some ev).1
    match ans, q5 with
    | false, q5 =>
      have q5 : Nx H5 := q5
      exact close J5 q5
    | true, q5 =>
      have q5 : te σ σ4 H5 fun y H4 => ∃ acc, H4 D = some (.lst acc) ∧ acc.length < sizeLine ∧ Nx (upd H4 D (.lst (acc ++ [y]))) := q5
      show wpAny _ _ (eval elt ce) _ _ s5
      refine thnF (pe.run _ s5 σ4 H5 _ J5 q5) fun z s6 ⟨y, H6, J6, ry, acc, hD6, room, nx⟩ => ?_
      exact app_ok (X := X.blk s H scope ce fp) J6 hD6 room ry fun s7 J7 => close J7 nx
theorem pe_lcI (hc : X.calm = true) (hN : X.N.Nodup) (hi : PI X tg iter wi) (ok : BlkOk X.N X.env.scope scope own) (hg : ∀ (s : Shared) (H : Hp) (C : Addr) (cl : List (Str × Addr)) (fp : List Addr), PG (X.blk s H scope (compEnvC scope cl C X.env) fp) tg g)
    (ht : ∀ (σ : L2.St) (s : Shared) (H : Hp) (C : Addr) (cl : List (Str × Addr)) (fp : List Addr), BlkFrom X σ s H fp → PTs (X.blk s H scope (compEnvC scope cl C X.env) fp) ifs (tt σ))
    (he : ∀ (σ : L2.St) (s : Shared) (H : Hp) (C : Addr) (cl : List (Str × Addr)) (fp : List Addr), BlkFrom X σ s H fp → PE (X.blk s H scope (compEnvC scope cl C X.env) fp) elt (te σ)) (hs : ∀ x, foldedSetIterable iter X.env x = pure x := by intro _; rfl) :
    PE X (.ListComp elt [⟨tg, iter, ifs, 0⟩] scope pos) (fun σ H Q => tLc wi g (tt σ) (te σ) (own.map (·.2)) σ H Q) := by
  refine ⟨fun pins s σ H Q I h => ?_⟩
  rw [eval_ListComp]
  have inCells : ∀ y ∈ scope.names, y.2 = .free → ∃ a, X.env.cells.lookup y.1 = some a := fun y hy ey => by
    rcases ok.free y hy ey with z | z
    · exact I.ok.has y.1 (Or.inl z)
    · exact I.ok.has y.1 (Or.inr z)
  refine wpAny_comprehension_free (use := none) rfl hs (closure_ok inCells) ok.kind (fun y hy ey => by rw [ok.uniq y hy, ey]) (thn (hi.run pins s σ H _ I h) fun xv s1 e1 => thn e1 fun itv s2 e2 => ?_)
  obtain ⟨it, fp, tn, J, H2, ev, I2, turns, t2, fp2, q⟩ := e2
  subst ev
  refine wpAny_newObj_type (newEnv_comp ?_) (by show 0 ≤ sizeLine; decide)
  obtain ⟨W, ⟨n0, w0⟩, ways⟩ := q s2.heap.objs.size (I2.hok.fresh (Nat.le_refl _))
  have newD := I2.hok.fresh (Nat.le_refl s2.heap.objs.size)
  have atD : (s2.heap.push { cls := .type "list", data := .seq ([] : List Value).toArray }).get? s2.heap.objs.size = some { cls := .type "list", data := .seq ([] : List Value).toArray } := Heap.get?_push_size _ rfl
  have I3 : Inv X pins σ (upd H2 s2.heap.objs.size (.lst [])) { s2 with heap := s2.heap.push { cls := .type "list", data := .seq ([] : List Value).toArray } } := I2.laid (t' := s2.toks) (fun _ _ z => Heap.get?_push_of_some _ z) (Nat.le_refl _) ⟨Nat.zero_le _, [], 0, .nil, atD⟩
  have low : ∀ b ∈ fp, b < s2.heap.objs.size := fun b hb => by
    obtain ⟨o, eo, _⟩ := turns.obj _ _ t2 b hb
    exact Heap.lt_size eo
  have fp3 : ∀ b ∈ fp, FpOk X pins (upd H2 s2.heap.objs.size (.lst [])) b := fun b hb => ⟨by rw [upd_ne (Nat.ne_of_lt (low b hb))]; exact (fp2 b hb).1, (fp2 b hb).2⟩
  have sz3 : s2.heap.objs.size < (s2.heap.push { cls := .type "list", data := .seq ([] : List Value).toArray }).objs.size := by rw [Heap.size_push]; exact Nat.lt_succ_self _
  have J3 := block_start I3 ok hN fun b hb => ⟨fp3 b hb, Nat.lt_trans (low b hb) sz3⟩
  have t3 : tn 0 (pushCells ((s2.heap.push { cls := .type "list", data := .seq ([] : List Value).toArray }).push { cls := .type "dict", data := .dict #[] }) scope.names) := turns.keep _ _ _ t2 fun b _ o eo => pushCells_keeps _ _ _ _ (Heap.get?_push_of_some _ (Heap.get?_push_of_some _ eo))
  have from3 : BlkFrom X σ { s2 with heap := s2.heap.push { cls := .type "list", data := .seq ([] : List Value).toArray } } (upd H2 s2.heap.objs.size (.lst [])) fp := ⟨pins, I3, fp3⟩
  refine codeAny_compStart_list ?loop (turns.self X.A 0 _ _ _ t3 ?loop)
  exact lcI_turn (ce := compEnvC scope _ _ X.env) hc I3 fp3 rfl turns (hg _ _ _ _ fp) (ht σ _ _ _ _ fp from3) (he σ _ _ _ _ fp from3) ways (fun z2 m G2 K qq _ fd h' but => ⟨.ref s2.heap.objs.size, G2, K.turned (t' := z2.toks) (fun b o nb eo => (but.2 b nb).trans eo) fd.1 fd.2.1 fd.2.2.2.1 fd.2.2.2.2.1 fd.2.2.2.2.2, rfl, qq⟩) n0 w0 J3 t3 fun b hb => (fp3 b hb).1
end
section
variable {P : Program} {w : World} {K : PySem.W.Frag} {mg : Str → Option Value} {base : Heap}
/-! ### _law_word -/
structure RefW (K : PySem.W.Frag) (mg : Str → Option Value) (CL CO CN c1 c2 c3 c4 c5 : Addr) : Prop where
  gL : mg "LongError" = some (.ref CL)
  exO : PySem.W.exmOne K (.ref CO) (.ref CL) = some true
  exN : PySem.W.exmOne K (.ref CN) (.ref CL) = some true
  gO : mg "NotOrdered" = some (.ref CO)
  gN : mg "NoSuch" = some (.ref CN)
  EO : ExcC K CO
  EN : ExcC K CN
  g1 : mg "BadChain" = some (.ref c1)
  g2 : mg "BadText" = some (.ref c2)
  g3 : mg "NeverOne" = some (.ref c3)
  g4 : mg "NotOne" = some (.ref c4)
  g5 : mg "TooMany" = some (.ref c5)
  noO : PySem.W.kitAny K (.ref CO) [.ref c1, .ref c2, .ref c3, .ref c4, .ref c5] = some false
  noN : PySem.W.kitAny K (.ref CN) [.ref c1, .ref c2, .ref c3, .ref c4, .ref c5] = some false
  valO : PySem.W.kitOne K (.ref CO) (.type "ValueError") = some true
  valN : PySem.W.kitOne K (.ref CN) (.type "ValueError") = some true
  on : PySem.W.kitOne K (.ref CO) (.ref CN) = some false
  oo : PySem.W.kitOne K (.ref CO) (.ref CO) = some true
  nn : PySem.W.kitOne K (.ref CN) (.ref CN) = some true
  no : PySem.W.kitOne K (.ref CN) (.ref CO) = some false
  fld : PySem.W.findIn K (.ref CO) "move" = some none
  mi : mg "isinstance" = none
  mv : mg "ValueError" = none
  mb : mg "bool" = none
  mn : mg "int" = none
theorem excXf {K : PySem.W.Frag} {D : Addr} (E : ExcC K D) : XfC K D := ⟨E.hg, E.hk, E.hs, E.hd⟩
theorem pss_or {X : Cx} {ss : List Stmt} {t1 t2 : TS} {p1 p2 : Prop} (h1 : p1 → PSs X ss t1) (h2 : p2 → PSs X ss t2) : PSs X ss (fun D σ H => (p1 ∧ t1 D σ H) ∨ (p2 ∧ t2 D σ H)) := ⟨fun pins s σ H D I hh => by
  rcases hh with hh | hh
  · exact (h1 hh.1).run pins s σ H D I hh.2
  · exact (h2 hh.1).run pins s σ H D I hh.2⟩
theorem scWd : FnScope ["_law_work", "_law_e"] ["_law_work"] (defScope sLawWord) := ⟨rfl, rfl, rfl, by decide +kernel, rfl, by decide +kernel, by decide +kernel⟩
def tpl5 (c1 c2 c3 c4 c5 : Addr) : TE := tTup (tCons (tC (.ref c1)) (tCons (tC (.ref c2)) (tCons (tC (.ref c3)) (tCons (tC (.ref c4)) (tCons (tC (.ref c5)) tNil)))))
def tSO (K : PySem.W.Frag) (CO CN c1 c2 c3 c4 c5 : Addr) (a : Addr) (cls : Value) (d : Option Addr) : TS :=
  tSeq (tIfS (tOr (tNot (tB (tCB (rIsD K CO a (d.getD 0)) (tCons (tVar 1) (tCons (tC (.ty "ValueError")) tNil))))) (tB (tCB (rExD K CO a (d.getD 0)) (tCons (tVar 1) (tCons (tpl5 c1 c2 c3 c4 c5) tNil))))) (tRet (tC (.str "other"))) tNext)
    (tSeq (tIfS (tAnd (tB (tCB (rIsD K CO a (d.getD 0)) (tCons (tVar 1) (tCons (tC (.ref CO)) tNil)))) (tNot (tB (tCB (rIsD K CO a (d.getD 0)) (tCons (tVar 1) (tCons (tC (.ref CN)) tNil)))))) (tRet (tIf (tAnd (tB (tCB (rIsi K) (tCons (tXf a cls d CO "move" (tVar 1)) (tCons (tC (.ty "int")) tNil)))) (tNot (tB (tCB (rIsi K) (tCons (tXf a cls d CO "move" (tVar 1)) (tCons (tC (.ty "bool")) tNil)))))) (tXf a cls d CO "move" (tVar 1)) (tC (.str "other")))) tNext) tNever)
def tSN (K : PySem.W.Frag) (CO CN c1 c2 c3 c4 c5 : Addr) (a : Addr) : TS :=
  tSeq (tIfS (tOr (tNot (tB (tCB (rIsE K CN a) (tCons (tVar 1) (tCons (tC (.ty "ValueError")) tNil))))) (tB (tCB (rExT K CN a) (tCons (tVar 1) (tCons (tpl5 c1 c2 c3 c4 c5) tNil))))) (tRet (tC (.str "other"))) tNext)
    (tSeq (tIfS (tAnd (tB (tCB (rIsE K CN a) (tCons (tVar 1) (tCons (tC (.ref CO)) tNil)))) (tNot (tB (tCB (rIsE K CN a) (tCons (tVar 1) (tCons (tC (.ref CN)) tNil)))))) tNever tNext)
      (tRet (tIf (tAnd (tB (tCB (rIsE K CN a) (tCons (tVar 1) (tCons (tC (.ref CN)) tNil)))) (tNot (tB (tCB (rIsE K CN a) (tCons (tVar 1) (tCons (tC (.ref CO)) tNil)))))) (tC (.str "such")) (tC (.str "other")))))
/-- the refusals that a work may end with, and what the word is then -/
def EW (CN CO : Addr) (Q : VK) : XK := fun cls d H' => (cls = .ref CN ∧ d = none ∧ ∀ H'', Same H' H'' → Q (.str "such") H'') ∨ (cls = .ref CO ∧ ∃ (dd : Addr) (k : Int), d = some dd ∧ H' dd = some (.xd [("move", .int k)]) ∧ ∀ H'', Same H' H'' → Q (.int k) H'')
theorem word_run {fW CL CO CN c1 c2 c3 c4 c5 f : Addr} {fd : FuncData} {FF : LF} {fr : List Str} {k : Nat} {t : List (Option V) → XK → Hp → VK → Prop} {A : Around} {outer : List Env} {s : Shared} {H : Hp} {ws : List (Option V)} {Q : VK}
    (F : Fun K "_law_word" "_law_word" sLawWord fW fd) (bW : Binds K fd ["_law_work"] []) (R : RefW K mg CL CO CN c1 c2 c3 c4 c5) (hr : Room (k + 1) A) (e0 : Env0 P w K mg base A outer s H) (L : LamAt H f FF) (C : NdefX.CellsAt FF.cl fr ws s.heap H) (nf : ∀ y c, FF.cl.lookup y = some c → c ∉ frs outer)
    (run : LamRun P w K mg base k f FF fr t) (ht : ∀ E : XK, (∀ cls d H', EW CN CO Q cls d H' → E cls d H') → t ws E H (fun _ H' => Q .non H')) : codeAny (model P w) A (.call (.ref fW) ⟨[.ref f], []⟩) (CR CX0 outer P w H s Q E0) s := by
  obtain ⟨oc, od, kV, doc, pm, an, cdv, ct, osl, rfl, lk, hcd⟩ := F.ex
  have kin : K.In s.heap := e0.mod.kin.keeps fun b o e => (e0.bs b o e).1
  refine LamX.run_ofS (N := ["_law_work", "_law_e"]) (ps := ["_law_work"]) (us := [.ref f]) (vs := [.ref f]) lk hcd scWd hr e0 (bW s [.ref f] kin rfl) (.cons rfl .nil) rfl fun hr' => ?_
  refine ⟨_, pss_cons (ps_try_as (i := 1) (tb := fun W => tDrop (fun σ1 H1 Q1 => σ1[0]? = some (some (.ref f)) ∧ LamAt H1 f FF ∧ t ws (WE W σ1) H1 Q1))
        (ts := fun a cls d D σ H => ((cls = .ref CO ∧ d = some (d.getD 0)) ∧ tSO K CO CN c1 c2 c3 c4 c5 a cls d D σ H) ∨ ((cls = .ref CN ∧ d = none) ∧ tSN K CO CN c1 c2 c3 c4 c5 a D σ H)) (Wout := fun _ _ _ _ => False) rfl rfl scWd.nd rfl rfl ⟨rfl, by decide, .inl R.gL⟩ LamX.takes0
        (fun W pn xe tk _ => pss_one (ps_expr (by exact (pe_do (i := 0) run C nf tk hr' rfl (.inl (by decide +kernel))))))
        (fun a oe cls d pn hz hf => pss_or (fun hp => by
          obtain ⟨rfl, hd⟩ := hp
          cases d with
          | none => cases hd
          | some dd =>
            exact (pss_cons (ps_if (PW.pt (pw_or (pt_not (pt_val (pe_callB (call_isD R.EO hz hf) (by rfl) R.mi (by decide +kernel) (pa_cons (pv 1) (pa_cons (pe_bltn (v := .ty "ValueError") (by rfl) R.mv (by decide +kernel) rfl) pa_nil)))))
                (pw_or1 (pt_val (pe_callB (call_exD R.EO hz hf) (by rfl) R.mi (by decide +kernel) (pa_cons (pv 1) (pa_cons (pe_tup (pa_cons (pe_glob (v := .ref c1) (by rfl) R.g1 rfl) (pa_cons (pe_glob (v := .ref c2) (by rfl) R.g2 rfl) (pa_cons (pe_glob (v := .ref c3) (by rfl) R.g3 rfl) (pa_cons (pe_glob (v := .ref c4) (by rfl) R.g4 rfl) (pa_cons (pe_glob (v := .ref c5) (by rfl) R.g5 rfl) pa_nil)))))) pa_nil))))))) (pss_one (ps_ret pe_str)) pss_nil)
              (pss_cons (ps_if (PW.pt (pw_and (pt_val (pe_callB (call_isD R.EO hz hf) (by rfl) R.mi (by decide +kernel) (pa_cons (pv 1) (pa_cons (pe_glob (v := .ref CO) (by rfl) R.gO rfl) pa_nil)))) (pw_and1 (pt_not (pt_val (pe_callB (call_isD R.EO hz hf) (by rfl) R.mi (by decide +kernel) (pa_cons (pv 1) (pa_cons (pe_glob (v := .ref CN) (by rfl) R.gN rfl) pa_nil))))))))
                (pss_one (ps_ret (pe_ifExp (PW.pt (pw_and (pt_val (pe_callB call_isi (by rfl) R.mi (by decide +kernel) (pa_cons (pe_xf (excXf R.EO) R.fld hz hf (pv 1)) (pa_cons (pe_bltn (v := .ty "int") (by rfl) R.mn (by decide +kernel) rfl) pa_nil))))
                  (pw_and1 (pt_not (pt_val (pe_callB call_isi (by rfl) R.mi (by decide +kernel) (pa_cons (pe_xf (excXf R.EO) R.fld hz hf (pv 1)) (pa_cons (pe_bltn (v := .ty "bool") (by rfl) R.mb (by decide +kernel) rfl) pa_nil)))))))) (pe_xf (excXf R.EO) R.fld hz hf (pv 1)) pe_str))) pss_nil) pss_never)))
          (fun hp => by
          obtain ⟨rfl, rfl⟩ := hp
          exact (pss_cons (ps_if (PW.pt (pw_or (pt_not (pt_val (pe_callB (call_isE R.EN hz hf) (by rfl) R.mi (by decide +kernel) (pa_cons (pv 1) (pa_cons (pe_bltn (v := .ty "ValueError") (by rfl) R.mv (by decide +kernel) rfl) pa_nil)))))
                (pw_or1 (pt_val (pe_callB (call_exT R.EN hz hf) (by rfl) R.mi (by decide +kernel) (pa_cons (pv 1) (pa_cons (pe_tup (pa_cons (pe_glob (v := .ref c1) (by rfl) R.g1 rfl) (pa_cons (pe_glob (v := .ref c2) (by rfl) R.g2 rfl) (pa_cons (pe_glob (v := .ref c3) (by rfl) R.g3 rfl) (pa_cons (pe_glob (v := .ref c4) (by rfl) R.g4 rfl) (pa_cons (pe_glob (v := .ref c5) (by rfl) R.g5 rfl) pa_nil)))))) pa_nil))))))) (pss_one (ps_ret pe_str)) pss_nil)
              (pss_cons (ps_if (PW.pt (pw_and (pt_val (pe_callB (call_isE R.EN hz hf) (by rfl) R.mi (by decide +kernel) (pa_cons (pv 1) (pa_cons (pe_glob (v := .ref CO) (by rfl) R.gO rfl) pa_nil)))) (pw_and1 (pt_not (pt_val (pe_callB (call_isE R.EN hz hf) (by rfl) R.mi (by decide +kernel) (pa_cons (pv 1) (pa_cons (pe_glob (v := .ref CN) (by rfl) R.gN rfl) pa_nil)))))))) pss_never pss_nil)
              (pss_one (ps_ret (pe_ifExp (PW.pt (pw_and (pt_val (pe_callB (call_isE R.EN hz hf) (by rfl) R.mi (by decide +kernel) (pa_cons (pv 1) (pa_cons (pe_glob (v := .ref CN) (by rfl) R.gN rfl) pa_nil)))) (pw_and1 (pt_not (pt_val (pe_callB (call_isE R.EN hz hf) (by rfl) R.mi (by decide +kernel) (pa_cons (pv 1) (pa_cons (pe_glob (v := .ref CO) (by rfl) R.gO rfl) pa_nil)))))))) pe_str pe_str))))))))
      (pss_one (ps_ret pe_non)), ?_⟩
  refine ⟨rfl, L, ht _ fun cls d H1 hE => ?_⟩
  rcases hE with ⟨rfl, rfl, q⟩ | ⟨rfl, dd, kk, rfl, hd, q⟩
  · refine ⟨true, R.exN, fun _ a na => .inr ⟨⟨rfl, rfl⟩, ?_⟩, fun z => nomatch z⟩
    refine ⟨.ref a, rfl, .ty "ValueError", _, true, rfl, (fun u r => r), R.valN, true, rfl, ?_⟩
    refine ⟨.ref a, rfl, (by show 5 ≤ sizeLine; decide), fun tp ntp => ?_⟩
    have s2 := same_new (o := .tup [.ref c1, .ref c2, .ref c3, .ref c4, .ref c5]) ntp
    refine ⟨tp, _, _, false, rfl, upd_same, .cons (.own _) (.cons (.own _) (.cons (.own _) (.cons (.own _) (.cons (.own _) .nil)))), R.noN, false, rfl, iteF ?_⟩
    refine ⟨.ref a, rfl, .ref CO, _, false, rfl, (fun u r => r), R.no, false, rfl, iteF (iteF ?_)⟩
    refine ⟨.ref a, rfl, .ref CN, _, true, rfl, (fun u r => r), R.nn, true, rfl, iteT ?_⟩
    refine ⟨.ref a, rfl, .ref CO, _, false, rfl, (fun u r => r), R.no, false, rfl, iteT ?_⟩
    exact q _ s2
  · refine ⟨true, R.exO, fun _ a na => .inl ⟨⟨rfl, rfl⟩, ?_⟩, fun z => nomatch z⟩
    refine ⟨.ref a, rfl, .ty "ValueError", _, true, _, rfl, (fun u r => r), R.valO, hd, true, rfl, ?_⟩
    refine ⟨.ref a, rfl, (by show 5 ≤ sizeLine; decide), fun tp ntp => ?_⟩
    have s2 := same_new (o := .tup [.ref c1, .ref c2, .ref c3, .ref c4, .ref c5]) ntp
    have hd2 := s2 _ _ hd
    refine ⟨tp, _, _, false, _, rfl, upd_same, .cons (.own _) (.cons (.own _) (.cons (.own _) (.cons (.own _) (.cons (.own _) .nil)))), R.noO, hd2, false, rfl, iteF ?_⟩
    refine ⟨.ref a, rfl, .ref CO, _, true, _, rfl, (fun u r => r), R.oo, hd2, true, rfl, iteT ?_⟩
    refine ⟨.ref a, rfl, .ref CN, _, false, _, rfl, (fun u r => r), R.on, hd2, false, rfl, iteT ?_⟩
    refine ⟨.ref a, rfl, rfl, rfl, dd, _, .int kk, rfl, hd2, rfl, .int kk, .ty "int", .type "int", .type "int", true, rfl, .ty _, .base (.int _), kit_ty (by decide +kernel), true, rfl, iteT ?_⟩
    refine ⟨.ref a, rfl, rfl, rfl, dd, _, .int kk, rfl, hd2, rfl, .int kk, .ty "bool", .type "int", .type "bool", false, rfl, .ty _, .base (.int _), kit_ty (by decide +kernel), false, rfl, iteT ?_⟩
    exact ⟨.ref a, rfl, rfl, rfl, dd, _, .int kk, rfl, hd2, rfl, q _ s2⟩
end
section
variable {X : Cx} {fW CL CO CN c1 c2 c3 c4 c5 : Addr} {fd : FuncData} {k : Nat}
/-- what the word of a work in the running def comes to; σ: the def's names -/
def WdIs (X : Cx) (k : Nat) (CN CO : Addr) (σ : L2.St) (v : V) (H : Hp) (Q : VK) : Prop := ∃ (f : Addr) (F : LF) (js : List Nat) (t : List (Option V) → XK → Hp → VK → Prop), v = .ref f ∧ LamAt H f F ∧ WorkOk X k js t f F ∧
  ∀ E : XK, (∀ cls d H', EW CN CO Q cls d H' → E cls d H') → t (js.map (NdefX.slotAt σ)) E H (fun _ H' => Q .non H')
/-- the running def is a plain one: its cells are its own -/
structure PlainCx (X : Cx) : Prop where
  fn : ∀ y, X.fn y = true
  stk : X.stack = X.env :: X.outer
  frm : X.env.frame = some X.env.locals
theorem cells_own {pins : List (Addr × Obj)} {σ : L2.St} {H : Hp} {s : Shared} (pc : PlainCx X) (I : Inv X pins σ H s) {y : Str} {c : Addr} (h : X.env.cells.lookup y = some c) : c ∉ frs X.stack := fun z => by
  rw [pc.stk] at z
  have z : c ∈ (X.env :: X.outer).filterMap (·.frame) := z
  rw [List.filterMap_cons, pc.frm] at z
  rcases List.mem_cons.mp z with e | z
  · exact I.cne y c h e
  · obtain ⟨_, o, ho, _⟩ := I.ok.funs.mem z
    have h1 := I.ok.cab y c (pc.fn y) h
    exact Nat.lt_irrefl _ (Nat.lt_of_lt_of_le (Heap.lt_size ho) h1)
theorem word_at (F : Fun X.K "_law_word" "_law_word" sLawWord fW fd) (bW : Binds X.K fd ["_law_work"] []) (R : RefW X.K X.mg CL CO CN c1 c2 c3 c4 c5) (hr : Room (k + 1) X.A) (pc : PlainCx X) {pins : List (Addr × Obj)} {σ : L2.St} {H : Hp} {s : Shared} {Q : VK} {v : V} (I : Inv X pins σ H s) (h : WdIs X k CN CO σ v H Q) :
    ∃ f, v = .ref f ∧ codeAny (model X.prog X.w) X.A (.call (.ref fW) ⟨[.ref f], []⟩) (CR CX0 X.stack X.prog X.w H s Q E0) s := by
  obtain ⟨f, FF, js, t, ev, L, ⟨fr, caps, run⟩, ht⟩ := h
  exact ⟨f, ev, word_run F bW R hr I.env0 L (NdefX.cells_of I caps) (fun y c e => cells_own pc I (caps.sub y c e)) run ht⟩
variable {e : Expr} {te : TE} {p pos : Pos}
def oneV (φ : V → Hp → Prop) : List V → Hp → Prop
  | [v], H => φ v H
  | _, _ => False
theorem oneV_of {φ : V → Hp → Prop} {vs : List V} {us : List Value} {H : Hp} (h : oneV φ vs H) (r : Vals vs us) : ∃ v u, us = [u] ∧ RelV v u ∧ φ v H := by
  match vs, h with
  | [v], h =>
    obtain ⟨u, rfl, ru⟩ := r.one
    exact ⟨v, u, rfl, ru, h⟩
/-- _law_word(e), in the def itself -/
theorem pe_word (F : Fun X.K "_law_word" "_law_word" sLawWord fW fd) (bW : Binds X.K fd ["_law_work"] []) (R : RefW X.K X.mg CL CO CN c1 c2 c3 c4 c5) (hr : Room (k + 1) X.A) (pc : PlainCx X) (hg : Gl X "_law_word") (hm : X.mg "_law_word" = some (.ref fW)) (he : PE X e te)
    (hst : starEach [e] X.env = (false, eval e X.env) :: starEach [] X.env := by rfl) :
    PE X (.Call (.Name "_law_word" p) [e] [] pos) (fun σ H Q => te σ H fun v H1 => WdIs X k CN CO σ v H1 Q) := by
  refine ⟨fun pins s σ H Q I h => ?_⟩
  refine wpAny_Call_Name_kw (ld_glob I hg hm ?_ (by decide))
  refine PySem.W.callWith_K (h₀ := X.base) I.ok.mod.kin F.kp (thn ((pa_cons he pa_nil hst).run pos pins s σ H (oneV fun v H1 => WdIs X k CN CO σ v H1 Q) I h) fun us s1 ⟨vs, H1, I1, r, q⟩ => ⟨I1.kIn, ?_⟩) hst rfl
  obtain ⟨v, u, rfl, rv, hw⟩ := oneV_of q r
  obtain ⟨f, rfl, run⟩ := word_at F bW R hr pc I1 hw
  obtain rfl : u = Value.ref f := rv
  refine wpAny_call (codeAny_mono run fun r s' res => ?_)
  match r, res with
  | .ok (.ret u), res => exact I1.after res
/-- .. in a comprehension's block that was entered from the def -/
theorem pe_wordB {σ0 : L2.St} {s0 : Shared} {H0 : Hp} {scope : Scope} {ce : Env} {fp : List Addr} (B : BlkFrom X σ0 s0 H0 fp) (F : Fun X.K "_law_word" "_law_word" sLawWord fW fd) (bW : Binds X.K fd ["_law_work"] []) (R : RefW X.K X.mg CL CO CN c1 c2 c3 c4 c5) (hr : Room (k + 1) X.A) (pc : PlainCx X)
    (hg : Gl (X.blk s0 H0 scope ce fp) "_law_word") (hm : X.mg "_law_word" = some (.ref fW)) (he : PE (X.blk s0 H0 scope ce fp) e te) (hst : starEach [e] ce = (false, eval e ce) :: starEach [] ce := by rfl) :
    PE (X.blk s0 H0 scope ce fp) (.Call (.Name "_law_word" p) [e] [] pos) (fun σ H Q => te σ H fun v H1 => WdIs X k CN CO σ0 v H1 Q) := by
  obtain ⟨pins0, I0, fpo⟩ := B
  refine ⟨fun pins s σ H Q I h => ?_⟩
  refine wpAny_Call_Name_kw (ld_glob I hg hm ?_ (by decide))
  refine PySem.W.callWith_K (h₀ := X.base) I.ok.mod.kin F.kp (thn ((pa_cons (X := X.blk s0 H0 scope ce fp) he pa_nil hst).run pos pins s σ H (oneV fun v H1 => WdIs X k CN CO σ0 v H1 Q) I h) fun us s1 ⟨vs, H1, I1, r, q⟩ => ⟨I1.kIn, ?_⟩) hst rfl
  obtain ⟨v, u, rfl, rv, hw⟩ := oneV_of q r
  have back : Inv X pins0 σ0 H1 s1 := I0.call' (ch := fp) I1.os I1.base I1.hok I1.bare fun b hb => ⟨(fpo b hb).2.2.2.1, (fpo b hb).2.1, (fpo b hb).2.2.2.2.1, (fpo b hb).2.2.2.2.2⟩
  obtain ⟨f, rfl, run⟩ := word_at F bW R hr pc back hw
  obtain rfl : u = Value.ref f := rv
  refine wpAny_call (codeAny_mono run fun r s' res => ?_)
  match r, res with
  | .ok (.ret u), res => exact I1.after res
theorem pe_wordBs {scope : Scope} (F : Fun X.K "_law_word" "_law_word" sLawWord fW fd) (bW : Binds X.K fd ["_law_work"] []) (R : RefW X.K X.mg CL CO CN c1 c2 c3 c4 c5) (hr : Room (k + 1) X.A) (pc : PlainCx X) (hm : X.mg "_law_word" = some (.ref fW))
    (hg : ∀ (s0 : Shared) (H0 : Hp) (C0 : Addr) (cl0 : List (Str × Addr)) (fp : List Addr), Gl (X.blk s0 H0 scope (compEnvC scope cl0 C0 X.env) fp) "_law_word") (he : ∀ (s0 : Shared) (H0 : Hp) (C0 : Addr) (cl0 : List (Str × Addr)) (fp : List Addr), PE (X.blk s0 H0 scope (compEnvC scope cl0 C0 X.env) fp) e te)
    (hst : ∀ ce : Env, starEach [e] ce = (false, eval e ce) :: starEach [] ce) (σ0 : L2.St) (s0 : Shared) (H0 : Hp) (C0 : Addr) (cl0 : List (Str × Addr)) (fp : List Addr) (B : BlkFrom X σ0 s0 H0 fp) :
    PE (X.blk s0 H0 scope (compEnvC scope cl0 C0 X.env) fp) (.Call (.Name "_law_word" p) [e] [] pos) (fun σ H Q => te σ H fun v H1 => WdIs X k CN CO σ0 v H1 Q) := pe_wordB B F bW R hr pc (hg _ _ _ _ _) hm (he _ _ _ _ _) (hst _)
end
section
variable {P : Program} {w : World} {K : PySem.W.Frag} {mg : Str → Option Value} {base : Heap} {C : Addr}
/-! ### by_ends, of what is no order -/
def spBeX (C CN : Addr) : Sp := fun vs H _ E => ∃ (x l m : Addr) (many : Nat) (ms : List Mv) (o : List Int), vs = [.ref x, .ref l, .ref m] ∧ ChainAt C H x many ms ∧ Good many ms ∧ H l = some (.lst (o.map V.int)) ∧ NoOrd many o ∧ ∀ H', Same H H' → E (.ref CN) none H'
theorem ok_beX {f fB CN : Addr} {fd fdB : FuncData} (F : Fun K "by_ends" "by_ends" sByEnds f fd) (DB : Df K mg "_first_breaking" sFirstBreaking ["chain", "order"] fB fdB) (GB : FnOk P w K mg base (L2.CX P w) 2 fB fdB ["chain", "order"] (spFbX C CN)) : FnOk P w K mg base (L2.CX P w) 4 f fd ["chain", "order", "numbers"] (spBeX C CN) := by
  refine F.okX scBe (fun vs H Q E h => ?_) (fun cdv A outer s H vs Q E hr h => ?_)
  · obtain ⟨x, l, m, many, ms, o, rfl, _⟩ := h
    rfl
  · obtain ⟨x, l, m, many, ms, o, rfl, hC, G, hl, no, q⟩ := h
    refine ⟨_, pss_cons (ps_set (i := 3) scBe.nd rfl (.inl rfl) (pe_call GB (hr.mono (by decide)) (by rfl) DB.g DB.F.kp DB.b .nil (passes_call (takes_of rfl rfl rfl rfl) (fun _ _ _ _ h => h)) (pa_cons (pv 0) (pa_cons (pv 1) pa_nil)))) pss_never, ?_⟩
    exact ⟨.ref x, rfl, .ref l, rfl, x, l, many, ms, o, rfl, hC, G, hl, no, q⟩
/-! ### _law_far -/
theorem scFr : FnScope ["_law_d", "_law_most", "_law_far_here"] ["_law_d", "_law_most"] (defScope sLawFar) := ⟨rfl, rfl, rfl, by decide +kernel, rfl, by decide +kernel, by decide +kernel⟩
def spFr (K : PySem.W.Frag) : Sp := fun vs H Q _ => ∃ (d l : Addr) (ns : List Int) (most : Int), vs = [.ref d, .int most] ∧ Dc K l ns H d ∧ 0 ≤ most ∧ most ≤ 100 ∧ ∀ (r : Int) H', (r < 0 ∨ most ≤ r) → r.natAbs ≤ 1100000 → Dc K l ns H' d → Gr d H H' → Q (.int r) H'
theorem ok_far {f fc fd' fo : Addr} {fd fdc fdd fdo : FuncData} (F : Fun K "_law_far" "_law_far" sLawFar f fd) (T : LawTxt K mg fc fd' fo fdc fdd fdo) : FnOk P w K mg base CX0 3 f fd ["_law_d", "_law_most"] (spFr K) := by
  have GO : FnOk P w K mg base CX0 2 fo fdo ["_law_d", "_law_most"] (spOff K) := T.off
  refine F.ok scFr (fun vs H Q E h => ?_) (fun cdv A outer s H vs Q E hr h => ?_)
  · obtain ⟨d, l, ns, most, rfl, _⟩ := h
    rfl
  · obtain ⟨d, l, ns, most, rfl, hD, m0, m1, q⟩ := h
    refine ⟨_, (pss_cons (ps_set (i := 2) scFr.nd rfl (.inl rfl) (pe_call GO hr (by rfl) T.gO T.FO.kp T.bO .nil pass0 (pa_cons (pv 0) (pa_cons (pe_op op_pow pe_int pe_int) pa_nil))))
      (pss_one (ps_ret (pe_ix ix_list (pe_lst (pa_cons (pv 1) (pa_cons (pe_op op_sub pe_int pe_int) (pa_cons (pe_op op_add (pv 1) (pv 2)) (pa_cons (pe_op op_sub (pe_op op_sub pe_int pe_int) (pv 2)) pa_nil))))) (pe_call GO hr (by rfl) T.gO T.FO.kp T.bO .nil pass0 (pa_cons (pv 0) (pa_cons pe_int pa_nil))) (fun _ _ => rfl))))), ?_⟩
    refine ⟨.ref d, rfl, 10, 6, rfl, rfl, ⟨by decide, by decide, by decide⟩, d, l, ns, _, rfl, hD, by decide, by decide, fun r H1 hr1 hD1 o1 => ?_⟩
    have hr1 : (r : Int) < 1000000 := hr1
    refine ⟨.int most, rfl, 0, 1, rfl, rfl, .int most, rfl, .int (r : Int), rfl, _, _, rfl, rfl, 0, 1, rfl, rfl, .int (r : Int), rfl, _, _, rfl, rfl, (by show 4 ≤ sizeLine; decide), fun L nL => ?_⟩
    have nLd : L ≠ d := hD1.ne nL
    have hD2 := hD1.new (o := .lst [.int most, .int (0 - 1), .int (most + (r : Int)), .int (0 - 1 - (r : Int))]) nL
    have g2 := ((Gr.refl d H).off o1).new (o := .lst [.int most, .int (0 - 1), .int (most + (r : Int)), .int (0 - 1 - (r : Int))]) nL
    have hL2 : (upd H1 L (.lst [.int most, .int (0 - 1), .int (most + (r : Int)), .int (0 - 1 - (r : Int))])) L = some (.lst [.int most, .int (0 - 1), .int (most + (r : Int)), .int (0 - 1 - (r : Int))]) := upd_same
    generalize upd H1 L (.lst [.int most, .int (0 - 1), .int (most + (r : Int)), .int (0 - 1 - (r : Int))]) = H2 at hD2 g2 hL2 ⊢
    refine ⟨.ref d, rfl, d, l, ns, _, rfl, hD2, by decide, by decide, fun k H3 hk hD3 o3 => ?_⟩
    have hL3 : H3 L = some (.lst [.int most, .int (0 - 1), .int (most + (r : Int)), .int (0 - 1 - (r : Int))]) := by rw [o3 _ nLd]; exact hL2
    obtain ⟨z, ez, z1, z2⟩ : ∃ z : Int, ([.int most, .int (0 - 1), .int (most + (r : Int)), .int (0 - 1 - (r : Int))] : List V)[k]? = some (.int z) ∧ (z < 0 ∨ most ≤ z) ∧ z.natAbs ≤ 1100000 := by
      have h4 : k < 4 := by omega
      match k, h4 with
      | 0, _ => exact ⟨most, rfl, .inr (Int.le_refl _), by omega⟩
      | 1, _ => exact ⟨0 - 1, rfl, .inl (by decide), by decide⟩
      | 2, _ => exact ⟨most + (r : Int), rfl, .inr (by omega), by omega⟩
      | 3, _ => exact ⟨0 - 1 - (r : Int), rfl, .inl (by omega), by omega⟩
    exact ⟨L, _, _, _, rfl, rfl, SqL.of hL3, atI_nat ez, q z H3 z1 z2 hD3 (g2.off o3)⟩
/-! ### _law_first_unkept -/
theorem scUk : FnScope ["_law_moves", "_law_order", "_law_number", "_law_ends", "_law_place"] ["_law_moves", "_law_order"] (defScope sLawFirstUnkept) := ⟨rfl, rfl, rfl, by decide +kernel, rfl, by decide +kernel, by decide +kernel⟩
def spUk : Sp := fun vs H Q _ => ∃ (m l : Addr) (many : Nat) (ws : List V) (ms : List Mv) (o : List Int), vs = [.ref m, .ref l] ∧ H m = some (.lst ws) ∧ MovesAt H ws ms ∧ Good many ms ∧ H l = some (.lst (o.map V.int)) ∧ isOrd many o ∧ ∀ H', Same H H' → Q (fbV ms o) H'
theorem ok_unkept {k : Nat} {f : Addr} {fd : FuncData} (F : Fun K "_law_first_unkept" "_law_first_unkept" sLawFirstUnkept f fd) (ml : mg "len" = none) (mr : mg "range" = none) (ms' : mg "sorted" = none) : FnOk P w K mg base CX0 (k + 1) f fd ["_law_moves", "_law_order"] spUk := by
  refine F.ok scUk (fun vs H Q E h => ?_) (fun cdv A outer s H vs Q E hr h => ?_)
  · obtain ⟨m, l, many, ws, ms, o, rfl, _⟩ := h
    rfl
  · obtain ⟨m, l, many, ws, ms, o, rfl, hm, hM, G, hl, ho, q⟩ := h
    have hu := hu64 hr
    refine ⟨_, (pss_cons (ps_for PassesOwn.never rfl (pi_range1 (by rfl) mr (pa_cons (pe_callB call_len_seq (by rfl) ml PySem.boot_len (pa_cons (pv 0) pa_nil)) pa_nil)) (pg_name (i := 2) scUk.nd rfl (.inr rfl)) (pss_cons (ps_setLc (i := 3) (own := [("_law_place", 4)]) (g := gName 4) (tt := tYes) (te := (tBM K "list" (rIndex K) (tVar 1) (tCons (tOp (rIxT K) (tOp (rIxT K) (tOp (rIxL K) (tVar 0) (tVar 2)) (tC (.int 1))) (tVar 4)) tNil))) rfl scUk.nd rfl rfl (sw_true rfl rfl rfl (by decide +kernel)) (pi_list (pv 1)) (blkOk_by (N := ["_law_moves", "_law_order", "_law_number", "_law_ends", "_law_place"]) (sc := defScope sLawFirstUnkept) (by decide +kernel)) (fun _ _ _ _ _ => by exact (pg_name (i := 4) scUk.nd rfl (.inl rfl))) (fun _ _ _ _ _ => pts_nil) (fun _ _ _ _ _ => by exact (pe_bm PySem.F.plainAttrs_list PySem.F.slot_list_index PySem.F.type_list_index mt_index (pv 1) (pa_cons (pe_ix ix_tup (pe_ix ix_tup (pe_ix ix_list (pv 0) (pv 2) (fun _ _ => rfl)) pe_int (fun _ _ => rfl)) (pv 4) (fun _ _ => rfl)) pa_nil))))
      (pss_one (ps_if (pt_cmpR (op_neD hu) (pv 3) (pe_callB cr_sorted (by rfl) ms' (by decide +kernel) (pa_cons (pv 3) pa_nil)) (nomark _)) (pss_one (ps_ret (pv 2))) pss_nil))))
      (pss_one (ps_ret pe_non))), ?_⟩
    have m6 := G.m6
    have l8 := G.l8
    have lo := ho.len
    have lw := hM.length
    refine ⟨.ref m, rfl, m, ws, rfl, .inl (SqL.of hm), _, rfl, by omega, by omega, ?_⟩
    refine for_range (lo := 0) (n := ((ws.length : Nat) : Int).toNat) (fun i σ H' => ∃ y2 y3, σ = [some (.ref m), some (.ref l), y2, y3, none] ∧ Same H H' ∧ ∀ j mv, j < i → ms[j]? = some mv → keepsR mv.2 o = true) ⟨none, none, rfl, Same.refl _, fun j mv hj => absurd hj (Nat.not_lt_zero _)⟩ ?_ ?_
    · rintro i σ H1 hi ⟨y2, y3, rfl, s1, bef⟩
      rw [Int.toNat_natCast, lw] at hi
      obtain ⟨mv, emv⟩ : ∃ mv, ms[i]? = some mv := ⟨_, List.getElem?_eq_getElem hi⟩
      obtain ⟨v, ev, ta, tb, rfl, hta, htb⟩ := hM.get emv
      have gm := G.mv mv (List.mem_of_getElem? emv)
      refine ⟨.ref l, rfl, l, rfl, ⟨_, SqL.of (s1 _ _ hl)⟩, fun D nD => ?_⟩
      refine lc_list (K := K) (a := l) (xs := o.map V.int) (fun j H' => Same H1 H' ∧ H' D = some (.lst (((standsO mv.2 o).take j).map V.int))) ⟨same_new nD, by rw [List.take_zero]; exact upd_same⟩ (fun j H' _ h => SqL.of (h.1 _ _ (s1 _ _ hl))) ?_ ?_
      · rintro j v σ2 hv ⟨s2, hD⟩
        rw [List.getElem?_map] at hv
        obtain ⟨p, hp, rfl⟩ := Option.map_eq_some_iff.mp hv
        have hpo := List.mem_of_getElem? hp
        obtain ⟨p0, p1⟩ := ho.mem.mp hpo
        have hg := goK_ord gm.2.2 ho hpo
        have s12 := s1.trans s2
        refine ⟨rfl, .ref l, rfl, .inl ⟨rfl, _, SqL.of (s12 _ _ hl)⟩, .ref m, rfl, .int (0 + (i : Int)), rfl, m, _, _, _, rfl, rfl, SqL.of (s12 _ _ hm), at_of (show 0 + (i : Int) = ((i : Nat) : Int) by omega) ev, ta, _, 1, _, rfl, rfl, SqT.of (s12 _ _ hta), atI_nat (j := 1) rfl, .int p, rfl, tb, _, p, _, rfl, rfl, SqT.of (s12 _ _ htb), at_of (show p = ((p.toNat : Nat) : Int) by omega) (at_goK p0 (by rw [gm.2.2.1]; omega)), ?_⟩
        refine ⟨l, _, .int (goK mv.2 p), o.idxOf (goK mv.2 p), _, rfl, rfl, SqL.of (s12 _ _ hl), rfl, flat_ints o, ix_at hg, beq_self_eq_true _, fun m z hm e => ix_before hm e, ?_⟩
        refine ⟨_, hD, by rw [List.length_map, List.length_take]; exact small8 (Nat.le_trans (Nat.min_le_right _ _) (by unfold standsO; rw [List.length_map]; omega)), fun b u e => by rw [upd_ne (ne_of_none e nD)]; exact s2 _ _ e, ?_⟩
        have e1 : (standsO mv.2 o)[j]? = some (rankO o (goK mv.2 p)) := by
          unfold standsO
          rw [List.getElem?_map, hp]
          rfl
        rw [upd_same, take_snoc e1, List.map_append]
        rfl
      · rintro H2 ⟨s2, hD⟩
        rw [List.length_map, List.take_of_length_le (by unfold standsO; rw [List.length_map]; exact Nat.le_refl _)] at hD
        refine ⟨.ref D, rfl, .ref D, rfl, D, _, rfl, SqL.of hD, by unfold standsO; rw [List.length_map]; omega, fun zs L hp hs nL => ?_⟩
        have s3 := same_new (o := .lst (zs.map V.int)) nL
        have s13 := (s1.trans s2).trans s3
        refine ⟨_, _, dp_lst (s3 _ _ hD), dp_lst upd_same, (Sh.lst _).shaped (by decide), (Sh.lst _).shaped (by decide), ?_⟩
        rw [eqv_lst]
        have e : decide (standsO mv.2 o = zs) = keepsR mv.2 o := by
          unfold keepsR
          refine decide_eq_decide.mpr ⟨fun e => ?_, fun h => ?_⟩
          · rw [e]
            exact hs
          · exact sort_same hp.symm h hs
        rw [e]
        cases hk : keepsR mv.2 o with
        | true =>
          refine ⟨false, rfl, iteF ⟨_, _, rfl, s13, fun j mv' hj e => ?_⟩⟩
          by_cases c : j < i
          · exact bef j mv' c e
          · have ej : j = i := by omega
            rw [ej, emv] at e
            cases e
            exact hk
        | false =>
          refine ⟨true, rfl, iteT ⟨_, rfl, ?_⟩⟩
          have e2 : fbV ms o = .int (0 + (i : Int)) := by
            unfold fbV fbN
            rw [findIdx_at (i := i) emv (by rw [hk]; rfl) fun j y hj ey => by rw [bef j y hj ey]; rfl, Int.zero_add]
          rw [← e2]
          exact q _ s13
    · rintro σ H1 ⟨y2, y3, rfl, s1, bef⟩
      rw [Int.toNat_natCast, lw] at bef
      have e2 : fbV ms o = .non := by
        unfold fbV
        rw [fbN_none.mpr fun mv hmv => by
          obtain ⟨j, hj, e⟩ := List.getElem_of_mem hmv
          exact bef j mv hj (by rw [← e]; exact List.getElem?_eq_getElem hj)]
      rw [← e2]
      exact q _ s1
end
section
/-! ### the mathematics: what is none -/
theorem bad_nos {ms : List Mv} {zs : List Int} {at' : Nat} {r : Int} (l40 : zs.length ≤ 40) (l8 : ms.length ≤ 8) (hz : ∀ z ∈ zs, 0 ≤ z ∧ z < (ms.length : Int)) (hr : r < 0 ∨ (ms.length : Int) ≤ r) (hs : r.natAbs ≤ 1100000) : BadNos ms (zs.take at' ++ [r] ++ zs.drop at') := by
  have mem : ∀ n ∈ zs.take at' ++ [r] ++ zs.drop at', n ∈ zs ∨ n = r := fun n hn => by
    rcases List.mem_append.mp hn with z | z
    · rcases List.mem_append.mp z with y | y
      · exact .inl (List.mem_of_mem_take y)
      · exact .inr (List.mem_singleton.mp y)
    · exact .inl (List.mem_of_mem_drop z)
  refine ⟨?_, fun n hn => log_small ?_, r, by simp, fun h => ?_⟩
  · rw [List.length_append, List.length_append, List.length_take, List.length_drop]
    show min at' zs.length + 1 + (zs.length - at') ≤ 1000
    omega
  · rcases mem n hn with z | z
    · have := hz n z
      omega
    · rw [z]
      omega
  · omega
theorem isOrd.nodup' {many : Nat} {o : List Int} (h : isOrd many o) : o.Nodup := h.nodup_iff.mpr (List.Pairwise.imp (fun {a b} (h : a < b) => (by omega : a ≠ b)) (ids_pair many))
theorem ord_small {many : Nat} {o : List Int} (m6 : many ≤ 6) (h : isOrd many o) : ∀ n ∈ o, n.natAbs ≤ 2000000 := fun n hn => by
  have := h.mem.mp hn
  omega
theorem odd0 {many : Nat} {o : List Int} (m1 : 1 ≤ many) (m6 : many ≤ 6) (h : isOrd many o) : NoOrd many (o.take (many - 1)) := ⟨fun z => by
  have h1 := z.len
  have h2 := h.len
  rw [List.length_take] at h1
  omega, by rw [List.length_take]; have := h.len; omega, fun n hn => ord_small m6 h n (List.mem_of_mem_take hn)⟩
theorem odd1 {many : Nat} {o : List Int} (m1 : 1 ≤ many) (m6 : many ≤ 6) (h : isOrd many o) : NoOrd many (o ++ o.take 1) := ⟨fun z => by
  have h1 := z.len
  have h2 := h.len
  rw [List.length_append, List.length_take] at h1
  omega, by rw [List.length_append, List.length_take]; have := h.len; omega, fun n hn => by
  rcases List.mem_append.mp hn with z | z
  · exact ord_small m6 h n z
  · exact ord_small m6 h n (List.mem_of_mem_take z)⟩
theorem odd2 {many : Nat} {o : List Int} {r : Int} (m6 : many ≤ 6) (h : isOrd many o) (hr : r < 0 ∨ (many : Int) ≤ r) (hs : r.natAbs ≤ 1100000) : NoOrd many (o.take (many - 1) ++ [r]) := ⟨fun z => by
  have := z.mem.mp (List.mem_append_right (o.take (many - 1)) (List.mem_singleton_self r))
  omega, by rw [List.length_append, List.length_take]; have := h.len; show min (many - 1) o.length + 1 < 64; omega, fun n hn => by
  rcases List.mem_append.mp hn with z | z
  · exact ord_small m6 h n (List.mem_of_mem_take z)
  · rw [List.mem_singleton.mp z]
    omega⟩
theorem odd3 {many : Nat} {o : List Int} (m1 : 1 ≤ many) (m6 : many ≤ 6) (h : isOrd many o) : NoOrd many (o.drop 1 ++ (o.drop 1).take 1) := by
  refine ⟨fun z => ?_, by rw [List.length_append, List.length_take, List.length_drop]; have := h.len; omega, fun n hn => ?_⟩
  · match o, h, z with
    | [], h, z =>
      have := h.len
      simp at this
      omega
    | [a], h, z =>
      have h1 := h.len
      have h2 := z.len
      simp at h1 h2
      omega
    | a :: b :: r, h, z =>
      have h3 := z.nodup'
      have : (b :: r ++ [b]).Nodup := h3
      rw [List.cons_append, List.nodup_cons] at this
      exact this.1 (List.mem_append_right _ (List.mem_singleton_self b))
  · rcases List.mem_append.mp hn with z | z
    · exact ord_small m6 h n (List.mem_of_mem_drop z)
    · exact ord_small m6 h n (List.mem_of_mem_drop (List.mem_of_mem_take z))
theorem eraseI_perm : ∀ {l : List Int} {k : Nat} {x : Int}, l[k]? = some x → (l.eraseIdx k ++ [x]).Perm l
  | a :: l, 0, x, h => by
    simp at h
    subst h
    exact List.perm_append_comm
  | a :: l, k + 1, x, h => (eraseI_perm (l := l) (k := k) (x := x) (by simpa using h)).cons a
  | [], k, x, h => by simp at h
theorem eraseI_map : ∀ (l : List Int) (x : Nat), (l.map V.int).eraseIdx x = (l.eraseIdx x).map V.int
  | [], _ => rfl
  | _ :: _, 0 => rfl
  | a :: l, x + 1 => by
    show V.int a :: (l.map V.int).eraseIdx x = V.int a :: (l.eraseIdx x).map V.int
    rw [eraseI_map l x]
theorem cutI_from (xs : List Int) (r : Nat) : cutV (xs.map V.int) (some (r : Int)) none = (xs.drop r).map V.int := by
  unfold cutV
  rw [HT.sIx_nat, HT.sIx_none, List.length_map]
  by_cases c : r ≤ xs.length
  · rw [Nat.min_eq_left c, List.take_of_length_le (by rw [List.length_drop, List.length_map]; exact Nat.le_refl _), List.map_drop]
  · rw [List.drop_eq_nil_of_le (show (xs.map V.int).length ≤ min r xs.length by rw [List.length_map]; omega), List.drop_eq_nil_of_le (show xs.length ≤ r by omega)]
    exact List.take_nil
theorem cutI_to (xs : List Int) (r : Nat) : cutV (xs.map V.int) none (some (r : Int)) = (xs.take r).map V.int := by
  unfold cutV
  rw [HT.sIx_nat, HT.sIx_none, List.drop_zero, Nat.sub_zero, List.length_map]
  by_cases c : r ≤ xs.length
  · rw [Nat.min_eq_left c, List.map_take]
  · rw [List.take_of_length_le (show (xs.map V.int).length ≤ min r xs.length by rw [List.length_map]; omega), List.take_of_length_le (show xs.length ≤ r by omega)]
theorem cutI_last (xs : List Int) : cutV (xs.map V.int) none (some (-1)) = (xs.take (xs.length - 1)).map V.int := by
  unfold cutV
  rw [HT.sIx_none, List.drop_zero, Nat.sub_zero, List.map_take, List.length_map]
  congr 1
  have e : HT.sIx xs.length xs.length (some (-1)) = if (-1 : Int) < 0 then ((-1 : Int) + (xs.length : Int)).toNat else min (-1 : Int).toNat xs.length := rfl
  rw [e, if_pos (by decide)]
  omega
theorem cutI_mid (xs : List Int) : cutV (xs.map V.int) (some 1) (some 2) = ((xs.drop 1).take 1).map V.int := by
  unfold cutV
  rw [show (some (1 : Int)) = some ((1 : Nat) : Int) from rfl, show (some (2 : Int)) = some ((2 : Nat) : Int) from rfl, HT.sIx_nat, HT.sIx_nat, List.length_map]
  match xs with
  | [] => rfl
  | [a] => rfl
  | a :: b :: r =>
    have h1 : min 1 (a :: b :: r).length = 1 := by simp
    have h2 : min 2 (a :: b :: r).length = 2 := by simp
    rw [h1, h2]
    rfl
end
section
variable {P : Program} {w : World} {K : PySem.W.Frag} {mg : Str → Option Value} {base : Heap} {C : Addr}
/-! ### what stands while the works are asked -/
theorem FnOk.up {k : Nat} {f : Addr} {fd : FuncData} {ps : List Str} {sp : Sp} (F : FnOk P w K mg base CX0 k f fd ps sp) : FnOk P w K mg base (L2.CX P w) k f fd ps sp :=
  ⟨F.len, fun A outer s H args us vs Q E hr e b v h => codeAny_mono (F.run A outer s H args us vs Q E hr e b v h) fun r s' res => match r, res with
    | .ok (.ret _), res => res⟩
def spBe1 (C CO CN : Addr) : Sp := fun vs H Q E => spBeO C CO vs H Q E ∨ spBeN C CN vs H Q E
def spBe2 (C CO : Addr) : Sp := fun vs H Q E => spBeO C CO vs H Q E ∨ spBe C vs H Q E
def spLaw3 (K : PySem.W.Frag) (T1 T2 : Addr) : Sp := fun vs H Q _ => ∃ (a : Addr) (ns : List Int), vs = [.ref a] ∧ SqL K H a (ns.map V.int) ∧ ns.length ≤ 63 ∧ GxR.TabG H T1 ∧ H T2 = some (.tbl #[]) ∧ ∀ H', Q (.bl true) H'
theorem tabS_G {H : Hp} {T : Addr} {q : Str} (h : LamX.TabS H T q) : GxR.TabG H T := by
  obtain ⟨ps, h1, h2, _⟩ := h
  exact ⟨ps, h1, h2⟩
/-- the table of the running def stands when another thing is written -/
theorem tabS_put {H H' : Hp} {T d : Addr} {q : Str} (h : LamX.TabS H T q) (nd : ∀ b φ, H b = some (.ext φ) → b ≠ d) (nT : T ≠ d) (g : Gr d H H') : LamX.TabS H' T q := by
  obtain ⟨ps, h1, h2, h3⟩ := h
  refine ⟨ps, g _ _ nT h1, h2, fun pos cv hc => ?_⟩
  obtain ⟨c, e1, e2⟩ := h3 pos cv hc
  exact ⟨c, e1, g _ _ (nd _ _ e2) e2⟩
theorem tabS_dc {H H' : Hp} {T d l : Addr} {ns : List Int} {q : Str} (hD : Dc K l ns H d) (h : LamX.TabS H T q) (g : Gr d H H') : LamX.TabS H' T q := by
  obtain ⟨ps, h1, _⟩ := id h
  exact tabS_put h (fun b φ e => hD.ne_of e fun _ _ _ _ z => nomatch z) (hD.ne_of h1 fun _ _ _ _ z => nomatch z) g
theorem tabS_tab {H H' : Hp} {T T2 : Addr} {q : Str} (hT : GxR.TabG H T2) (ne : T ≠ T2) (h : LamX.TabS H T q) (g : Gr T2 H H') : LamX.TabS H' T q := by
  obtain ⟨ps, e, _⟩ := hT
  exact tabS_put h (fun b φ e2 z => by rw [z, e] at e2; cases e2) ne g
theorem ChainAt.tab {T x : Addr} {H H' : Hp} {many : Nat} {ms : List Mv} (hT : GxR.TabG H T) (g : Gr T H H') (h : ChainAt C H x many ms) : ChainAt C H' x many ms := by
  obtain ⟨dx, a0, ws0, h1, h2, h3⟩ := h
  exact ⟨dx, a0, ws0, g.tab hT (fun _ z => nomatch z) h1, g.tab hT (fun _ z => nomatch z) h2, h3.same fun b xs e => g.tab hT (fun _ z => nomatch z) e⟩
/-- all that the works read -/
structure Kit (K : PySem.W.Frag) (C l d tL tM : Addr) (q : Str) (ns : List Int) (H : Hp) (x m ln lb lo lod lh h0 h1 : Addr) (many : Nat) (ws : List V) (ms : List Mv) (nus bas ors ods : List Int) : Prop where
  dc : Dc K l ns H d
  tabL : LamX.TabS H tL q
  tabM : GxR.TabG H tM
  ch : ChainAt C H x many ms
  mv : H m = some (.lst ws)
  mvs : MovesAt H ws ms
  num : H ln = some (.lst (nus.map V.int))
  bad : H lb = some (.lst (bas.map V.int))
  ord : H lo = some (.lst (ors.map V.int))
  odd : H lod = some (.lst (ods.map V.int))
  hd : H lh = some (.lst [.ref h0, .ref h1])
  hd0 : H h0 = some (.lst (bas.map V.int))
  hd1 : H h1 = some (.lst (ors.map V.int))
variable {l d tL tM x m ln lb lo lod lh h0 h1 : Addr} {q : Str} {ns nus bas ors ods : List Int} {H H' : Hp} {many : Nat} {ws : List V} {ms : List Mv}
theorem Kit.same (s : Same H H') (k : Kit K C l d tL tM q ns H x m ln lb lo lod lh h0 h1 many ws ms nus bas ors ods) : Kit K C l d tL tM q ns H' x m ln lb lo lod lh h0 h1 many ws ms nus bas ors ods :=
  ⟨k.dc.same s, k.tabL.ext s, tab_same s k.tabM, k.ch.same s, s _ _ k.mv, k.mvs.same (Same.tups s), s _ _ k.num, s _ _ k.bad, s _ _ k.ord, s _ _ k.odd, s _ _ k.hd, s _ _ k.hd0, s _ _ k.hd1⟩
theorem Kit.lam (ne : tM ≠ tL) (g : Gr tL H H') (T : LamX.TabS H' tL q) (k : Kit K C l d tL tM q ns H x m ln lb lo lod lh h0 h1 many ws ms nus bas ors ods) : Kit K C l d tL tM q ns H' x m ln lb lo lod lh h0 h1 many ws ms nus bas ors ods := by
  have hT := tabS_G k.tabL
  have nt : ∀ {xs : List V} (qs : Array Value), HO.lst xs ≠ .tbl qs := fun qs z => nomatch z
  obtain ⟨ps, e1, e2⟩ := k.tabM
  exact ⟨k.dc.tabT hT g, T, ⟨ps, g _ _ ne e1, e2⟩, k.ch.tab hT g, g.tab hT nt k.mv, k.mvs.same fun b xs e => g.tab hT (fun _ z => nomatch z) e, g.tab hT nt k.num, g.tab hT nt k.bad, g.tab hT nt k.ord, g.tab hT nt k.odd, g.tab hT nt k.hd, g.tab hT nt k.hd0, g.tab hT nt k.hd1⟩
theorem LamAt.gr {T f : Addr} {F : LF} (hT : GxR.TabG H T) (g : Gr T H H') (h : LamAt H f F) : LamAt H' f F := h.mono fun b φ e => g.tab hT (fun _ z => nomatch z) e
/-- a work whose word is a -/
def WordS (X : Cx) (k : Nat) (CN CO : Addr) (σ : L2.St) (a : V) (H : Hp) (v : V) : Prop := ∀ H' Q, Same H H' → (∀ H'', Same H' H'' → Q a H'') → WdIs X k CN CO σ v H' Q
theorem WordS.same {X : Cx} {k : Nat} {CN CO : Addr} {σ : L2.St} {a v : V} (s : Same H H') (h : WordS X k CN CO σ a H v) : WordS X k CN CO σ a H' v := fun H2 Q s2 => h H2 Q (s.trans s2)
end
section
variable {K : PySem.W.Frag} {C d l : Addr} {ns : List Int} {H H' : Hp}
theorem Dc.neI (hD : Dc K l ns H d) {p : Addr} {zs : List Int} (h : H p = Option.some (.lst (zs.map V.int))) : p ≠ d := hD.ne_of h fun _ _ _ _ z => by
  injection z with z
  exact map_int_dl z
theorem Dc.neM (hD : Dc K l ns H d) {p : Addr} {ws : List V} {ms : List Mv} (h : H p = Option.some (.lst ws)) (hM : MovesAt H ws ms) (l1 : 1 ≤ ms.length) : p ≠ d := hD.ne_of h fun s0 l' k big z => by
  injection z with z
  obtain ⟨mv, em⟩ : ∃ mv, ms[0]? = Option.some mv := ⟨_, List.getElem?_eq_getElem (by omega)⟩
  obtain ⟨v, ev, ta, tb, rfl, _⟩ := hM.get em
  rw [z] at ev
  cases ev
theorem ChainAt.dc {x : Addr} {many : Nat} {ms : List Mv} (hD : Dc K l ns H d) (g : Gr d H H') (l1 : 1 ≤ ms.length) (h : ChainAt C H x many ms) : ChainAt C H' x many ms := by
  obtain ⟨dx, a0, ws0, h1, h2, h3⟩ := h
  exact ⟨dx, a0, ws0, g _ _ (hD.ne_of h1 fun _ _ _ _ z => nomatch z) h1, g _ _ (hD.neM h2 h3 l1) h2, h3.same (g.tups hD)⟩
end
section
variable {K : PySem.W.Frag} {C : Addr} {H H' : Hp}
/-- lambdas that are kept -/
def Lams (H : Hp) (ps : List (Addr × LF)) : Prop := ∀ p ∈ ps, LamAt H p.1 p.2
theorem Lams.nil : Lams H [] := fun _ h => nomatch h
theorem Lams.cons {f : Addr} {F : LF} {ps : List (Addr × LF)} (h : LamAt H f F) (t : Lams H ps) : Lams H ((f, F) :: ps) := fun p hp => by
  rcases List.mem_cons.mp hp with e | hp
  · rw [e]
    exact h
  · exact t p hp
theorem Lams.same {ps : List (Addr × LF)} (s : Same H H') (h : Lams H ps) : Lams H' ps := fun p hp => (h p hp).mono fun b φ e => s b _ e
theorem Lams.gr {T : Addr} {ps : List (Addr × LF)} (hT : GxR.TabG H T) (g : Gr T H H') (h : Lams H ps) : Lams H' ps := fun p hp => LamAt.gr hT g (h p hp)
theorem dp_strs (x : Str) : ∀ n : Nat, DpAll K H (List.replicate n (V.str x)) (List.replicate n (PyData.str x))
  | 0 => .nil
  | n + 1 => .cons (.str x) (dp_strs x n)
/-- the word of by_ends where a number is none -/
def wordV (ms : List Mv) (o : List Int) : V := match fbN ms o with
  | some k => .int ((k : Nat) : Int)
  | none => .str "such"
end
section
variable {X : Cx} {k : Nat} {CN CO f : Addr} {σ : L2.St} {H : Hp} {F : LF} {js : List Nat} {t : List (Option V) → XK → Hp → VK → Prop}
theorem wd_x (L : LamAt H f F) (W : WorkOk X k js t f F) (h : ∀ (H' : Hp) (Q : VK) (E : XK), Same H H' → (∀ H'', Same H' H'' → E (.ref CN) none H'') → t (js.map (NdefX.slotAt σ)) E H' (fun _ H2 => Q .non H2)) : WordS X k CN CO σ (.str "such") H (.ref f) := fun H' Q s q =>
  ⟨f, F, js, t, rfl, L.mono fun b φ e => s b _ e, W, fun E hE => h H' Q E s fun H'' s2 => hE _ _ _ (.inl ⟨rfl, rfl, fun H3 s3 => q _ (s2.trans s3)⟩)⟩
theorem wd_n (L : LamAt H f F) (W : WorkOk X k js t f F) (h : ∀ (H' : Hp) (Q : VK) (E : XK), Same H H' → (∀ v H'', Same H' H'' → Q v H'') → t (js.map (NdefX.slotAt σ)) E H' Q) : WordS X k CN CO σ .non H (.ref f) := fun H' Q s q =>
  ⟨f, F, js, t, rfl, L.mono fun b φ e => s b _ e, W, fun E hE => h H' (fun _ H'' => Q .non H'') E s fun _ H'' s2 => q _ s2⟩
theorem Sh.str {n : Nat} (x : Str) (h : (PyData.str x).canLay0 = true) : Sh n (.str x) := ⟨h, Nat.zero_le _⟩
theorem sh_strs (n : Nat) : Sh 1 (.list (List.replicate n (PyData.str "such"))) := Sh.list fun d hd => by
  rw [(List.mem_replicate.mp hd).2]
  exact Sh.str _ (by decide +kernel)
end
section
variable {K : PySem.W.Frag} {σ : L2.St} {wl : Addr} {ms : List Mv} {o : List Int} {H : Hp} {Q : VK}
theorem cmp_words (h8 : σ[8]? = some (some (.ref wl))) (h7 : σ[7]? = some (some (fbV ms o))) (hwl : H wl = some (.lst [wordV ms o, fbV ms o])) (q : ∀ H', Same H H' → Q (.bl false) H') :
    tOp (rNeD K) (tVar 8) (tIf (tTest (tOp (fun x y H Q => y = .non ∧ Q (.bl (!decide (x = .non))) H) (tVar 7) (tC .non))) (tOp rRep (tLst (tCons (tVar 7) tNil)) (tC (.int 2))) (tLst (tCons (tC (.str "such")) (tCons (tC .non) tNil)))) σ H Q := by
  refine ⟨.ref wl, h8, _, h7, rfl, _, rfl, ?_⟩
  cases hf : fbN ms o with
  | some k =>
    have e1 : fbV ms o = .int k := by unfold fbV; rw [hf]
    have e2 : wordV ms o = .int k := by unfold wordV; rw [hf]
    rw [e1, e2] at hwl
    rw [e1] at h7 ⊢
    refine iteT ⟨_, h7, (by show 1 ≤ sizeLine; decide), fun q4 nq4 => ⟨q4, 2, _, rfl, rfl, upd_same, by decide, by decide, (by show 1 * 2 ≤ sizeLine; decide), fun q5 nq5 => ?_⟩⟩
    have s5 := (same_new (o := .lst [V.int k]) nq4).trans (same_new (o := .lst (List.replicate (2 : Int).toNat [V.int k]).flatten) nq5)
    exact ne_same (n := 1) (d := .list [.int k, .int k]) (.lst (SqL.of (s5 _ _ hwl)) (.cons (.int _) (.cons (.int _) .nil))) (.lst (SqL.of upd_same) (.cons (.int _) (.cons (.int _) .nil))) (Sh.lst [k, k]) (by decide) (q _ s5)
  | none =>
    have e1 : fbV ms o = .non := by unfold fbV; rw [hf]
    have e2 : wordV ms o = .str "such" := by unfold wordV; rw [hf]
    rw [e1, e2] at hwl
    rw [e1]
    refine iteF ⟨(by show 2 ≤ sizeLine; decide), fun q4 nq4 => ?_⟩
    have s5 := same_new (o := .lst [V.str "such", .non]) nq4
    exact ne_same (n := 1) (d := .list [.str "such", .none]) (.lst (SqL.of (s5 _ _ hwl)) (.cons (.str _) (.cons .non .nil))) (.lst (SqL.of upd_same) (.cons (.str _) (.cons .non .nil))) ⟨by decide +kernel, by decide +kernel⟩ (by decide) (q _ s5)
end
section
variable {P : Program} {w : World} {K : PySem.W.Frag} {mg : Str → Option Value} {base : Heap} {C : Addr}
theorem lt1k {n : Nat} (h : n ≤ 1000) : n < sizeLine := Nat.lt_of_le_of_lt h (by decide)
theorem le1k {n : Nat} (h : n ≤ 1000) : n ≤ sizeLine := Nat.le_trans h (by decide)
theorem scLaw : FnScope ["_law_script", "_law_d", "_law_told", "_law_many", "_law_moves", "_law_k", "_law_works", "_law_first", "_law_words", "_law_at", "_law_bad", "_law_begin", "_law_chain_here", "_law_handed", "_law_numbers_here", "_law_odd", "_law_order", "_law_place", "_law_turn", "_law_work"] ["_law_script"] (defScope sLaw) := ⟨rfl, rfl, rfl, by decide +kernel, rfl, by decide +kernel, by decide +kernel⟩
abbrev lawX (P : Program) (w : World) (K : PySem.W.Frag) (mg : Str → Option Value) (base : Heap) (f cL : Addr) (A : Around) (outer : List Env) (s : Shared) (H : Hp) (E : XK) : Cx := (cxOf CX0 P w K mg base ["_law_script", "_law_d", "_law_told", "_law_many", "_law_moves", "_law_k", "_law_works", "_law_first", "_law_words", "_law_at", "_law_bad", "_law_begin", "_law_chain_here", "_law_handed", "_law_numbers_here", "_law_odd", "_law_order", "_law_place", "_law_turn", "_law_work"] "law" (defScope sLaw) f (.ref cL) A outer s H E).nox
set_option maxHeartbeats 0 in
theorem ok_law {f cL tL tM fc fd' fo fh fm fNu fFr fUk fWd fWa fTo fDr fTr fBe fSh CL CO CN c1 c2 c3 c4 c5 : Addr} {fd fdc fdd fdo fdh fdm fdNu fdFr fdUk fdWd fdWa fdTo fdDr fdTr fdBe fdSh : FuncData} (FL : FunT K "law" "law" sLaw f fd cL) (TBL : LamX.TabB base mg cL tL) (T : LawTxt K mg fc fd' fo fdc fdd fdo)
    (Dh : Df K mg "_law_chain" sChain ["_law_d", "_law_most"] fh fdh) (DM : Df K mg "_law_made" sMade ["_law_told"] fm fdm) (DNu : Df K mg "_law_numbers" sNumbers ["_law_d", "_law_moves", "_law_most"] fNu fdNu) (DFr : Df K mg "_law_far" sLawFar ["_law_d", "_law_most"] fFr fdFr) (DUk : Df K mg "_law_first_unkept" sLawFirstUnkept ["_law_moves", "_law_order"] fUk fdUk) (DWd : Df K mg "_law_word" sLawWord ["_law_work"] fWd fdWd)
    (DWa : Df K mg "walked" sWalked ["chain", "begin", "numbers"] fWa fdWa) (DTo : Df K mg "together" sTogether ["chain", "numbers"] fTo fdTo) (DDr : Df K mg "drawn" sDrawn ["chain", "numbers"] fDr fdDr) (DTr : Df K mg "tries" sTries ["chain", "numbers"] fTr fdTr) (DBe : Df K mg "by_ends" sByEnds ["chain", "order", "numbers"] fBe fdBe) (DSh : Df K mg "shares" sShares ["chain", "far"] fSh fdSh)
    (RW : RefW K mg CL CO CN c1 c2 c3 c4 c5) (GM : FnOk P w K mg base CX0 4 fm fdm ["_law_told"] (spMade C tM)) (GWaX : FnOk P w K mg base (L2.CX P w) 3 fWa fdWa ["chain", "begin", "numbers"] (spWaX C CN)) (GWaP : FnOk P w K mg base (L2.CX P w) 3 fWa fdWa ["chain", "begin", "numbers"] (spWaP C CN)) (GToX : FnOk P w K mg base (L2.CX P w) 3 fTo fdTo ["chain", "numbers"] (spStepsX C CN)) (GDrX : FnOk P w K mg base (L2.CX P w) 4 fDr fdDr ["chain", "numbers"] (spDrX C CN)) (GTrX : FnOk P w K mg base (L2.CX P w) 3 fTr fdTr ["chain", "numbers"] (spStepsX C CN))
    (GBeX : FnOk P w K mg base (L2.CX P w) 4 fBe fdBe ["chain", "order", "numbers"] (spBeX C CN)) (GShX : FnOk P w K mg base (L2.CX P w) 3 fSh fdSh ["chain", "far"] (spShX C CN)) (GBeO : FnOk P w K mg base (L2.CX P w) 4 fBe fdBe ["chain", "order", "numbers"] (spBeO C CO)) (GBeN : FnOk P w K mg base (L2.CX P w) 4 fBe fdBe ["chain", "order", "numbers"] (spBeN C CN)) (GBe : FnOk P w K mg base CX0 4 fBe fdBe ["chain", "order", "numbers"] (spBe C))
    (GWa : FnOk P w K mg base CX0 3 fWa fdWa ["chain", "begin", "numbers"] (spWa C)) (GTo : FnOk P w K mg base CX0 3 fTo fdTo ["chain", "numbers"] (spTo C)) (GDr : FnOk P w K mg base CX0 4 fDr fdDr ["chain", "numbers"] (spDrawn C)) (GTr : FnOk P w K mg base CX0 3 fTr fdTr ["chain", "numbers"] (spTries C)) (mL : mg "list" = none) (ne : tM ≠ tL) : FnOk P w K mg base CX0 7 f fd ["_law_script"] (spLaw3 K tM tL) := by
  have GD' : FnOk P w K mg base CX0 2 fd' fdd ["_law_script", "_law_k"] (spDice K) := T.dice
  have GO : FnOk P w K mg base CX0 2 fo fdo ["_law_d", "_law_most"] (spOff K) := T.off
  have GH : FnOk P w K mg base CX0 3 fh fdh ["_law_d", "_law_most"] (spChain K) := ok_chain Dh.F T
  have GNu : FnOk P w K mg base CX0 3 fNu fdNu ["_law_d", "_law_moves", "_law_most"] (spNu K) := ok_numbers DNu.F T
  have GFr : FnOk P w K mg base CX0 3 fFr fdFr ["_law_d", "_law_most"] (spFr K) := ok_far DFr.F T
  have GUk : FnOk P w K mg base CX0 1 fUk fdUk ["_law_moves", "_law_order"] spUk := ok_unkept DUk.F T.ml T.mr T.ms
  have GBe1 : FnOk P w K mg base (L2.CX P w) 4 fBe fdBe ["chain", "order", "numbers"] (spBe1 C CO CN) := FnOk.or GBeO GBeN
  have GBe2 : FnOk P w K mg base (L2.CX P w) 4 fBe fdBe ["chain", "order", "numbers"] (spBe2 C CO) := FnOk.or GBeO (FnOk.up GBe)
  obtain ⟨oc, od, kV, doc, pm, an, ct, osl, rfl, lk, hcd⟩ := FL.ex
  refine fn_of lk hcd scLaw (fun vs H Q E h => ?_) (fun A outer s H vs Q E hr h => ?_)
  · obtain ⟨a, ns, rfl, _⟩ := h
    rfl
  · obtain ⟨a, ns, rfl, hS, hl, hTM, hTL, q⟩ := h
    have hu := hu64 hr
    have r1 : Room 1 _ := hr.mono (by decide)
    have r2 : Room 2 _ := hr.mono (by decide)
    have r3 : Room 3 _ := hr.mono (by decide)
    have r4 : Room 4 _ := hr.mono (by decide)
    have r6 : Room 6 _ := hr
    suffices go : ∃ t, PSs (lawX P w K mg base f cL A outer s H E) (defBody sLaw) t ∧ t { nx := fun _ H' => Q .non H', rt := Q } (start ["_law_script", "_law_d", "_law_told", "_law_many", "_law_moves", "_law_k", "_law_works", "_law_first", "_law_words", "_law_at", "_law_bad", "_law_begin", "_law_chain_here", "_law_handed", "_law_numbers_here", "_law_odd", "_law_order", "_law_place", "_law_turn", "_law_work"] [.ref a]) H from by
      obtain ⟨t, h1, h2⟩ := go
      exact ⟨t, h1.nox, h2⟩
    refine ⟨_, (pss_cons (ps_set (i := 1) scLaw.nd rfl (.inl rfl) (pe_call GD' r2 (by rfl) T.gD T.FD.kp T.bD .nil pass0 (pa_cons (pv 0) (pa_cons pe_int pa_nil))))
      (pss_cons (ps_for PassesOwn.never rfl (pi_range1 (by rfl) T.mr (pa_cons pe_int pa_nil)) (pg_name (i := 18) scLaw.nd rfl (.inr rfl)) (pss_cons (ps_set (i := 2) scLaw.nd rfl (.inl rfl) (pe_call GH r3 (by rfl) Dh.g Dh.F.kp Dh.b .nil pass0 (pa_cons (pv 1) (pa_cons pe_int pa_nil))))
      (pss_cons (ps_asg (pv 2) (pg_tup rfl (pgs_cons (pg_name (i := 3) scLaw.nd rfl (.inl rfl)) (pgs_cons (pg_name (i := 4) scLaw.nd rfl (.inl rfl)) pgs_nil))))
      (pss_cons (ps_set (i := 12) scLaw.nd rfl (.inr rfl) (pe_call GM r4 (by rfl) DM.g DM.F.kp DM.b .nil pass0 (pa_cons (pv 2) pa_nil)))
      (pss_cons (ps_set (i := 14) scLaw.nd rfl (.inr rfl) (pe_call GNu r3 (by rfl) DNu.g DNu.F.kp DNu.b .nil pass0 (pa_cons (pv 1) (pa_cons (pv 4) (pa_cons pe_int pa_nil)))))
      (pss_cons (ps_set (i := 9) scLaw.nd rfl (.inr rfl) (pe_call GO r2 (by rfl) T.gO T.FO.kp T.bO .nil pass0 (pa_cons (pv 1) (pa_cons (pe_op op_add (pe_callB call_len_seq (by rfl) T.ml PySem.boot_len (pa_cons (pv 14) pa_nil)) pe_int) pa_nil))))
      (pss_cons (ps_set (i := 10) scLaw.nd rfl (.inr rfl) (pe_op op_cat (pe_op op_cat (pe_slice sl_list (pv 14) po_none (po_some (pv 9))) (pe_lst (pa_cons (pe_call GFr r3 (by rfl) DFr.g DFr.F.kp DFr.b .nil pass0 (pa_cons (pv 1) (pa_cons (pe_callB call_len_seq (by rfl) T.ml PySem.boot_len (pa_cons (pv 4) pa_nil)) pa_nil))) pa_nil))) (pe_slice sl_list (pv 14) (po_some (pv 9)) po_none)))
      (pss_cons (ps_set (i := 16) scLaw.nd rfl (.inr rfl) (pe_listRg rfl (by rfl) mL (prg_1 (by rfl) T.mr (pv 3))))
      (pss_cons (ps_for PassesOwn.never rfl (pi_range1 (by rfl) T.mr (pa_cons (pe_call GO r2 (by rfl) T.gO T.FO.kp T.bO .nil pass0 (pa_cons (pv 1) (pa_cons pe_int pa_nil))) pa_nil)) (pg_name (i := 5) scLaw.nd rfl (.inl rfl)) (pss_one (ps_expr (pe_bm PySem.F.plainAttrs_list PySem.F.slot_list_append PySem.F.type_list_append mt_append (pv 16) (pa_cons (pe_bm PySem.F.plainAttrs_list PySem.F.slot_list_pop PySem.F.type_list_pop mt_popAt (pv 16) (pa_cons (pe_call GO r2 (by rfl) T.gO T.FO.kp T.bO .nil pass0 (pa_cons (pv 1) (pa_cons (pv 3) pa_nil))) pa_nil)) pa_nil)))))
      (pss_cons (ps_set (i := 15) scLaw.nd rfl (.inr rfl) (pe_ix ix_list (pe_lst (pa_cons (pe_slice sl_list (pv 16) po_none (po_some (pe_un un_neg pe_int))) (pa_cons (pe_op op_cat (pv 16) (pe_slice sl_list (pv 16) po_none (po_some pe_int))) (pa_cons (pe_op op_cat (pe_slice sl_list (pv 16) po_none (po_some (pe_un un_neg pe_int))) (pe_lst (pa_cons (pe_call GFr r3 (by rfl) DFr.g DFr.F.kp DFr.b .nil pass0 (pa_cons (pv 1) (pa_cons (pv 3) pa_nil))) pa_nil))) (pa_cons (pe_op op_cat (pe_slice sl_list (pv 16) (po_some pe_int) po_none) (pe_slice sl_list (pv 16) (po_some pe_int) (po_some pe_int))) pa_nil))))) (pe_call GO r2 (by rfl) T.gO T.FO.kp T.bO .nil pass0 (pa_cons (pv 1) (pa_cons pe_int pa_nil))) (fun _ _ => rfl)))
      (pss_cons (ps_asg (pe_tup (pa_cons (pe_call GO r2 (by rfl) T.gO T.FO.kp T.bO .nil pass0 (pa_cons (pv 1) (pa_cons (pv 3) pa_nil))) (pa_cons (pe_call GFr r3 (by rfl) DFr.g DFr.F.kp DFr.b .nil pass0 (pa_cons (pv 1) (pa_cons (pv 3) pa_nil))) pa_nil))) (pg_tup rfl (pgs_cons (pg_name (i := 11) scLaw.nd rfl (.inr rfl)) (pgs_cons (pg_name (i := 17) scLaw.nd rfl (.inr rfl)) pgs_nil))))
      (pss_cons (ps_set (i := 13) scLaw.nd rfl (.inr rfl) (pe_lst (pa_cons (pe_callTy call_list_of (by rfl) mL (by decide +kernel) (pa_cons (pv 10) pa_nil)) (pa_cons (pe_callTy call_list_of (by rfl) mL (by decide +kernel) (pa_cons (pv 16) pa_nil)) pa_nil))))
      (pss_cons (ps_set (i := 6) scLaw.nd rfl (.inl rfl) (pe_lst (pa_cons (pe_work0 (k := 4) (js := [12, 11, 13]) (t := fun E => (tCall (spWaX C CN) [] E (tCons (tVar 0) (tCons (tVar 1) (tCons (tOp (rIxL K) (tVar 2) (tC (.int 0))) tNil))))) TBL rfl ["_law_chain_here", "_law_begin", "_law_handed"] (show NdefX.ndefB (defScope sLaw) _ _ = true from by decide +kernel) (by decide +kernel) rfl rfl (fun _ _ _ _ _ _ => rfl) (fun _ _ _ _ _ _ _ _ _ hr => by exact (pe_call GWaX (hr.mono (by decide)) (by rfl) DWa.g DWa.F.kp DWa.b .nil (passes_call (takes_of rfl rfl rfl rfl) (fun _ _ _ _ h => h)) (pa_cons (pv 0) (pa_cons (pv 1) (pa_cons (pe_ix ix_list (pv 2) pe_int (fun _ _ => rfl)) pa_nil)))))) (pa_cons (pe_work1 (k := 4) (a := "_law_a") (js := [12, 17, 14]) (t := fun E => (tCall (spWaP C CN) [] E (tCons (tVar 1) (tCons (tVar 2) (tCons (tVar 3) tNil))))) TBL rfl ["_law_chain_here", "_law_place", "_law_numbers_here"] (show NdefX.ndefB (defScope sLaw) _ _ = true from by decide +kernel) (by decide +kernel) rfl rfl rfl (fun _ _ _ _ _ _ _ _ => ⟨_, rfl, rfl⟩) (fun _ _ _ _ _ _ _ _ _ hr => by exact (pe_call GWaP (hr.mono (by decide)) (by rfl) DWa.g DWa.F.kp DWa.b .nil (passes_call (takes_of rfl rfl rfl rfl) (fun _ _ _ _ h => h)) (pa_cons (pv 1) (pa_cons (pv 2) (pa_cons (pv 3) pa_nil)))))) pa_nil))))
      (pss_cons (ps_set (i := 6) scLaw.nd rfl (.inl rfl) (pe_op op_cat (pv 6) (pe_lst (pa_cons (pe_work1 (k := 4) (a := "_law_b") (js := [12, 17, 10]) (t := fun E => (tCall (spWaX C CN) [] E (tCons (tVar 1) (tCons (tVar 2) (tCons (tVar 3) tNil))))) TBL rfl ["_law_chain_here", "_law_place", "_law_bad"] (show NdefX.ndefB (defScope sLaw) _ _ = true from by decide +kernel) (by decide +kernel) rfl rfl rfl (fun _ _ _ _ _ _ _ _ => ⟨_, rfl, rfl⟩) (fun _ _ _ _ _ _ _ _ _ hr => by exact (pe_call GWaX (hr.mono (by decide)) (by rfl) DWa.g DWa.F.kp DWa.b .nil (passes_call (takes_of rfl rfl rfl rfl) (fun _ _ _ _ h => h)) (pa_cons (pv 1) (pa_cons (pv 2) (pa_cons (pv 3) pa_nil)))))) (pa_cons (pe_work1 (k := 4) (a := "_law_c") (js := [12, 10]) (t := fun E => (tCall (spStepsX C CN) [] E (tCons (tVar 1) (tCons (tVar 2) tNil)))) TBL rfl ["_law_chain_here", "_law_bad"] (show NdefX.ndefB (defScope sLaw) _ _ = true from by decide +kernel) (by decide +kernel) rfl rfl rfl (fun _ _ _ _ _ _ _ _ => ⟨_, rfl, rfl⟩) (fun _ _ _ _ _ _ _ _ _ hr => by exact (pe_call GToX (hr.mono (by decide)) (by rfl) DTo.g DTo.F.kp DTo.b .nil (passes_call (takes_of rfl rfl rfl rfl) (fun _ _ _ _ h => h)) (pa_cons (pv 1) (pa_cons (pv 2) pa_nil))))) pa_nil)))))
      (pss_cons (ps_set (i := 6) scLaw.nd rfl (.inl rfl) (pe_op op_cat (pv 6) (pe_lst (pa_cons (pe_work1 (k := 4) (a := "_law_e") (js := [12, 10]) (t := fun E => (tCall (spDrX C CN) [] E (tCons (tVar 1) (tCons (tVar 2) tNil)))) TBL rfl ["_law_chain_here", "_law_bad"] (show NdefX.ndefB (defScope sLaw) _ _ = true from by decide +kernel) (by decide +kernel) rfl rfl rfl (fun _ _ _ _ _ _ _ _ => ⟨_, rfl, rfl⟩) (fun _ _ _ _ _ _ _ _ _ hr => by exact (pe_call GDrX (hr.mono (by decide)) (by rfl) DDr.g DDr.F.kp DDr.b .nil (passes_call (takes_of rfl rfl rfl rfl) (fun _ _ _ _ h => h)) (pa_cons (pv 1) (pa_cons (pv 2) pa_nil))))) (pa_cons (pe_work1 (k := 4) (a := "_law_f") (js := [12, 10]) (t := fun E => (tCall (spStepsX C CN) [] E (tCons (tVar 1) (tCons (tVar 2) tNil)))) TBL rfl ["_law_chain_here", "_law_bad"] (show NdefX.ndefB (defScope sLaw) _ _ = true from by decide +kernel) (by decide +kernel) rfl rfl rfl (fun _ _ _ _ _ _ _ _ => ⟨_, rfl, rfl⟩) (fun _ _ _ _ _ _ _ _ _ hr => by exact (pe_call GTrX (hr.mono (by decide)) (by rfl) DTr.g DTr.F.kp DTr.b .nil (passes_call (takes_of rfl rfl rfl rfl) (fun _ _ _ _ h => h)) (pa_cons (pv 1) (pa_cons (pv 2) pa_nil))))) pa_nil)))))
      (pss_cons (ps_set (i := 6) scLaw.nd rfl (.inl rfl) (pe_op op_cat (pv 6) (pe_lst (pa_cons (pe_work1 (k := 4) (a := "_law_g") (js := [12, 15, 10]) (t := fun E => (tCall (spBeX C CN) [] E (tCons (tVar 1) (tCons (tVar 2) (tCons (tVar 3) tNil))))) TBL rfl ["_law_chain_here", "_law_odd", "_law_bad"] (show NdefX.ndefB (defScope sLaw) _ _ = true from by decide +kernel) (by decide +kernel) rfl rfl rfl (fun _ _ _ _ _ _ _ _ => ⟨_, rfl, rfl⟩) (fun _ _ _ _ _ _ _ _ _ hr => by exact (pe_call GBeX (hr.mono (by decide)) (by rfl) DBe.g DBe.F.kp DBe.b .nil (passes_call (takes_of rfl rfl rfl rfl) (fun _ _ _ _ h => h)) (pa_cons (pv 1) (pa_cons (pv 2) (pa_cons (pv 3) pa_nil)))))) (pa_cons (pe_work1 (k := 4) (a := "_law_i") (js := [12, 15, 14]) (t := fun E => (tCall (spBeX C CN) [] E (tCons (tVar 1) (tCons (tVar 2) (tCons (tVar 3) tNil))))) TBL rfl ["_law_chain_here", "_law_odd", "_law_numbers_here"] (show NdefX.ndefB (defScope sLaw) _ _ = true from by decide +kernel) (by decide +kernel) rfl rfl rfl (fun _ _ _ _ _ _ _ _ => ⟨_, rfl, rfl⟩) (fun _ _ _ _ _ _ _ _ _ hr => by exact (pe_call GBeX (hr.mono (by decide)) (by rfl) DBe.g DBe.F.kp DBe.b .nil (passes_call (takes_of rfl rfl rfl rfl) (fun _ _ _ _ h => h)) (pa_cons (pv 1) (pa_cons (pv 2) (pa_cons (pv 3) pa_nil)))))) pa_nil)))))
      (pss_cons (ps_expr (pe_bm PySem.F.plainAttrs_list PySem.F.slot_list_append PySem.F.type_list_append mt_append (pv 6) (pa_cons (pe_work1 (k := 4) (a := "_law_j") (js := [12, 18, 9]) (t := fun E => (tCall (spShX C CN) [] E (tCons (tVar 1) (tCons (tOp (rIxL K) (tLst (tCons (tC (.int 21)) (tCons (tOp (rI0 fun i j => .int (i - j)) (tC (.int 0)) (tC (.int 1))) (tCons (tOp (rI0 fun i j => .int (i + j)) (tC (.int 21)) (tVar 3)) (tCons (tOp (rI0 fun i j => .int (i - j)) (tOp (rI0 fun i j => .int (i - j)) (tC (.int 0)) (tC (.int 9))) (tVar 3)) tNil))))) (tOp (rI (fun _ j => 0 < j) fun i j => .int (i % j)) (tVar 2) (tC (.int 4)))) tNil)))) TBL rfl ["_law_chain_here", "_law_turn", "_law_at"] (show NdefX.ndefB (defScope sLaw) _ _ = true from by decide +kernel) (by decide +kernel) rfl rfl rfl (fun _ _ _ _ _ _ _ _ => ⟨_, rfl, rfl⟩) (fun _ _ _ _ _ _ _ _ _ hr => by exact (pe_call GShX (hr.mono (by decide)) (by rfl) DSh.g DSh.F.kp DSh.b .nil (passes_call (takes_of rfl rfl rfl rfl) (fun _ _ _ _ h => h)) (pa_cons (pv 1) (pa_cons (pe_ix ix_list (pe_lst (pa_cons pe_int (pa_cons (pe_op op_sub pe_int pe_int) (pa_cons (pe_op op_add pe_int (pv 3)) (pa_cons (pe_op op_sub (pe_op op_sub pe_int pe_int) (pv 3)) pa_nil))))) (pe_op op_mod (pv 2) pe_int) (fun _ _ => rfl)) pa_nil))))) pa_nil)))
      (pss_cons (ps_if (PW.pt (pw_or (pt_cmpR (op_neD hu) (pe_lcI (own := [("_law_work", 19)]) (g := gName 19) (tt := fun _ => tYes) (te := fun σ0 σ9 H9 Q9 => (tVar 19) σ9 H9 fun v H1 => WdIs (lawX P w K mg base f cL A outer s H E) 5 CN CO σ0 v H1 Q9) rfl scLaw.nd (pi_list (pv 6)) (blkOk_by (N := ["_law_script", "_law_d", "_law_told", "_law_many", "_law_moves", "_law_k", "_law_works", "_law_first", "_law_words", "_law_at", "_law_bad", "_law_begin", "_law_chain_here", "_law_handed", "_law_numbers_here", "_law_odd", "_law_order", "_law_place", "_law_turn", "_law_work"]) (sc := defScope sLaw) (by decide +kernel)) (fun _ _ _ _ _ => by exact (pg_name (i := 19) scLaw.nd rfl (.inl rfl))) (fun _ _ _ _ _ _ _ => pts_nil) (by exact (pe_wordBs (k := 5) (te := tVar 19) (CN := CN) (CO := CO) DWd.F DWd.b RW r6 ⟨fun _ => rfl, rfl, rfl⟩ DWd.g (fun _ _ _ _ _ => by exact rfl) (fun _ _ _ _ _ => by exact (pv 19)) (fun _ => rfl)))) (pe_op op_rep (pe_lst (pa_cons pe_str pa_nil)) pe_int) (nomark _)) (pw_or1 (pt_cmpR (op_neD hu) (pv 13) (pe_lst (pa_cons (pv 10) (pa_cons (pv 16) pa_nil))) (nomark _))))) (pss_one (ps_ret pe_bl)) pss_nil)
      (pss_cons (ps_set (i := 7) scLaw.nd rfl (.inl rfl) (pe_call GUk r1 (by rfl) DUk.g DUk.F.kp DUk.b .nil pass0 (pa_cons (pv 4) (pa_cons (pv 16) pa_nil))))
      (pss_cons (ps_set (i := 8) scLaw.nd rfl (.inl rfl) (pe_lst (pa_cons (pe_word (CN := CN) (CO := CO) DWd.F DWd.b RW r6 ⟨fun _ => rfl, rfl, rfl⟩ (by rfl) DWd.g (pe_work0 (k := 4) (js := [12, 16, 10]) (t := fun E => (tCall (spBe1 C CO CN) [] E (tCons (tVar 0) (tCons (tVar 1) (tCons (tVar 2) tNil))))) TBL rfl ["_law_chain_here", "_law_order", "_law_bad"] (show NdefX.ndefB (defScope sLaw) _ _ = true from by decide +kernel) (by decide +kernel) rfl rfl (fun _ _ _ _ _ _ => rfl) (fun _ _ _ _ _ _ _ _ _ hr => by exact (pe_call GBe1 (hr.mono (by decide)) (by rfl) DBe.g DBe.F.kp DBe.b .nil (passes_call (takes_of rfl rfl rfl rfl) (fun _ _ _ _ h => h)) (pa_cons (pv 0) (pa_cons (pv 1) (pa_cons (pv 2) pa_nil))))))) (pa_cons (pe_word (CN := CN) (CO := CO) DWd.F DWd.b RW r6 ⟨fun _ => rfl, rfl, rfl⟩ (by rfl) DWd.g (pe_work1 (k := 4) (a := "_law_a") (js := [12, 16, 14]) (t := fun E => (tCall (spBe2 C CO) [] E (tCons (tVar 1) (tCons (tVar 2) (tCons (tVar 3) tNil))))) TBL rfl ["_law_chain_here", "_law_order", "_law_numbers_here"] (show NdefX.ndefB (defScope sLaw) _ _ = true from by decide +kernel) (by decide +kernel) rfl rfl rfl (fun _ _ _ _ _ _ _ _ => ⟨_, rfl, rfl⟩) (fun _ _ _ _ _ _ _ _ _ hr => by exact (pe_call GBe2 (hr.mono (by decide)) (by rfl) DBe.g DBe.F.kp DBe.b .nil (passes_call (takes_of rfl rfl rfl rfl) (fun _ _ _ _ h => h)) (pa_cons (pv 1) (pa_cons (pv 2) (pa_cons (pv 3) pa_nil))))))) pa_nil))))
      (pss_cons (ps_if (pt_cmpR (op_neD hu) (pv 8) (pe_ifExp (pt_cmpR op_notN (pv 7) pe_non (nomark _)) (pe_op op_rep (pe_lst (pa_cons (pv 7) pa_nil)) pe_int) (pe_lst (pa_cons pe_str (pa_cons pe_non pa_nil)))) (nomark _)) (pss_one (ps_ret pe_bl)) pss_nil)
      (pss_cons (ps_set (i := 6) scLaw.nd rfl (.inl rfl) (pe_lst (pa_cons (pe_work0 (k := 4) (js := [12, 11, 14]) (t := fun E => (tCall (spWa C) [] E0 (tCons (tVar 0) (tCons (tVar 1) (tCons (tVar 2) tNil))))) TBL rfl ["_law_chain_here", "_law_begin", "_law_numbers_here"] (show NdefX.ndefB (defScope sLaw) _ _ = true from by decide +kernel) (by decide +kernel) rfl rfl (fun _ _ _ _ _ _ => rfl) (fun _ _ _ _ _ _ _ _ _ hr => by exact (pe_call GWa (hr.mono (by decide)) (by rfl) DWa.g DWa.F.kp DWa.b .nil pass0 (pa_cons (pv 0) (pa_cons (pv 1) (pa_cons (pv 2) pa_nil)))))) (pa_cons (pe_work1 (k := 4) (a := "_law_a") (js := [12, 14]) (t := fun E => (tCall (spTo C) [] E0 (tCons (tVar 1) (tCons (tVar 2) tNil)))) TBL rfl ["_law_chain_here", "_law_numbers_here"] (show NdefX.ndefB (defScope sLaw) _ _ = true from by decide +kernel) (by decide +kernel) rfl rfl rfl (fun _ _ _ _ _ _ _ _ => ⟨_, rfl, rfl⟩) (fun _ _ _ _ _ _ _ _ _ hr => by exact (pe_call GTo (hr.mono (by decide)) (by rfl) DTo.g DTo.F.kp DTo.b .nil pass0 (pa_cons (pv 1) (pa_cons (pv 2) pa_nil))))) pa_nil))))
      (pss_cons (ps_set (i := 6) scLaw.nd rfl (.inl rfl) (pe_op op_cat (pv 6) (pe_lst (pa_cons (pe_work1 (k := 4) (a := "_law_b") (js := [12, 14]) (t := fun E => (tCall (spDrawn C) [] E0 (tCons (tVar 1) (tCons (tVar 2) tNil)))) TBL rfl ["_law_chain_here", "_law_numbers_here"] (show NdefX.ndefB (defScope sLaw) _ _ = true from by decide +kernel) (by decide +kernel) rfl rfl rfl (fun _ _ _ _ _ _ _ _ => ⟨_, rfl, rfl⟩) (fun _ _ _ _ _ _ _ _ _ hr => by exact (pe_call GDr (hr.mono (by decide)) (by rfl) DDr.g DDr.F.kp DDr.b .nil pass0 (pa_cons (pv 1) (pa_cons (pv 2) pa_nil))))) (pa_cons (pe_work1 (k := 4) (a := "_law_c") (js := [12, 14]) (t := fun E => (tCall (spTries C) [] E0 (tCons (tVar 1) (tCons (tVar 2) tNil)))) TBL rfl ["_law_chain_here", "_law_numbers_here"] (show NdefX.ndefB (defScope sLaw) _ _ = true from by decide +kernel) (by decide +kernel) rfl rfl rfl (fun _ _ _ _ _ _ _ _ => ⟨_, rfl, rfl⟩) (fun _ _ _ _ _ _ _ _ _ hr => by exact (pe_call GTr (hr.mono (by decide)) (by rfl) DTr.g DTr.F.kp DTr.b .nil pass0 (pa_cons (pv 1) (pa_cons (pv 2) pa_nil))))) pa_nil)))))
      (pss_one (ps_if (pt_cmpR (op_neD hu) (pe_lcI (own := [("_law_work", 19)]) (g := gName 19) (tt := fun σ0 => tTest (tOp (fun x y H9 Q9 => y = .non ∧ Q9 (.bl (!decide (x = .non))) H9) (fun σ9 H9 Q9 => (tVar 19) σ9 H9 fun v H1 => WdIs (lawX P w K mg base f cL A outer s H E) 5 CN CO σ0 v H1 Q9) (tC .non))) (te := fun _ => tVar 19) rfl scLaw.nd (pi_list (pv 6)) (blkOk_by (N := ["_law_script", "_law_d", "_law_told", "_law_many", "_law_moves", "_law_k", "_law_works", "_law_first", "_law_words", "_law_at", "_law_bad", "_law_begin", "_law_chain_here", "_law_handed", "_law_numbers_here", "_law_odd", "_law_order", "_law_place", "_law_turn", "_law_work"]) (sc := defScope sLaw) (by decide +kernel)) (fun _ _ _ _ _ => by exact (pg_name (i := 19) scLaw.nd rfl (.inl rfl))) (fun σ0 s0 H0 C0 cl0 fp0 B => by exact (pts_one (pt_cmpR op_notN ((pe_wordBs (k := 5) (te := tVar 19) (CN := CN) (CO := CO) DWd.F DWd.b RW r6 ⟨fun _ => rfl, rfl, rfl⟩ DWd.g (fun _ _ _ _ _ => by exact rfl) (fun _ _ _ _ _ => by exact (pv 19)) (fun _ => rfl)) σ0 s0 H0 C0 cl0 fp0 B) pe_non (nomark _)))) (fun _ _ _ _ _ _ _ => by exact (pv 19))) (pe_lst pa_nil) (nomark _)) (pss_one (ps_ret pe_bl)) pss_nil)))))))))))))))))))))))))
      (pss_one (ps_ret pe_bl)))), ?_⟩
    -- the dice
    refine ⟨.ref a, rfl, a, ns, 0, rfl, hS, hl, by decide, fun H1 d s1 nd hD1 => ?_⟩
    have hT1 : LamX.TabS H1 tL ((lawX P w K mg base f cL A outer s H E).env.qual ++ "<lambda>") := LamX.TabS.nil (s1 _ _ hTL)
    have hM1 := tab_same s1 hTM
    generalize hqn : (lawX P w K mg base f cL A outer s H E).env.qual ++ "<lambda>" = qn at hT1
    clear hTM hTL s1 hS nd
    refine ⟨5, rfl, by decide, by decide, ?_⟩
    refine for_range (lo := 0) (n := (5 : Int).toNat) (fun i σ H' => ∃ y2 y3 y4 y5 y6 y7 y8 y9 y10 y11 y12 y13 y14 y15 y16 y17 y18 : Option V, σ = [some (.ref a), some (.ref d), y2, y3, y4, y5, y6, y7, y8, y9, y10, y11, y12, y13, y14, y15, y16, y17, y18, none] ∧ Dc K a ns H' d ∧ LamX.TabS H' tL qn ∧ GxR.TabG H' tM)
      ⟨none, none, none, none, none, none, none, none, none, none, none, none, none, none, none, none, none, rfl, hD1, hT1, hM1⟩ ?_ ?_
    · rintro i σ H2 hi ⟨y2, y3, y4, y5, y6, y7, y8, y9, y10, y11, y12, y13, y14, y15, y16, y17, y18, rfl, hD2, hT2, hM2⟩
      have hi5 : i < 5 := hi
      -- a chain
      refine ⟨.ref d, rfl, d, a, ns, 6, rfl, hD2, by decide, by decide, fun t m many ws ms H3 G _ hTo hD3 g3 => ?_⟩
      have hT3 := tabS_dc hD2 hT2 g3
      have hM3 := tab_gr hD2 g3 hM2
      have m1 := G.m1
      have m6 := G.m6
      have l1 := G.l1
      have l8 := G.l8
      have lw := hTo.2.2.length
      clear g3 hD2 hT2 hM2
      refine ⟨.ref t, rfl, t, _, rfl, SqT.of hTo.1, rfl, .int (many : Int), [.ref m], rfl, .ref m, [], rfl, rfl, ?_⟩
      refine ⟨.ref t, rfl, t, m, many, ws, ms, rfl, hTo, G, hM3, fun H4 x hC nx g4 hM4 => ?_⟩
      have hD4 := hD3.tabT hM3 g4
      have hT4 := tabS_tab hM3 (Ne.symm ne) hT3 g4
      have hTo4 := hTo.tab hM3 g4
      have nmd := hD4.neM hTo4.2.1 hTo4.2.2 l1
      clear g4 nx hTo hT3 hM3 hD3
      -- numbers
      refine ⟨.ref d, rfl, .ref m, rfl, d, a, m, 40, ns, ws, rfl, hD4, hTo4.2.1, nmd, by omega, by omega, by decide, fun ln zs H5 hD5 g5 nln nld hln l40 hz => ?_⟩
      rw [lw] at hz
      have hT5 := tabS_dc hD4 hT4 g5
      have hM5 := tab_gr hD4 g5 hM4
      have hC5 := hC.dc hD4 g5 l1
      have hm5 := g5 _ _ nmd hTo4.2.1
      have hMv5 : MovesAt H5 ws ms := hTo4.2.2.same (g5.tups hD4)
      clear g5 nln hTo4 hC hM4 hT4 hD4
      refine ⟨.ref d, rfl, .ref ln, rfl, ln, _, rfl, .inl (SqL.of hln), _, _, rfl, rfl, d, a, ns, _, rfl, hD5, by rw [List.length_map]; omega, by rw [List.length_map]; omega, fun at' H6 hat hD6 o6 => ?_⟩
      have g6 : Gr d H5 H6 := (Gr.refl d H5).off o6
      have hln6 := g6 _ _ nld hln
      clear o6
      -- a number that is none put in
      refine ⟨.ref ln, rfl, .int (at' : Int), rfl, _, rfl, ln, _, rfl, SqL.of hln6, fun k1 nk1 => ?_⟩
      rw [cutI_to]
      have v1 := same_new (o := .lst ((zs.take at').map V.int)) nk1
      have hD7 := hD6.same v1
      have hk1 : (upd H6 k1 (.lst ((zs.take at').map V.int))) k1 = some (.lst ((zs.take at').map V.int)) := upd_same
      have g7 := g6.trans (Gr.of_same v1)
      show tLst _ _ _ _
      generalize upd H6 k1 (.lst ((zs.take at').map V.int)) = H7 at v1 hD7 hk1 g7 ⊢
      refine ⟨.ref d, rfl, .ref m, rfl, m, ws, rfl, .inl (SqL.of (g7 _ _ nmd hm5)), d, a, ns, _, rfl, hD7, by omega, by omega, fun r H8 hr1 hr2 hD8 g8 => ⟨(by show 1 ≤ sizeLine; decide), fun k2 nk2 => ?_⟩⟩
      rw [lw] at hr1
      have hk18 := g8 _ _ (hD7.neI hk1) hk1
      have v2 := same_new (o := .lst [.int r]) nk2
      have hk2 : (upd H8 k2 (.lst [.int r])) k2 = some (.lst [.int r]) := upd_same
      refine ⟨k1, k2, _, _, rfl, rfl, v2 _ _ hk18, hk2, le1k (by rw [List.length_map, List.length_take]; show min at' zs.length + 1 ≤ 1000; omega), fun k3 nk3 => ?_⟩
      have v3 := v2.trans (same_new (o := .lst ((zs.take at').map V.int ++ [.int r])) nk3)
      have hk3 : (upd (upd H8 k2 (.lst [.int r])) k3 (.lst ((zs.take at').map V.int ++ [.int r]))) k3 = some (.lst ((zs.take at').map V.int ++ [.int r])) := upd_same
      have g9 := (g7.trans g8).trans (Gr.of_same v3)
      have hD9 := hD8.same v3
      generalize upd (upd H8 k2 (.lst [.int r])) k3 (.lst ((zs.take at').map V.int ++ [.int r])) = H9 at v3 hk3 g9 hD9 ⊢
      refine ⟨.ref ln, rfl, .int (at' : Int), rfl, _, rfl, ln, _, rfl, SqL.of (g9 _ _ nld hln), fun k4 nk4 => ?_⟩
      rw [cutI_from]
      have v4 := same_new (o := .lst ((zs.drop at').map V.int)) nk4
      refine ⟨k3, k4, _, _, rfl, rfl, v4 _ _ hk3, upd_same, le1k (by rw [List.length_append, List.length_map, List.length_map, List.length_take, List.length_drop]; show min at' zs.length + 1 + (zs.length - at') ≤ 1000; omega), fun lb nlb => ?_⟩
      have eb : (zs.take at').map V.int ++ [.int r] ++ (zs.drop at').map V.int = (zs.take at' ++ [r] ++ zs.drop at').map V.int := by
        rw [List.map_append, List.map_append]
        rfl
      rw [eb]
      have bad := bad_nos (ms := ms) (at' := at') l40 l8 hz hr1 hr2
      have lbad : (zs.take at' ++ [r] ++ zs.drop at').length ≤ 41 := by
        rw [List.length_append, List.length_append, List.length_take, List.length_drop]
        show min at' zs.length + 1 + (zs.length - at') ≤ 41
        omega
      generalize zs.take at' ++ [r] ++ zs.drop at' = bs at bad lbad ⊢
      have v5 := v4.trans (same_new (o := .lst (bs.map V.int)) nlb)
      have hlb : (upd (upd H9 k4 (.lst ((zs.drop at').map V.int))) lb (.lst (bs.map V.int))) lb = some (.lst (bs.map V.int)) := upd_same
      have g10 := g9.trans (Gr.of_same v5)
      have hD10 := hD9.same v5
      show gName 10 _ _ (upd (upd H9 k4 (.lst ((zs.drop at').map V.int))) lb (.lst (bs.map V.int))) _
      generalize upd (upd H9 k4 (.lst ((zs.drop at').map V.int))) lb (.lst (bs.map V.int)) = H10 at hlb g10 hD10 ⊢
      clear v1 v2 v3 v4 v5 hk1 hk18 hk2 hk3 g6 g7 g8 g9 hD6 hD7 hD8 hD9 hln6 nk1 nk2 nk3 nk4 nlb hr1 hr2 eb
      -- the order
      refine ⟨.int (many : Int), rfl, _, rfl, RgOk.of_le (by omega) (by omega) (by omega) (by omega), fun lo nlo => ?_⟩
      rw [rg_ends]
      have nlod := hD10.ne nlo
      have nHlo : ∀ {b o}, b ≠ d → H5 b = some o → b ≠ lo := fun nb e => ne_of_none (g10 _ _ nb e) nlo
      have nlblo : lb ≠ lo := ne_of_none hlb nlo
      have v6 := same_new (o := .lst (((List.range many).map fun (i : Nat) => (i : Int)).map V.int)) nlo
      have hlo11 : (upd H10 lo (.lst (((List.range many).map fun (i : Nat) => (i : Int)).map V.int))) lo = some (.lst ((ids many).map V.int)) := upd_same
      have hD11 := hD10.same v6
      show gName 16 _ _ (upd H10 lo (.lst (((List.range many).map fun (i : Nat) => (i : Int)).map V.int))) _
      generalize upd H10 lo (.lst (((List.range many).map fun (i : Nat) => (i : Int)).map V.int)) = H11 at v6 hlo11 hD11 ⊢
      have g11 := g10.trans (Gr.of_same v6)
      refine ⟨.ref d, rfl, d, a, ns, _, rfl, hD11, by decide, by decide, fun cnt H12 hcnt hD12 o12 => ⟨_, rfl, by omega, by omega, ?_⟩⟩
      have hlo12 : H12 lo = some (.lst ((ids many).map V.int)) := by rw [o12 _ nlod]; exact hlo11
      have g12 := g11.off o12
      refine for_range (lo := 0) (n := ((cnt : Nat) : Int).toNat) (fun e σ H' => ∃ (y5 : Option V) (ord : List Int), σ = [some (.ref a), some (.ref d), some (.ref t), some (.int (many : Int)), some (.ref m), y5, y6, y7, y8, some (.int (at' : Int)), some (.ref lb), y11, some (.ref x), y13, some (.ref ln), y15, some (.ref lo), y17, some (.int (0 + (i : Int))), none] ∧ Dc K a ns H' d ∧ (∀ b u, b ≠ d → b ≠ lo → H10 b = some u → H' b = some u) ∧ H' lo = some (.lst (ord.map V.int)) ∧ isOrd many ord)
        ⟨y5, ids many, rfl, hD12, fun b u n1 n2 eb => by rw [o12 b n1]; exact v6 b u eb, hlo12, List.Perm.refl _⟩ ?_ ?_
      · rintro e σ H13 he ⟨y5, ord, rfl, hD13, k13, hlo13, ho⟩
        have lor := ho.len
        refine ⟨.ref lo, rfl, .inl ⟨rfl, _, SqL.of hlo13⟩, .ref lo, rfl, .inl ⟨rfl, _, SqL.of hlo13⟩, .ref d, rfl, .int (many : Int), rfl, d, a, ns, _, rfl, hD13, by omega, by omega, fun r H14 hr hD14 o14 => ?_⟩
        have hlo14 : H14 lo = some (.lst (ord.map V.int)) := by rw [o14 _ nlod]; exact hlo13
        obtain ⟨p, ep⟩ : ∃ p, ord[r]? = some p := ⟨_, List.getElem?_eq_getElem (by omega)⟩
        refine ⟨lo, ord.map V.int, (r : Int), r, .int p, rfl, rfl, hlo14, by omega, by omega, ?_, by rw [List.getElem?_map, ep]; rfl, ?_⟩
        · rw [List.length_map, seqIndex_of (by omega) (by omega), Int.toNat_natCast]
        refine ⟨lo, _, _, rfl, rfl, upd_same, lt1k (by rw [eraseI_map, List.length_map, List.length_eraseIdx]; split <;> omega), ?_⟩
        rw [eraseI_map]
        refine ⟨_, ord.eraseIdx r ++ [p], rfl, ?_, fun b u n1 n2 eb => ?_, ?_, (eraseI_perm ep).trans ho⟩
        · exact (hD14.turn hD10 nlo nlod).turn hD10 nlo nlod
        · rw [upd_ne n2, upd_ne n2, o14 b n1]
          exact k13 b u n1 n2 eb
        · rw [upd_same, List.map_append]
          rfl
      rintro σ H13 ⟨y5', ord, rfl, hD13, k13, hlo13, ho⟩
      have lor := ho.len
      have k5 : ∀ b u, b ≠ d → H5 b = some u → H13 b = some u := fun b u n1 eb => k13 b u n1 (nHlo n1 eb) (g10 b u n1 eb)
      have hlb13 := k13 _ _ (hD10.neI hlb) nlblo hlb
      clear k13 o12 g12 g11 hlo12 hlo11 hD12 hD11 v6 hcnt
      -- what is no order
      have hlo13' := hlo13
      refine ⟨.ref lo, rfl, 1, rfl, _, rfl, lo, _, rfl, SqL.of hlo13, fun e0 ne0 => ?_⟩
      rw [show (some (-1 : Int)) = some (-1) from rfl, cutI_last, lor]
      have o0 := odd0 m1 m6 ho
      have o1 := odd1 m1 m6 ho
      have o3 := odd3 m1 m6 ho
      have w1 := same_new (o := .lst ((ord.take (many - 1)).map V.int)) ne0
      have he0 : (upd H13 e0 (.lst ((ord.take (many - 1)).map V.int))) e0 = some (.lst ((ord.take (many - 1)).map V.int)) := upd_same
      refine ⟨.ref lo, rfl, .ref lo, rfl, 1, rfl, lo, _, rfl, SqL.of (w1 _ _ hlo13), fun e1 ne1 => ?_⟩
      rw [show (some (1 : Int)) = some ((1 : Nat) : Int) from rfl, cutI_to]
      have w2 := w1.trans (same_new (o := .lst ((ord.take 1).map V.int)) ne1)
      have he02 := same_new (o := .lst ((ord.take 1).map V.int)) ne1 _ _ he0
      refine ⟨lo, e1, _, _, rfl, rfl, w2 _ _ hlo13, upd_same, le1k (by rw [List.length_map, List.length_map, List.length_take]; omega), fun e2 ne2 => ?_⟩
      rw [← List.map_append]
      have w3 := w2.trans (same_new (o := .lst ((ord ++ ord.take 1).map V.int)) ne2)
      have he03 := same_new (o := .lst ((ord ++ ord.take 1).map V.int)) ne2 _ _ he02
      have he2 : (upd (upd (upd H13 e0 (.lst ((ord.take (many - 1)).map V.int))) e1 (.lst ((ord.take 1).map V.int))) e2 (.lst ((ord ++ ord.take 1).map V.int))) e2 = some (.lst ((ord ++ ord.take 1).map V.int)) := upd_same
      generalize upd (upd (upd H13 e0 (.lst ((ord.take (many - 1)).map V.int))) e1 (.lst ((ord.take 1).map V.int))) e2 (.lst ((ord ++ ord.take 1).map V.int)) = H14 at w3 he03 he2 ⊢
      clear w1 w2 he0 he02 ne0 ne1 ne2
      refine ⟨.ref lo, rfl, 1, rfl, _, rfl, lo, _, rfl, SqL.of (w3 _ _ hlo13), fun e3 ne3 => ?_⟩
      rw [cutI_last, lor]
      have w4 := w3.trans (same_new (o := .lst ((ord.take (many - 1)).map V.int)) ne3)
      have he04 := same_new (o := .lst ((ord.take (many - 1)).map V.int)) ne3 _ _ he03
      have he24 := same_new (o := .lst ((ord.take (many - 1)).map V.int)) ne3 _ _ he2
      have he3 : (upd H14 e3 (.lst ((ord.take (many - 1)).map V.int))) e3 = some (.lst ((ord.take (many - 1)).map V.int)) := upd_same
      have hD15 := hD13.same w4
      generalize upd H14 e3 (.lst ((ord.take (many - 1)).map V.int)) = H15 at w4 he04 he24 he3 hD15 ⊢
      clear w3 he03 he2 ne3
      refine ⟨.ref d, rfl, .int (many : Int), rfl, d, a, ns, _, rfl, hD15, by omega, by omega, fun r H16 hr1 hr2 hD16 g16 => ⟨(by show 1 ≤ sizeLine; decide), fun e4 ne4 => ?_⟩⟩
      have o2 := odd2 m6 ho hr1 hr2
      have he05 := g16 _ _ (hD15.neI he04) he04
      have he25 := g16 _ _ (hD15.neI he24) he24
      have he35 := g16 _ _ (hD15.neI he3) he3
      have x1 := same_new (o := .lst [.int r]) ne4
      refine ⟨e3, e4, _, _, rfl, rfl, x1 _ _ he35, upd_same, le1k (by rw [List.length_map, List.length_take]; show min (many - 1) ord.length + 1 ≤ 1000; omega), fun e5 ne5 => ?_⟩
      have er : (ord.take (many - 1)).map V.int ++ [.int r] = (ord.take (many - 1) ++ [r]).map V.int := by rw [List.map_append]; rfl
      rw [er]
      have x2 := x1.trans (same_new (o := .lst ((ord.take (many - 1) ++ [r]).map V.int)) ne5)
      have he5 : (upd (upd H16 e4 (.lst [.int r])) e5 (.lst ((ord.take (many - 1) ++ [r]).map V.int))) e5 = some (.lst ((ord.take (many - 1) ++ [r]).map V.int)) := upd_same
      have he06 := x2 _ _ he05
      have he26 := x2 _ _ he25
      have hD17 := hD16.same x2
      have k17 : ∀ b u, b ≠ d → H13 b = some u → (upd (upd H16 e4 (.lst [.int r])) e5 (.lst ((ord.take (many - 1) ++ [r]).map V.int))) b = some u := fun b u nb eb => x2 _ _ (g16 _ _ nb (w4 _ _ eb))
      generalize upd (upd H16 e4 (.lst [.int r])) e5 (.lst ((ord.take (many - 1) ++ [r]).map V.int)) = H17 at he5 he06 he26 hD17 k17 ⊢
      clear x1 x2 w4 g16 he04 he24 he3 he05 he25 he35 ne4 ne5 hD15 hD16 er hr1 hr2
      have hlo17 := k17 _ _ nlod hlo13
      refine ⟨.ref lo, rfl, 1, rfl, lo, _, rfl, SqL.of hlo17, fun e6 ne6 => ?_⟩
      rw [show (some (1 : Int)) = some ((1 : Nat) : Int) from rfl, cutI_from]
      have z1 := same_new (o := .lst ((ord.drop 1).map V.int)) ne6
      refine ⟨.ref lo, rfl, 1, rfl, 2, rfl, lo, _, rfl, SqL.of (z1 _ _ hlo17), fun e7 ne7 => ?_⟩
      rw [cutI_mid]
      have z2 := z1.trans (same_new (o := .lst (((ord.drop 1).take 1).map V.int)) ne7)
      refine ⟨e6, e7, _, _, rfl, rfl, same_new (o := .lst (((ord.drop 1).take 1).map V.int)) ne7 _ _ upd_same, upd_same, le1k (by rw [List.length_map, List.length_map, List.length_take, List.length_drop]; omega), fun e8 ne8 => ⟨(by show 4 ≤ sizeLine; decide), fun L nL => ?_⟩⟩
      rw [← List.map_append]
      have z3 := z2.trans (same_new (o := .lst ((ord.drop 1 ++ (ord.drop 1).take 1).map V.int)) ne8)
      rw [← List.map_append] at nL
      have zL := same_new (o := .lst [.ref e0, .ref e2, .ref e5, .ref e8]) nL
      have z4 := z3.trans zL
      have he8 := zL _ _ (upd_same (H := upd (upd H17 e6 (.lst ((ord.drop 1).map V.int))) e7 (.lst (((ord.drop 1).take 1).map V.int))) (a := e8) (o := .lst ((ord.drop 1 ++ (ord.drop 1).take 1).map V.int)))
      have hL : (upd (upd (upd (upd H17 e6 (.lst ((ord.drop 1).map V.int))) e7 (.lst (((ord.drop 1).take 1).map V.int))) e8 (.lst ((ord.drop 1 ++ (ord.drop 1).take 1).map V.int))) L (.lst [.ref e0, .ref e2, .ref e5, .ref e8])) L = some (.lst [.ref e0, .ref e2, .ref e5, .ref e8]) := upd_same
      have hD18 := hD17.same z4
      have he08 := z4 _ _ he06
      have he28 := z4 _ _ he26
      have he58 := z4 _ _ he5
      have k18 : ∀ b u, b ≠ d → H13 b = some u → (upd (upd (upd (upd H17 e6 (.lst ((ord.drop 1).map V.int))) e7 (.lst (((ord.drop 1).take 1).map V.int))) e8 (.lst ((ord.drop 1 ++ (ord.drop 1).take 1).map V.int))) L (.lst [.ref e0, .ref e2, .ref e5, .ref e8])) b = some u := fun b u nb eb => z4 _ _ (k17 b u nb eb)
      generalize upd (upd (upd (upd H17 e6 (.lst ((ord.drop 1).map V.int))) e7 (.lst (((ord.drop 1).take 1).map V.int))) e8 (.lst ((ord.drop 1 ++ (ord.drop 1).take 1).map V.int))) L (.lst [.ref e0, .ref e2, .ref e5, .ref e8]) = H18 at hL he8 hD18 he08 he28 he58 k18 ⊢
      clear z1 z2 z3 z4 zL ne6 ne7 ne8 k17 he06 he26 he5 hD17
      have nLd : L ≠ d := hD18.ne_of hL fun _ _ _ _ z => by cases z
      refine ⟨.ref d, rfl, d, a, ns, _, rfl, hD18, by decide, by decide, fun w' H19 hw hD19 o19 => ?_⟩
      have g19 : Gr d H18 H19 := (Gr.refl d H18).off o19
      have hL19 := g19 _ _ nLd hL
      obtain ⟨od, ods, eod, hod, noo⟩ : ∃ (od : Addr) (ods : List Int), ([.ref e0, .ref e2, .ref e5, .ref e8] : List V)[w']? = some (.ref od) ∧ H19 od = some (.lst (ods.map V.int)) ∧ NoOrd many ods := by
        have h4 : w' < 4 := by
          have : (w' : Int) < 4 := hw
          omega
        match w', h4 with
        | 0, _ => exact ⟨e0, _, rfl, g19 _ _ (hD18.neI he08) he08, o0⟩
        | 1, _ => exact ⟨e2, _, rfl, g19 _ _ (hD18.neI he28) he28, o1⟩
        | 2, _ => exact ⟨e5, _, rfl, g19 _ _ (hD18.neI he58) he58, o2⟩
        | 3, _ => exact ⟨e8, _, rfl, g19 _ _ (hD18.neI he8) he8, o3⟩
      have k19 : ∀ b u, b ≠ d → H13 b = some u → H19 b = some u := fun b u nb eb => g19 _ _ nb (k18 b u nb eb)
      refine ⟨L, _, _, _, rfl, rfl, SqL.of hL19, atI_nat eod, ?_⟩
      clear g19 o19 hL hL19 he8 he08 he28 he58 k18 hD18 o0 o1 o2 o3 eod hw nLd nL
      -- a place, and one that isn't there
      refine ⟨.ref d, rfl, .int (many : Int), rfl, d, a, ns, _, rfl, hD19, by omega, by omega, fun bg H20 hbg hD20 o20 => ?_⟩
      have k20 : Gr d H19 H20 := (Gr.refl d H19).off o20
      refine ⟨.ref d, rfl, .int (many : Int), rfl, d, a, ns, _, rfl, hD20, by omega, by omega, fun pl H21 hp1 hp2 hD21 g21 => ⟨(by show 2 ≤ sizeLine; decide), fun tp ntp => ⟨tp, _, rfl, SqT.of upd_same, rfl, .int (bg : Int), [.int pl], rfl, .int pl, [], rfl, rfl, ?_⟩⟩⟩
      have hod21 := g21 _ _ (hD20.neI (k20 _ _ (hD19.neI hod) hod)) (k20 _ _ (hD19.neI hod) hod)
      have s22 := same_new (o := .tup [.int (bg : Int), .int pl]) ntp
      have k22 : ∀ b u, b ≠ d → H13 b = some u → (upd H21 tp (.tup [.int (bg : Int), .int pl])) b = some u := fun b u nb eb => s22 _ _ (g21 _ _ nb (k20 _ _ nb (k19 b u nb eb)))
      have hD22 := hD21.same s22
      have hod22 := s22 _ _ hod21
      generalize upd H21 tp (.tup [.int (bg : Int), .int pl]) = H22 at k22 hD22 hod22 ⊢
      clear s22 k20 g21 o20 k19 hod hod21 hD19 hD20 hD21 ntp
      -- what is handed in
      have hlb22 := k22 _ _ (hD13.neI hlb13) hlb13
      have hlo22 := k22 _ _ nlod hlo13
      refine ⟨.ref lb, rfl, lb, _, rfl, .inl (SqL.of hlb22), fun h0 nh0 => ?_⟩
      have s23 := same_new (o := .lst (bs.map V.int)) nh0
      refine ⟨.ref lo, rfl, lo, _, rfl, .inl (SqL.of (s23 _ _ hlo22)), fun h1 nh1 => ⟨(by show 2 ≤ sizeLine; decide), fun lh nlh => ?_⟩⟩
      have s24 := same_new (o := .lst (ord.map V.int)) nh1
      have s25 := same_new (o := .lst [.ref h0, .ref h1]) nlh
      have s2325 := (s23.trans s24).trans s25
      have hnat : Same H22 (upd (upd (upd H22 h0 (.lst (bs.map V.int))) h1 (.lst (ord.map V.int))) lh (.lst [.ref h0, .ref h1])) := s2325
      have k25 : ∀ b u, b ≠ d → H5 b = some u → (upd (upd (upd H22 h0 (.lst (bs.map V.int))) h1 (.lst (ord.map V.int))) lh (.lst [.ref h0, .ref h1])) b = some u := fun b u nb eb => s2325 _ _ (k22 b u nb (k5 b u nb eb))
      have kit : Kit K C a d tL tM qn ns (upd (upd (upd H22 h0 (.lst (bs.map V.int))) h1 (.lst (ord.map V.int))) lh (.lst [.ref h0, .ref h1])) x m ln lb lo od lh h0 h1 many ws ms zs bs ord ods :=
        ⟨hD22.same s2325, tabS_dc hD5 hT5 k25, tab_gr hD5 k25 hM5, hC5.dc hD5 k25 l1, k25 _ _ nmd hm5, hMv5.same (Gr.tups hD5 k25), k25 _ _ nld hln, s2325 _ _ hlb22, s2325 _ _ hlo22, s2325 _ _ hod22, upd_same, s25 _ _ (s24 _ _ upd_same), s25 _ _ upd_same⟩
      show gName 13 _ _ (upd (upd (upd H22 h0 (.lst (bs.map V.int))) h1 (.lst (ord.map V.int))) lh (.lst [.ref h0, .ref h1])) _
      generalize upd (upd (upd H22 h0 (.lst (bs.map V.int))) h1 (.lst (ord.map V.int))) lh (.lst [.ref h0, .ref h1]) = H25 at kit ⊢
      clear hnat k25 s2325 s25 s24 s23 nh0 nh1 nlh hlb22 hlo22 hod22 hD22 k22 hlb13 hlo13 hlo13' hD13 k5 hD5 hT5 hM5 hC5 hm5 hMv5 hln hD10 hlb nlo nlod nHlo nlblo nld nmd hlo17 g10
      have nt : ∀ {xs : List V} (qs : Array Value), HO.lst xs ≠ .tbl qs := fun qs z => nomatch z
      have tG : ∀ {H' : Hp} {x' m' a1 a2 a3 a4 a5 a6 a7 : Addr} {b1 b2 b3 b4 b5 b6 b7}, Kit K C a d tL tM qn ns H' x' m' a1 a2 a3 a4 a5 a6 a7 b1 b2 b3 b4 b5 b6 b7 → GxR.TabG H' tL := fun kt => tabS_G kt.tabL
      -- works that are refused
      refine ⟨kit.tabL, fun f0 F0 H26 g26 T26 n0 L0 W0 => ?_⟩
      have kit26 := kit.lam ne g26 T26
      have ls26 := Lams.nil.cons L0
      clear L0 n0
      refine ⟨T26, fun f1 F1 H27 g27 T27 n1 L1 W1 => ⟨(by show 2 ≤ sizeLine; decide), fun w1 nw1 => ?_⟩⟩
      have kit27 := (kit26.lam ne g27 T27).same (same_new (o := .lst [.ref f0, .ref f1]) nw1)
      have ls27 := ((ls26.gr (tG kit26) g27).cons L1).same (same_new (o := .lst [.ref f0, .ref f1]) nw1)
      have hw1 : (upd H27 w1 (.lst [.ref f0, .ref f1])) w1 = some (.lst [.ref f0, .ref f1]) := upd_same
      show gName 6 _ _ (upd H27 w1 (.lst [.ref f0, .ref f1])) _
      generalize upd H27 w1 (.lst [.ref f0, .ref f1]) = H28 at kit27 ls27 hw1 ⊢
      clear L1 n1 nw1 g26 g27 T26 T27 kit kit26 ls26
      refine ⟨.ref w1, rfl, kit27.tabL, fun f2 F2 H29 g29 T29 n2 L2 W2 => ?_⟩
      have kit29 := kit27.lam ne g29 T29
      have ls29 := (ls27.gr (tG kit27) g29).cons L2
      have hw29 := Gr.tab (tG kit27) g29 nt hw1
      clear L2 n2
      refine ⟨T29, fun f3 F3 H30 g30 T30 n3 L3 W3 => ⟨(by show 2 ≤ sizeLine; decide), fun z2 nz2 => ?_⟩⟩
      have sz2 := same_new (o := .lst [.ref f2, .ref f3]) nz2
      have kit30 := (kit29.lam ne g30 T30).same sz2
      have ls30 := ((ls29.gr (tG kit29) g30).cons L3).same sz2
      have hw30 := sz2 _ _ (Gr.tab (tG kit29) g30 nt hw29)
      have hz2 : (upd H30 z2 (.lst [.ref f2, .ref f3])) z2 = some (.lst [.ref f2, .ref f3]) := upd_same
      generalize upd H30 z2 (.lst [.ref f2, .ref f3]) = H31 at kit30 ls30 hw30 hz2 ⊢
      refine ⟨w1, z2, _, _, rfl, rfl, hw30, hz2, le1k (by show 4 ≤ 1000; decide), fun w2 nw2 => ?_⟩
      have sy2 := same_new (o := .lst ([.ref f0, .ref f1, .ref f2, .ref f3] : List V)) nw2
      have kit32 := kit30.same sy2
      have ls32 := ls30.same sy2
      have hw32 : (upd H31 w2 (.lst ([.ref f0, .ref f1, .ref f2, .ref f3] : List V))) w2 = some (.lst ([.ref f0, .ref f1, .ref f2, .ref f3] : List V)) := upd_same
      show gName 6 _ _ (upd H31 w2 (.lst ([.ref f0, .ref f1, .ref f2, .ref f3] : List V))) _
      generalize upd H31 w2 (.lst ([.ref f0, .ref f1, .ref f2, .ref f3] : List V)) = H32 at kit32 ls32 hw32 ⊢
      clear L3 n3 nw2 nz2 sz2 sy2 hz2 g29 g30 T29 T30 kit27 kit29 kit30 ls27 ls29 ls30 hw1 hw29 hw30
      refine ⟨.ref w2, rfl, kit32.tabL, fun f4 F4 H33 g33 T33 n4 L4 W4 => ?_⟩
      have kit33 := kit32.lam ne g33 T33
      have ls33 := (ls32.gr (tG kit32) g33).cons L4
      have hw33 := Gr.tab (tG kit32) g33 nt hw32
      clear L4 n4
      refine ⟨T33, fun f5 F5 H34 g34 T34 n5 L5 W5 => ⟨(by show 2 ≤ sizeLine; decide), fun z4 nz4 => ?_⟩⟩
      have sz4 := same_new (o := .lst [.ref f4, .ref f5]) nz4
      have kit34 := (kit33.lam ne g34 T34).same sz4
      have ls34 := ((ls33.gr (tG kit33) g34).cons L5).same sz4
      have hw34 := sz4 _ _ (Gr.tab (tG kit33) g34 nt hw33)
      have hz4 : (upd H34 z4 (.lst [.ref f4, .ref f5])) z4 = some (.lst [.ref f4, .ref f5]) := upd_same
      generalize upd H34 z4 (.lst [.ref f4, .ref f5]) = H35 at kit34 ls34 hw34 hz4 ⊢
      refine ⟨w2, z4, _, _, rfl, rfl, hw34, hz4, le1k (by show 6 ≤ 1000; decide), fun w4 nw4 => ?_⟩
      have sy4 := same_new (o := .lst ([.ref f0, .ref f1, .ref f2, .ref f3, .ref f4, .ref f5] : List V)) nw4
      have kit36 := kit34.same sy4
      have ls36 := ls34.same sy4
      have hw36 : (upd H35 w4 (.lst ([.ref f0, .ref f1, .ref f2, .ref f3, .ref f4, .ref f5] : List V))) w4 = some (.lst ([.ref f0, .ref f1, .ref f2, .ref f3, .ref f4, .ref f5] : List V)) := upd_same
      show gName 6 _ _ (upd H35 w4 (.lst ([.ref f0, .ref f1, .ref f2, .ref f3, .ref f4, .ref f5] : List V))) _
      generalize upd H35 w4 (.lst ([.ref f0, .ref f1, .ref f2, .ref f3, .ref f4, .ref f5] : List V)) = H36 at kit36 ls36 hw36 ⊢
      clear L5 n5 nw4 nz4 sz4 sy4 hz4 g33 g34 T33 T34 kit32 kit33 kit34 ls32 ls33 ls34 hw32 hw33 hw34
      refine ⟨.ref w4, rfl, kit36.tabL, fun f6 F6 H37 g37 T37 n6 L6 W6 => ?_⟩
      have kit37 := kit36.lam ne g37 T37
      have ls37 := (ls36.gr (tG kit36) g37).cons L6
      have hw37 := Gr.tab (tG kit36) g37 nt hw36
      clear L6 n6
      refine ⟨T37, fun f7 F7 H38 g38 T38 n7 L7 W7 => ⟨(by show 2 ≤ sizeLine; decide), fun z6 nz6 => ?_⟩⟩
      have sz6 := same_new (o := .lst [.ref f6, .ref f7]) nz6
      have kit38 := (kit37.lam ne g38 T38).same sz6
      have ls38 := ((ls37.gr (tG kit37) g38).cons L7).same sz6
      have hw38 := sz6 _ _ (Gr.tab (tG kit37) g38 nt hw37)
      have hz6 : (upd H38 z6 (.lst [.ref f6, .ref f7])) z6 = some (.lst [.ref f6, .ref f7]) := upd_same
      generalize upd H38 z6 (.lst [.ref f6, .ref f7]) = H39 at kit38 ls38 hw38 hz6 ⊢
      refine ⟨w4, z6, _, _, rfl, rfl, hw38, hz6, le1k (by show 8 ≤ 1000; decide), fun w6 nw6 => ?_⟩
      have sy6 := same_new (o := .lst ([.ref f0, .ref f1, .ref f2, .ref f3, .ref f4, .ref f5, .ref f6, .ref f7] : List V)) nw6
      have kit40 := kit38.same sy6
      have ls40 := ls38.same sy6
      have hw40 : (upd H39 w6 (.lst ([.ref f0, .ref f1, .ref f2, .ref f3, .ref f4, .ref f5, .ref f6, .ref f7] : List V))) w6 = some (.lst ([.ref f0, .ref f1, .ref f2, .ref f3, .ref f4, .ref f5, .ref f6, .ref f7] : List V)) := upd_same
      show gName 6 _ _ (upd H39 w6 (.lst ([.ref f0, .ref f1, .ref f2, .ref f3, .ref f4, .ref f5, .ref f6, .ref f7] : List V))) _
      generalize upd H39 w6 (.lst ([.ref f0, .ref f1, .ref f2, .ref f3, .ref f4, .ref f5, .ref f6, .ref f7] : List V)) = H40 at kit40 ls40 hw40 sy6 ⊢
      clear L7 n7 nz6 sz6 hz6 g37 g38 T37 T38 kit36 kit37 ls36 ls37 hw36 hw37 hw38
      -- the ninth
      refine ⟨.ref w6, rfl, .inl ⟨rfl, _, SqL.of hw40⟩, kit40.tabL, fun f8 F8 H41 g41 T41 n8 L8 W8 => ?_⟩
      have kit41 := kit40.lam ne g41 T41
      have ls41 := (ls40.gr (tG kit40) g41).cons L8
      have hw41 := Gr.tab (tG kit40) g41 nt hw40
      refine ⟨w6, _, _, rfl, rfl, hw41, lt1k (by show 8 ≤ 1000; decide), ?_⟩
      have g42 : Gr tL H39 (upd H41 w6 (.lst (([.ref f0, .ref f1, .ref f2, .ref f3, .ref f4, .ref f5, .ref f6, .ref f7] : List V) ++ [.ref f8]))) := fun b o nb e => by
        rw [upd_ne (ne_of_none e nw6)]
        exact g41 b o nb (sy6 b o e)
      have xw : ∀ b φ, H41 b = some (.ext φ) → b ≠ w6 := fun b φ e z => by
        rw [z, hw41] at e
        cases e
      have T42 : LamX.TabS (upd H41 w6 (.lst (([.ref f0, .ref f1, .ref f2, .ref f3, .ref f4, .ref f5, .ref f6, .ref f7] : List V) ++ [.ref f8]))) tL qn := tabS_put (d := w6) T41 xw (fun z => by
        obtain ⟨ps, e, _⟩ := id T41
        rw [z, hw41] at e
        cases e) fun b o nb e => by
          rw [upd_ne nb]
          exact e
      have kit42 := kit38.lam ne g42 T42
      have ls42 := (ls38.gr (tG kit38) g42).cons (L8.mono fun b φ e => by
        rw [upd_ne (xw b φ e)]
        exact e)
      have hw42 : (upd H41 w6 (.lst (([.ref f0, .ref f1, .ref f2, .ref f3, .ref f4, .ref f5, .ref f6, .ref f7] : List V) ++ [.ref f8]))) w6 = some (.lst ([.ref f0, .ref f1, .ref f2, .ref f3, .ref f4, .ref f5, .ref f6, .ref f7, .ref f8] : List V)) := upd_same
      generalize upd H41 w6 (.lst (([.ref f0, .ref f1, .ref f2, .ref f3, .ref f4, .ref f5, .ref f6, .ref f7] : List V) ++ [.ref f8])) = H42 at kit42 ls42 hw42 ⊢
      clear L8 n8 g42 T42 xw hw41 ls41 kit41 T41 g41 kit40 ls40 hw40 kit38 ls38 nw6 sy6
      have nosz : NumsOk ms zs := ⟨by omega, hz⟩
      have hat1 : at' ≤ 41 := by
        rw [List.length_map] at hat
        omega
      have npl : ¬ (0 ≤ pl ∧ pl < (many : Int)) := by omega
      generalize hσw : [some (.ref a), some (.ref d), some (.ref t), some (.int (many : Int)), some (.ref m), y5', some (.ref w6), y7, y8, some (.int (at' : Int)), some (.ref lb), some (.int (bg : Int)), some (.ref x), some (.ref lh), some (.ref ln), some (.ref od), some (.ref lo), some (.int pl), some (.int (0 + (i : Int))), none] = σw
      have wd0 : WordS (lawX P w K mg base f cL A outer s H E) 5 CN CO σw (.str "such") H42 (.ref f0) := wd_x (ls42 (f0, F0) (by repeat (first | exact List.mem_cons_self | apply List.mem_cons_of_mem))) W0 fun H' Q E s e => by
        subst hσw
        exact ⟨.ref x, rfl, .int (bg : Int), rfl, .ref lh, rfl, lh, _, 0, _, rfl, rfl, SqL.of (s _ _ kit42.hd), atI_nat (j := 0) rfl, x, h0, many, ms, bs, bg, rfl, kit42.ch.same s, s _ _ kit42.hd0, bad, l8, e⟩
      have wd1 : WordS (lawX P w K mg base f cL A outer s H E) 5 CN CO σw (.str "such") H42 (.ref f1) := wd_x (ls42 (f1, F1) (by repeat (first | exact List.mem_cons_self | apply List.mem_cons_of_mem))) W1 fun H' Q E s e => by
        subst hσw
        exact ⟨.ref x, rfl, .int pl, rfl, .ref ln, rfl, x, ln, many, ms, zs, pl, rfl, kit42.ch.same s, s _ _ kit42.num, nosz, l8, m6, npl, log_small (Nat.le_trans hp2 (by decide)), e⟩
      have wd2 : WordS (lawX P w K mg base f cL A outer s H E) 5 CN CO σw (.str "such") H42 (.ref f2) := wd_x (ls42 (f2, F2) (by repeat (first | exact List.mem_cons_self | apply List.mem_cons_of_mem))) W2 fun H' Q E s e => by
        subst hσw
        exact ⟨.ref x, rfl, .int pl, rfl, .ref lb, rfl, x, lb, many, ms, bs, pl, rfl, kit42.ch.same s, s _ _ kit42.bad, bad, l8, e⟩
      have wd3 : WordS (lawX P w K mg base f cL A outer s H E) 5 CN CO σw (.str "such") H42 (.ref f3) := wd_x (ls42 (f3, F3) (by repeat (first | exact List.mem_cons_self | apply List.mem_cons_of_mem))) W3 fun H' Q E s e => by
        subst hσw
        exact ⟨.ref x, rfl, .ref lb, rfl, x, lb, many, ms, bs, rfl, kit42.ch.same s, s _ _ kit42.bad, bad, l8, e⟩
      have wd4 : WordS (lawX P w K mg base f cL A outer s H E) 5 CN CO σw (.str "such") H42 (.ref f4) := wd_x (ls42 (f4, F4) (by repeat (first | exact List.mem_cons_self | apply List.mem_cons_of_mem))) W4 fun H' Q E s e => by
        subst hσw
        exact ⟨.ref x, rfl, .ref lb, rfl, x, lb, many, ms, bs, rfl, kit42.ch.same s, s _ _ kit42.bad, bad, l8, m6, e⟩
      have wd5 : WordS (lawX P w K mg base f cL A outer s H E) 5 CN CO σw (.str "such") H42 (.ref f5) := wd_x (ls42 (f5, F5) (by repeat (first | exact List.mem_cons_self | apply List.mem_cons_of_mem))) W5 fun H' Q E s e => by
        subst hσw
        exact ⟨.ref x, rfl, .ref lb, rfl, x, lb, many, ms, bs, rfl, kit42.ch.same s, s _ _ kit42.bad, bad, l8, e⟩
      have wd6 : WordS (lawX P w K mg base f cL A outer s H E) 5 CN CO σw (.str "such") H42 (.ref f6) := wd_x (ls42 (f6, F6) (by repeat (first | exact List.mem_cons_self | apply List.mem_cons_of_mem))) W6 fun H' Q E s e => by
        subst hσw
        exact ⟨.ref x, rfl, .ref od, rfl, .ref lb, rfl, x, od, lb, many, ms, ods, rfl, kit42.ch.same s, G, s _ _ kit42.odd, noo, e⟩
      have wd7 : WordS (lawX P w K mg base f cL A outer s H E) 5 CN CO σw (.str "such") H42 (.ref f7) := wd_x (ls42 (f7, F7) (by repeat (first | exact List.mem_cons_self | apply List.mem_cons_of_mem))) W7 fun H' Q E s e => by
        subst hσw
        exact ⟨.ref x, rfl, .ref od, rfl, .ref ln, rfl, x, od, ln, many, ms, ods, rfl, kit42.ch.same s, G, s _ _ kit42.odd, noo, e⟩
      have shr : ∃ n : Int, atI ([V.int 21, .int (0 - 1), .int (21 + (at' : Int)), .int (0 - 9 - (at' : Int))] : List V) ((0 + (i : Int)) % 4) = some (.int n) ∧ ¬ (0 ≤ n ∧ n < 21) ∧ n.natAbs ≤ 2000000 := by
        obtain ⟨j, hj, ej⟩ : ∃ j : Nat, j < 4 ∧ (0 + (i : Int)) % 4 = (j : Int) := ⟨i % 4, by omega, by omega⟩
        rw [ej]
        match j, hj with
        | 0, _ => exact ⟨_, atI_nat (j := 0) rfl, by omega, by omega⟩
        | 1, _ => exact ⟨_, atI_nat (j := 1) rfl, by omega, by omega⟩
        | 2, _ => exact ⟨_, atI_nat (j := 2) rfl, by omega, by omega⟩
        | 3, _ => exact ⟨_, atI_nat (j := 3) rfl, by omega, by omega⟩
      obtain ⟨sh, esh, nsh, lsh⟩ := shr
      have wd8 : WordS (lawX P w K mg base f cL A outer s H E) 5 CN CO σw (.str "such") H42 (.ref f8) := wd_x (ls42 (f8, F8) (by repeat (first | exact List.mem_cons_self | apply List.mem_cons_of_mem))) W8 fun H' Q E s e => by
        subst hσw
        exact ⟨.ref x, rfl, _, _, rfl, rfl, .int (at' : Int), rfl, _, _, rfl, rfl, _, _, rfl, rfl, .int (at' : Int), rfl, _, _, rfl, rfl, (by show 4 ≤ sizeLine; decide), fun sl nsl => ⟨.int (0 + (i : Int)), rfl, _, _, rfl, rfl, (by show (0 : Int) < 4; decide), sl, _, _, _, rfl, rfl, SqL.of upd_same, esh, x, sh, rfl, nsh, lsh, fun H'' s2 => e _ ((same_new nsl).trans s2)⟩⟩
      have words : ∀ (j : Nat) (v : V), ([.ref f0, .ref f1, .ref f2, .ref f3, .ref f4, .ref f5, .ref f6, .ref f7, .ref f8] : List V)[j]? = some v → WordS (lawX P w K mg base f cL A outer s H E) 5 CN CO σw (.str "such") H42 v := fun j v hv => by
        match j, hv with
        | 0, hv =>
          cases hv
          exact wd0
        | 1, hv =>
          cases hv
          exact wd1
        | 2, hv =>
          cases hv
          exact wd2
        | 3, hv =>
          cases hv
          exact wd3
        | 4, hv =>
          cases hv
          exact wd4
        | 5, hv =>
          cases hv
          exact wd5
        | 6, hv =>
          cases hv
          exact wd6
        | 7, hv =>
          cases hv
          exact wd7
        | 8, hv =>
          cases hv
          exact wd8
      subst hσw
      clear wd0 wd1 wd2 wd3 wd4 wd5 wd6 wd7 wd8 W0 W1 W2 W3 W4 W5 W6 W7 W8 ls42
      refine ⟨.ref w6, rfl, w6, rfl, ⟨_, SqL.of hw42⟩, fun D nD => ?_⟩
      refine lc_list (K := K) (a := w6) (g := gName 19) (tt := tYes) (te := (fun σ9 H9 Q9 => (tVar 19) σ9 H9 fun v H1 => WdIs (lawX P w K mg base f cL A outer s H E) 5 CN CO [some (.ref a), some (.ref d), some (.ref t), some (.int (many : Int)), some (.ref m), y5', some (.ref w6), y7, y8, some (.int (at' : Int)), some (.ref lb), some (.int (bg : Int)), some (.ref x), some (.ref lh), some (.ref ln), some (.ref od), some (.ref lo), some (.int pl), some (.int (0 + (i : Int))), none] v H1 Q9)) (xs := ([.ref f0, .ref f1, .ref f2, .ref f3, .ref f4, .ref f5, .ref f6, .ref f7, .ref f8] : List V)) (fun e H' => Same H42 H' ∧ H' D = some (.lst (List.replicate e (V.str "such")))) ⟨same_new nD, upd_same⟩ (fun e H' _ h => SqL.of (h.1 _ _ hw42)) ?_ ?_
      · rintro e v H43 hv ⟨s43, hD43⟩
        have e9 : e < 9 := (List.getElem?_eq_some_iff.mp hv).1
        refine ⟨rfl, v, rfl, words e v hv H43 _ s43 fun H44 s44 => ⟨_, s44 _ _ hD43, lt1k (by rw [List.length_replicate]; omega), fun b u eb => ?_, ?_⟩⟩
        · rw [upd_ne (ne_of_none eb nD)]
          exact s44 _ _ (s43 _ _ eb)
        · rw [upd_same, List.replicate_succ']
      rintro H43 ⟨s43, hD43⟩
      have hD43 : H43 D = some (.lst (List.replicate 9 (V.str "such"))) := hD43
      clear words
      refine ⟨(by show 1 ≤ sizeLine; decide), fun q1 nq1 => ⟨q1, 9, _, rfl, rfl, upd_same, by decide, by decide, (by show 1 * 9 ≤ sizeLine; decide), fun q2 nq2 => ?_⟩⟩
      have s44 := (same_new (o := .lst [V.str "such"]) nq1).trans (same_new (o := .lst (List.replicate (9 : Int).toNat [V.str "such"]).flatten) nq2)
      have hq2 : (upd (upd H43 q1 (.lst [V.str "such"])) q2 (.lst (List.replicate (9 : Int).toNat [V.str "such"]).flatten)) q2 = some (.lst (List.replicate 9 (V.str "such"))) := upd_same
      refine ne_same (n := 1) (.lst (SqL.of (s44 _ _ hD43)) (dp_strs _ 9)) (.lst (SqL.of hq2) (dp_strs _ 9)) (sh_strs 9) (by decide) ⟨false, rfl, iteF ?_⟩
      refine ⟨.ref lh, rfl, .ref lb, rfl, .ref lo, rfl, (by show 2 ≤ sizeLine; decide), fun q3 nq3 => ?_⟩
      have kit45 := kit42.same ((s43.trans s44).trans (same_new (o := .lst [.ref lb, .ref lo]) nq3))
      refine ne_same (d := lsD [bs, ord]) (n := 2) (.lst (SqL.of kit45.hd) (.cons (dp_lst kit45.hd0) (.cons (dp_lst kit45.hd1) .nil))) (.lst (SqL.of upd_same) (.cons (dp_lst kit45.bad) (.cons (dp_lst kit45.ord) .nil))) (Sh.lists _) (by decide) ⟨false, rfl, iteF ?_⟩
      generalize upd (upd (upd H43 q1 (.lst [V.str "such"])) q2 (.lst (List.replicate (9 : Int).toNat [V.str "such"]).flatten)) q3 (.lst [.ref lb, .ref lo]) = H45 at kit45 ⊢
      clear hq2 s44 nq1 nq2 nq3 hD43 s43 kit42 hw42 nD
      -- an order that is one
      refine ⟨.ref m, rfl, .ref lo, rfl, m, lo, many, ws, ms, ord, rfl, kit45.mv, kit45.mvs, G, kit45.ord, ho, fun H46 s46 => ?_⟩
      have kit46 := kit45.same s46
      clear kit45 s46
      show gName 7 _ _ H46 _
      refine ⟨kit46.tabL, fun g0 G0 H47 g47 T47 n0 L0 W0 => ?_⟩
      have kit47 := kit46.lam ne g47 T47
      have wd0 : WordS (lawX P w K mg base f cL A outer s H E) 5 CN CO [some (.ref a), some (.ref d), some (.ref t), some (.int (many : Int)), some (.ref m), y5', some (.ref w6), some (fbV ms ord), y8, some (.int (at' : Int)), some (.ref lb), some (.int (bg : Int)), some (.ref x), some (.ref lh), some (.ref ln), some (.ref od), some (.ref lo), some (.int pl), some (.int (0 + (i : Int))), none] (wordV ms ord) H47 (.ref g0) := fun H' Q s q => ⟨g0, G0, _, _, rfl, L0.mono fun b φ e => s b _ e, W0, fun E hE => by
        cases hf : fbN ms ord with
        | some k =>
          have e2 : wordV ms ord = .int k := by unfold wordV; rw [hf]
          rw [e2] at q
          exact ⟨.ref x, rfl, .ref lo, rfl, .ref lb, rfl, .inl ⟨x, lo, lb, many, ms, ord, k, rfl, kit47.ch.same s, G, s _ _ kit47.ord, ho, hf, fun d2 H2 s2 hd2 => hE _ _ _ (.inr ⟨rfl, d2, k, rfl, hd2, fun H3 s3 => q _ (s2.trans s3)⟩)⟩⟩
        | none =>
          have e2 : wordV ms ord = .str "such" := by unfold wordV; rw [hf]
          rw [e2] at q
          exact ⟨.ref x, rfl, .ref lo, rfl, .ref lb, rfl, .inr ⟨x, lo, lb, many, ms, ord, bs, rfl, kit47.ch.same s, G, s _ _ kit47.ord, ho, s _ _ kit47.bad, bad, hf, fun H2 s2 => hE _ _ _ (.inl ⟨rfl, rfl, fun H3 s3 => q _ (s2.trans s3)⟩)⟩⟩⟩
      refine wd0 H47 _ (Same.refl _) fun H48 s48 => ?_
      clear wd0 L0 W0
      refine ⟨(kit47.same s48).tabL, fun g1 G1 H49 g49 T49 n1 L1 W1 => ?_⟩
      have kit49 := (kit47.same s48).lam ne g49 T49
      have wd1 : WordS (lawX P w K mg base f cL A outer s H E) 5 CN CO [some (.ref a), some (.ref d), some (.ref t), some (.int (many : Int)), some (.ref m), y5', some (.ref w6), some (fbV ms ord), y8, some (.int (at' : Int)), some (.ref lb), some (.int (bg : Int)), some (.ref x), some (.ref lh), some (.ref ln), some (.ref od), some (.ref lo), some (.int pl), some (.int (0 + (i : Int))), none] (fbV ms ord) H49 (.ref g1) := fun H' Q s q => ⟨g1, G1, _, _, rfl, L1.mono fun b φ e => s b _ e, W1, fun E hE => by
        cases hf : fbN ms ord with
        | some k =>
          have e2 : fbV ms ord = .int k := by unfold fbV; rw [hf]
          rw [e2] at q
          exact ⟨.ref x, rfl, .ref lo, rfl, .ref ln, rfl, .inl ⟨x, lo, ln, many, ms, ord, k, rfl, kit49.ch.same s, G, s _ _ kit49.ord, ho, hf, fun d2 H2 s2 hd2 => hE _ _ _ (.inr ⟨rfl, d2, k, rfl, hd2, fun H3 s3 => q _ (s2.trans s3)⟩)⟩⟩
        | none =>
          have e2 : fbV ms ord = .non := by unfold fbV; rw [hf]
          rw [e2] at q
          exact ⟨.ref x, rfl, .ref lo, rfl, .ref ln, rfl, .inr ⟨x, lo, ln, many, ms, ord, zs, rfl, kit49.ch.same s, G, s _ _ kit49.ord, ho, s _ _ kit49.num, nosz, hf, fun _ H2 s2 _ => q _ s2⟩⟩⟩
      refine wd1 H49 _ (Same.refl _) fun H50 s50 => ⟨(by show 2 ≤ sizeLine; decide), fun wl nwl => ?_⟩
      have kit51 := (kit49.same s50).same (same_new (o := .lst [wordV ms ord, fbV ms ord]) nwl)
      have hwl : (upd H50 wl (.lst [wordV ms ord, fbV ms ord])) wl = some (.lst [wordV ms ord, fbV ms ord]) := upd_same
      show gName 8 _ _ (upd H50 wl (.lst [wordV ms ord, fbV ms ord])) _
      generalize upd H50 wl (.lst [wordV ms ord, fbV ms ord]) = H51 at kit51 hwl ⊢
      clear wd1 L1 W1 n0 n1 nwl kit46 kit47 kit49 s48 s50 g47 g49 T47 T49
      refine cmp_words rfl rfl hwl fun H52 s52 => ⟨false, rfl, iteF ?_⟩
      have kit52 := kit51.same s52
      clear kit51 hwl s52
      -- works that are done
      refine ⟨kit52.tabL, fun e10 E10 H53 g53 T53 n0 L0 W0 => ?_⟩
      have kit53 := kit52.lam ne g53 T53
      have ls53 := Lams.nil.cons L0
      refine ⟨T53, fun e11 E11 H54 g54 T54 n1 L1 W1 => ⟨(by show 2 ≤ sizeLine; decide), fun v1 nv1 => ?_⟩⟩
      have sv1 := same_new (o := .lst [.ref e10, .ref e11]) nv1
      have kit54 := (kit53.lam ne g54 T54).same sv1
      have ls54 := ((ls53.gr (tG kit53) g54).cons L1).same sv1
      have hv1 : (upd H54 v1 (.lst [.ref e10, .ref e11])) v1 = some (.lst [.ref e10, .ref e11]) := upd_same
      show gName 6 _ _ (upd H54 v1 (.lst [.ref e10, .ref e11])) _
      generalize upd H54 v1 (.lst [.ref e10, .ref e11]) = H55 at kit54 ls54 hv1 ⊢
      clear L0 n0 L1 n1 nv1 sv1 g53 g54 T53 T54 kit52 kit53 ls53
      refine ⟨.ref v1, rfl, kit54.tabL, fun e12 E12 H56 g56 T56 n2 L2' W2 => ?_⟩
      have kit56 := kit54.lam ne g56 T56
      have ls56 := (ls54.gr (tG kit54) g56).cons L2'
      have hv56 := Gr.tab (tG kit54) g56 nt hv1
      refine ⟨T56, fun e13 E13 H57 g57 T57 n3 L3 W3 => ⟨(by show 2 ≤ sizeLine; decide), fun z1 nz1 => ?_⟩⟩
      have sz := same_new (o := .lst [.ref e12, .ref e13]) nz1
      have kit57 := (kit56.lam ne g57 T57).same sz
      have ls57 := ((ls56.gr (tG kit56) g57).cons L3).same sz
      have hv57 := sz _ _ (Gr.tab (tG kit56) g57 nt hv56)
      have hz1 : (upd H57 z1 (.lst [.ref e12, .ref e13])) z1 = some (.lst [.ref e12, .ref e13]) := upd_same
      generalize upd H57 z1 (.lst [.ref e12, .ref e13]) = H58 at kit57 ls57 hv57 hz1 ⊢
      refine ⟨v1, z1, _, _, rfl, rfl, hv57, hz1, le1k (by show 4 ≤ 1000; decide), fun v2 nv2 => ?_⟩
      have sy := same_new (o := .lst ([.ref e10, .ref e11, .ref e12, .ref e13] : List V)) nv2
      have kit59 := kit57.same sy
      have ls59 := ls57.same sy
      have hv59 : (upd H58 v2 (.lst ([.ref e10, .ref e11, .ref e12, .ref e13] : List V))) v2 = some (.lst ([.ref e10, .ref e11, .ref e12, .ref e13] : List V)) := upd_same
      show gName 6 _ _ (upd H58 v2 (.lst ([.ref e10, .ref e11, .ref e12, .ref e13] : List V))) _
      generalize upd H58 v2 (.lst ([.ref e10, .ref e11, .ref e12, .ref e13] : List V)) = H59 at kit59 ls59 hv59 ⊢
      clear L2' n2 L3 n3 nz1 sz g56 g57 T56 T57 kit54 kit56 kit57 ls54 ls56 ls57 hv1 hv56 hv57 hz1 nv2 sy
      generalize hσw : [some (.ref a), some (.ref d), some (.ref t), some (.int (many : Int)), some (.ref m), y5', some (.ref v2), some (fbV ms ord), some (.ref wl), some (.int (at' : Int)), some (.ref lb), some (.int (bg : Int)), some (.ref x), some (.ref lh), some (.ref ln), some (.ref od), some (.ref lo), some (.int pl), some (.int (0 + (i : Int))), none] = σw
      have wd0 : WordS (lawX P w K mg base f cL A outer s H E) 5 CN CO σw .non H59 (.ref e10) := wd_n (ls59 (e10, E10) (by repeat (first | exact List.mem_cons_self | apply List.mem_cons_of_mem))) W0 fun H' Q E s e => by
        subst hσw
        exact ⟨.ref x, rfl, .int (bg : Int), rfl, .ref ln, rfl, x, ln, many, ms, zs, bg, rfl, kit59.ch.same s, G, s _ _ kit59.num, nosz, by omega, hbg, fun e' H2 s2 _ => e _ H2 s2⟩
      have wd1 : WordS (lawX P w K mg base f cL A outer s H E) 5 CN CO σw .non H59 (.ref e11) := wd_n (ls59 (e11, E11) (by repeat (first | exact List.mem_cons_self | apply List.mem_cons_of_mem))) W1 fun H' Q E s e => by
        subst hσw
        exact ⟨.ref x, rfl, .ref ln, rfl, x, ln, many, ms, zs, rfl, kit59.ch.same s, G, s _ _ kit59.num, nosz, fun e' H2 s2 _ => e _ H2 s2⟩
      have wd2 : WordS (lawX P w K mg base f cL A outer s H E) 5 CN CO σw .non H59 (.ref e12) := wd_n (ls59 (e12, E12) (by repeat (first | exact List.mem_cons_self | apply List.mem_cons_of_mem))) W2 fun H' Q E s e => by
        subst hσw
        exact ⟨.ref x, rfl, .ref ln, rfl, x, ln, many, ms, zs, rfl, kit59.ch.same s, G, s _ _ kit59.num, nosz, fun v H2 s2 _ => e _ H2 s2⟩
      have wd3 : WordS (lawX P w K mg base f cL A outer s H E) 5 CN CO σw .non H59 (.ref e13) := wd_n (ls59 (e13, E13) (by repeat (first | exact List.mem_cons_self | apply List.mem_cons_of_mem))) W3 fun H' Q E s e => by
        subst hσw
        exact ⟨.ref x, rfl, .ref ln, rfl, x, ln, many, ms, zs, rfl, kit59.ch.same s, G, s _ _ kit59.num, nosz, fun t2 H2 tr s2 _ _ => e _ H2 s2⟩
      have words : ∀ (j : Nat) (v : V), ([.ref e10, .ref e11, .ref e12, .ref e13] : List V)[j]? = some v → WordS (lawX P w K mg base f cL A outer s H E) 5 CN CO σw .non H59 v := fun j v hv => by
        match j, hv with
        | 0, hv =>
          cases hv
          exact wd0
        | 1, hv =>
          cases hv
          exact wd1
        | 2, hv =>
          cases hv
          exact wd2
        | 3, hv =>
          cases hv
          exact wd3
      subst hσw
      clear wd0 wd1 wd2 wd3 W0 W1 W2 W3 ls59
      refine ⟨.ref v2, rfl, v2, rfl, ⟨_, SqL.of hv59⟩, fun D nD => ?_⟩
      refine lc_list (K := K) (a := v2) (g := gName 19) (tt := tTest (tOp (fun x y H9 Q9 => y = .non ∧ Q9 (.bl (!decide (x = .non))) H9) (fun σ9 H9 Q9 => (tVar 19) σ9 H9 fun v H1 => WdIs (lawX P w K mg base f cL A outer s H E) 5 CN CO [some (.ref a), some (.ref d), some (.ref t), some (.int (many : Int)), some (.ref m), y5', some (.ref v2), some (fbV ms ord), some (.ref wl), some (.int (at' : Int)), some (.ref lb), some (.int (bg : Int)), some (.ref x), some (.ref lh), some (.ref ln), some (.ref od), some (.ref lo), some (.int pl), some (.int (0 + (i : Int))), none] v H1 Q9) (tC .non))) (te := tVar 19) (xs := ([.ref e10, .ref e11, .ref e12, .ref e13] : List V)) (fun _ H' => Same H59 H' ∧ H' D = some (.lst [])) ⟨same_new nD, upd_same⟩ (fun e H' _ h => SqL.of (h.1 _ _ hv59)) ?_ ?_
      · rintro e v H60 hv ⟨s60, hD60⟩
        exact ⟨rfl, v, rfl, words e v hv H60 _ s60 fun H61 s61 => ⟨rfl, false, by simp, iteF ⟨s60.trans s61, s61 _ _ hD60⟩⟩⟩
      rintro H60 ⟨s60, hD60⟩
      refine ⟨(by show 0 ≤ sizeLine; decide), fun q1 nq1 => ?_⟩
      have s61 := same_new (o := .lst []) nq1
      have kit61 := kit59.same (s60.trans s61)
      refine ne_same (n := 1) (d := .list []) (.lst (SqL.of (s61 _ _ hD60)) .nil) (.lst (SqL.of upd_same) .nil) (Sh.lst []) (by decide) ⟨false, rfl, iteF ?_⟩
      exact ⟨_, _, _, _, _, _, _, _, _, _, _, _, _, _, _, _, _, rfl, kit61.dc, kit61.tabL, kit61.tabM⟩
    · rintro σ H2 ⟨y2, y3, y4, y5, y6, y7, y8, y9, y10, y11, y12, y13, y14, y15, y16, y17, y18, rfl, hD2, hT2, hM2⟩
      exact q _
end
/-! ### the end: the table of the generator's def -/
def TabOf (nm : Str) (mg : Str → Option Value) (h : Heap) : Prop := ∃ (a' : Addr) (o' : Obj) (fd' : FuncData) (c' P' : Addr) (oc : Obj) (vc : Array Value), mg nm = some (.ref a') ∧ h.get? a' = some o' ∧ o'.data = .func fd' ∧ fd'.code = .ref c' ∧
  h.get? c' = some oc ∧ oc.data = .fields vc ∧ vc[11]? = some (.ref P') ∧ h.get? P' = some { cls := .none, data := .fields #[] }
theorem walk_tab {l : PySem.W.OpenLaw} {n k : Nat} {q : Program} {loose : List Str} {XP : (Str → Option Value) → Heap → Prop} {YP : World → Heap → Prop} {d : DefRec} {K : Params → PySem.W.Frag} {CX : World → CXT} {x : Str} (nm : Str)
    (hn : l.most = some n) (hn2 : n ≤ sizeLine) (hdf : d.params.defaults = []) (hr : Room k callerA) (hrec : ((recsOf q).any fun e => e.name == nm) = true) (hY : ∀ (w : World) (h : Heap), YP w h → (K w.params).In h)
    (F : ∀ (w : World) (mg : Str → Option Value) (fa : Addr) (h : Heap), (K w.params).In h → h.Ns mainGlobals mg → mg d.name = some (.ref fa) → TabOf nm mg h → LamX.LawAtS l w (K w.params) (CX w) k n x mg fa h)
    (hCX : ∀ (w : World) (H : Hp) (s : Shared) (e : Value) (s' : Shared), CX w [] H s (fun _ _ _ => False) e s' → False) :
    PySem.W.WalkO q loose XP YP l.row.toRowW d [] (fun f vs => PySem.call f vs) := by
  refine Att.attach_callB hn hdf fun w s₀ s₁ mg mb fa o pm cd doc a vs ns G Y ho hd hcd hmg hobj hints hlen hbits hg => ?_
  obtain ⟨dL, m1, m2⟩ := List.any_eq_true.mp hrec
  obtain ⟨a', o', fd', c', P', g1, g2, g3, g4, _, ⟨oc, vc, e1, e2, e3, e4⟩, e5⟩ := G.T.tab dL m1
  rw [beq_iff_eq.mp m2] at g1
  have TO : TabOf nm mg s₁.heap := ⟨a', o', fd', c', P', oc, vc, g1, g2, g3, g4, e1, e3, e4, e5⟩
  obtain ⟨fd, cs, sp, hT, nT, Cd, hb, hsp, hF⟩ := F w mg fa _ (hY w _ Y) G.T.g hmg TO
  exact LamX.law_callTs (hY w _ Y) G.T.g G.T.b G.T.builtins G.T.nolimit hg hT nT Cd G.T.bmain hobj hints (Nat.le_trans hlen hn2) hr hF hb (fun H hH hS => hsp H a ns hlen hbits hH hS) fun H e s' => hCX w H s₁ e s'
theorem walk_tab2 {l : PySem.W.OpenLaw} {n k : Nat} {q : Program} {loose : List Str} {XP : (Str → Option Value) → Heap → Prop} {YP : World → Heap → Prop} {d : DefRec} {K : Params → PySem.W.Frag} {CX : World → CXT} {x : Str} (nm nm2 : Str)
    (hn : l.most = some n) (hn2 : n ≤ sizeLine) (hdf : d.params.defaults = []) (hr : Room k callerA) (hrec : ((recsOf q).any fun e => e.name == nm) = true) (hrec2 : ((recsOf q).any fun e => e.name == nm2) = true) (hY : ∀ (w : World) (h : Heap), YP w h → (K w.params).In h)
    (F : ∀ (w : World) (mg : Str → Option Value) (fa : Addr) (h : Heap), (K w.params).In h → h.Ns mainGlobals mg → mg d.name = some (.ref fa) → TabOf nm mg h → TabOf nm2 mg h → LamX.LawAtS l w (K w.params) (CX w) k n x mg fa h)
    (hCX : ∀ (w : World) (H : Hp) (s : Shared) (e : Value) (s' : Shared), CX w [] H s (fun _ _ _ => False) e s' → False) :
    PySem.W.WalkO q loose XP YP l.row.toRowW d [] (fun f vs => PySem.call f vs) := by
  refine Att.attach_callB hn hdf fun w s₀ s₁ mg mb fa o pm cd doc a vs ns G Y ho hd hcd hmg hobj hints hlen hbits hg => ?_
  have tabs : ∀ {z : Str}, ((recsOf q).any fun e => e.name == z) = true → TabOf z mg s₁.heap := fun {z} hz => by
    obtain ⟨dL, m1, m2⟩ := List.any_eq_true.mp hz
    obtain ⟨a', o', fd', c', P', g1, g2, g3, g4, _, ⟨oc, vc, e1, e2, e3, e4⟩, e5⟩ := G.T.tab dL m1
    rw [beq_iff_eq.mp m2] at g1
    exact ⟨a', o', fd', c', P', oc, vc, g1, g2, g3, g4, e1, e3, e4, e5⟩
  obtain ⟨fd, cs, sp, hT, nT, Cd, hb, hsp, hF⟩ := F w mg fa _ (hY w _ Y) G.T.g hmg (tabs hrec) (tabs hrec2)
  exact LamX.law_callTs (hY w _ Y) G.T.g G.T.b G.T.builtins G.T.nolimit hg hT nT Cd G.T.bmain hobj hints (Nat.le_trans hlen hn2) hr hF hb (fun H hH hS => hsp H a ns hlen hbits hH hS) fun H e s' => hCX w H s₁ e s'
/-! ### what the top has written -/
set_option maxHeartbeats 0 in
theorem all_mk {l : PySem.W.OpenLaw} {w : World} {K : PySem.W.Frag} {h : Heap} {mg : Str → Option Value} {fa : Addr} (X : K.In h) (G : h.Ns mainGlobals mg) (hfa : mg "law" = some (.ref fa)) (TO_is_move : TabOf "_is_move" mg h) (TO_law : TabOf "law" mg h)
    {f_steps_of : Addr} {od_steps_of an_steps_of : Option Addr} {sl_steps_of : Array (Option Value)} {oc_steps_of kV_steps_of dc_steps_of pm_steps_of ct_steps_of cd_steps_of : Value}
    {f_walked : Addr} {od_walked an_walked : Option Addr} {sl_walked : Array (Option Value)} {oc_walked kV_walked dc_walked pm_walked ct_walked cd_walked : Value}
    {f_together : Addr} {od_together an_together : Option Addr} {sl_together : Array (Option Value)} {oc_together kV_together dc_together pm_together ct_together cd_together : Value}
    {f_ends : Addr} {od_ends an_ends : Option Addr} {sl_ends : Array (Option Value)} {oc_ends kV_ends dc_ends pm_ends ct_ends cd_ends : Value}
    {f_drawn : Addr} {od_drawn an_drawn : Option Addr} {sl_drawn : Array (Option Value)} {oc_drawn kV_drawn dc_drawn pm_drawn ct_drawn cd_drawn : Value}
    {f_drawn_from : Addr} {od_drawn_from an_drawn_from : Option Addr} {sl_drawn_from : Array (Option Value)} {oc_drawn_from kV_drawn_from dc_drawn_from pm_drawn_from ct_drawn_from cd_drawn_from : Value}
    {f_are_one : Addr} {od_are_one an_are_one : Option Addr} {sl_are_one : Array (Option Value)} {oc_are_one kV_are_one dc_are_one pm_are_one ct_are_one cd_are_one : Value}
    {f_tries : Addr} {od_tries an_tries : Option Addr} {sl_tries : Array (Option Value)} {oc_tries kV_tries dc_tries pm_tries ct_tries cd_tries : Value}
    {f_by_ends : Addr} {od_by_ends an_by_ends : Option Addr} {sl_by_ends : Array (Option Value)} {oc_by_ends kV_by_ends dc_by_ends pm_by_ends ct_by_ends cd_by_ends : Value}
    {f_first_breaking : Addr} {od_first_breaking an_first_breaking : Option Addr} {sl_first_breaking : Array (Option Value)} {oc_first_breaking kV_first_breaking dc_first_breaking pm_first_breaking ct_first_breaking cd_first_breaking : Value}
    {f_keeps : Addr} {od_keeps an_keeps : Option Addr} {sl_keeps : Array (Option Value)} {oc_keeps kV_keeps dc_keeps pm_keeps ct_keeps cd_keeps : Value}
    {f_fraction : Addr} {od_fraction an_fraction : Option Addr} {sl_fraction : Array (Option Value)} {oc_fraction kV_fraction dc_fraction pm_fraction ct_fraction cd_fraction : Value}
    {f_everywhere : Addr} {od_everywhere an_everywhere : Option Addr} {sl_everywhere : Array (Option Value)} {oc_everywhere kV_everywhere dc_everywhere pm_everywhere ct_everywhere cd_everywhere : Value}
    {f_led_to : Addr} {od_led_to an_led_to : Option Addr} {sl_led_to : Array (Option Value)} {oc_led_to kV_led_to dc_led_to pm_led_to ct_led_to cd_led_to : Value}
    {f_is_move : Addr} {od_is_move an_is_move : Option Addr} {sl_is_move : Array (Option Value)} {oc_is_move kV_is_move dc_is_move pm_is_move ct_is_move : Value}
    {cM_is_move tM_is_move : Addr} {eM_is_move : Value} {ddM_is_move : Option Addr} {vsM_is_move : Array Value} {slM_is_move : Array (Option Value)}
    {f_shares : Addr} {od_shares an_shares : Option Addr} {sl_shares : Array (Option Value)} {oc_shares kV_shares dc_shares pm_shares ct_shares cd_shares : Value}
    {f_behind_a_step : Addr} {od_behind_a_step an_behind_a_step : Option Addr} {sl_behind_a_step : Array (Option Value)} {oc_behind_a_step kV_behind_a_step dc_behind_a_step pm_behind_a_step ct_behind_a_step cd_behind_a_step : Value}
    {f_law_cell : Addr} {od_law_cell an_law_cell : Option Addr} {sl_law_cell : Array (Option Value)} {oc_law_cell kV_law_cell dc_law_cell pm_law_cell ct_law_cell cd_law_cell : Value}
    {f_law_dice : Addr} {od_law_dice an_law_dice : Option Addr} {sl_law_dice : Array (Option Value)} {oc_law_dice kV_law_dice dc_law_dice pm_law_dice ct_law_dice cd_law_dice : Value}
    {f_law_off : Addr} {od_law_off an_law_off : Option Addr} {sl_law_off : Array (Option Value)} {oc_law_off kV_law_off dc_law_off pm_law_off ct_law_off cd_law_off : Value}
    {f_law_chain : Addr} {od_law_chain an_law_chain : Option Addr} {sl_law_chain : Array (Option Value)} {oc_law_chain kV_law_chain dc_law_chain pm_law_chain ct_law_chain cd_law_chain : Value}
    {f_law_made : Addr} {od_law_made an_law_made : Option Addr} {sl_law_made : Array (Option Value)} {oc_law_made kV_law_made dc_law_made pm_law_made ct_law_made cd_law_made : Value}
    {f_law_numbers : Addr} {od_law_numbers an_law_numbers : Option Addr} {sl_law_numbers : Array (Option Value)} {oc_law_numbers kV_law_numbers dc_law_numbers pm_law_numbers ct_law_numbers cd_law_numbers : Value}
    {f_law_word : Addr} {od_law_word an_law_word : Option Addr} {sl_law_word : Array (Option Value)} {oc_law_word kV_law_word dc_law_word pm_law_word ct_law_word cd_law_word : Value}
    {f_law_far : Addr} {od_law_far an_law_far : Option Addr} {sl_law_far : Array (Option Value)} {oc_law_far kV_law_far dc_law_far pm_law_far ct_law_far cd_law_far : Value}
    {f_law_first_unkept : Addr} {od_law_first_unkept an_law_first_unkept : Option Addr} {sl_law_first_unkept : Array (Option Value)} {oc_law_first_unkept kV_law_first_unkept dc_law_first_unkept pm_law_first_unkept ct_law_first_unkept cd_law_first_unkept : Value}
    {f_law : Addr} {od_law an_law : Option Addr} {sl_law : Array (Option Value)} {oc_law kV_law dc_law pm_law ct_law : Value}
    {cM_law tM_law : Addr} {eM_law : Value} {ddM_law : Option Addr} {vsM_law : Array Value} {slM_law : Array (Option Value)}
    {C : Addr}
    {f_minit : Addr} {od_minit an_minit : Option Addr} {sl_minit : Array (Option Value)} {oc_minit kV_minit dc_minit pm_minit cd_minit ct_minit : Value}
    {f_mplaces : Addr} {od_mplaces an_mplaces : Option Addr} {sl_mplaces : Array (Option Value)} {oc_mplaces kV_mplaces dc_mplaces pm_mplaces cd_mplaces ct_mplaces : Value}
    {f_mtold : Addr} {od_mtold an_mtold : Option Addr} {sl_mtold : Array (Option Value)} {oc_mtold kV_mtold dc_mtold pm_mtold cd_mtold ct_mtold : Value}
    {tMOST_PLACES : Tok}
    {tMOST_MOVES : Tok}
    {tMOST_WEIGHT : Tok}
    {tMOST_FAR : Tok}
    {ALongError : Addr}
    {ABadChain : Addr}
    {ABadText : Addr}
    {ANoSuch : Addr}
    {ANotOne : Addr}
    {ANeverOne : Addr}
    {ANotOrdered : Addr}
    {ATooMany : Addr}
    {f_iNotOrdered cc_iNotOrdered cda_iNotOrdered : Addr} {od_iNotOrdered an_iNotOrdered cdd_iNotOrdered cld_iNotOrdered : Option Addr} {sl_iNotOrdered ccs_iNotOrdered csl_iNotOrdered : Array (Option Value)} {oc_iNotOrdered kV_iNotOrdered dc_iNotOrdered pm_iNotOrdered ct_iNotOrdered ccl_iNotOrdered cl_iNotOrdered : Value} {vs_iNotOrdered : Array Value} {fi_iNotOrdered : Str} {tf_iNotOrdered : Tok}
    (a_steps_of : PySem.W.nsIn K mainGlobals "steps_of" = some (some (.ref f_steps_of)))
    (l_steps_of : K.lookup f_steps_of = some ⟨oc_steps_of, od_steps_of, .func (PySem.W.fnOf "steps_of" "steps_of" (defArgs sStepsOf) (defBody sStepsOf) (defScope sStepsOf) .none kV_steps_of dc_steps_of pm_steps_of an_steps_of cd_steps_of ct_steps_of), sl_steps_of⟩)
    (c_steps_of : PySem.W.codeIn K cd_steps_of "steps_of" = true)
    (k_steps_of : PySem.W.keepIn K (.ref f_steps_of) = true)
    (a_walked : PySem.W.nsIn K mainGlobals "walked" = some (some (.ref f_walked)))
    (l_walked : K.lookup f_walked = some ⟨oc_walked, od_walked, .func (PySem.W.fnOf "walked" "walked" (defArgs sWalked) (defBody sWalked) (defScope sWalked) .none kV_walked dc_walked pm_walked an_walked cd_walked ct_walked), sl_walked⟩)
    (c_walked : PySem.W.codeIn K cd_walked "walked" = true)
    (k_walked : PySem.W.keepIn K (.ref f_walked) = true)
    (a_together : PySem.W.nsIn K mainGlobals "together" = some (some (.ref f_together)))
    (l_together : K.lookup f_together = some ⟨oc_together, od_together, .func (PySem.W.fnOf "together" "together" (defArgs sTogether) (defBody sTogether) (defScope sTogether) .none kV_together dc_together pm_together an_together cd_together ct_together), sl_together⟩)
    (c_together : PySem.W.codeIn K cd_together "together" = true)
    (k_together : PySem.W.keepIn K (.ref f_together) = true)
    (a_ends : PySem.W.nsIn K mainGlobals "_ends" = some (some (.ref f_ends)))
    (l_ends : K.lookup f_ends = some ⟨oc_ends, od_ends, .func (PySem.W.fnOf "_ends" "_ends" (defArgs sEnds) (defBody sEnds) (defScope sEnds) .none kV_ends dc_ends pm_ends an_ends cd_ends ct_ends), sl_ends⟩)
    (c_ends : PySem.W.codeIn K cd_ends "_ends" = true)
    (k_ends : PySem.W.keepIn K (.ref f_ends) = true)
    (a_drawn : PySem.W.nsIn K mainGlobals "drawn" = some (some (.ref f_drawn)))
    (l_drawn : K.lookup f_drawn = some ⟨oc_drawn, od_drawn, .func (PySem.W.fnOf "drawn" "drawn" (defArgs sDrawn) (defBody sDrawn) (defScope sDrawn) .none kV_drawn dc_drawn pm_drawn an_drawn cd_drawn ct_drawn), sl_drawn⟩)
    (c_drawn : PySem.W.codeIn K cd_drawn "drawn" = true)
    (k_drawn : PySem.W.keepIn K (.ref f_drawn) = true)
    (a_drawn_from : PySem.W.nsIn K mainGlobals "drawn_from" = some (some (.ref f_drawn_from)))
    (l_drawn_from : K.lookup f_drawn_from = some ⟨oc_drawn_from, od_drawn_from, .func (PySem.W.fnOf "drawn_from" "drawn_from" (defArgs sDrawnFrom) (defBody sDrawnFrom) (defScope sDrawnFrom) .none kV_drawn_from dc_drawn_from pm_drawn_from an_drawn_from cd_drawn_from ct_drawn_from), sl_drawn_from⟩)
    (c_drawn_from : PySem.W.codeIn K cd_drawn_from "drawn_from" = true)
    (k_drawn_from : PySem.W.keepIn K (.ref f_drawn_from) = true)
    (a_are_one : PySem.W.nsIn K mainGlobals "_are_one" = some (some (.ref f_are_one)))
    (l_are_one : K.lookup f_are_one = some ⟨oc_are_one, od_are_one, .func (PySem.W.fnOf "_are_one" "_are_one" (defArgs sAreOne) (defBody sAreOne) (defScope sAreOne) .none kV_are_one dc_are_one pm_are_one an_are_one cd_are_one ct_are_one), sl_are_one⟩)
    (c_are_one : PySem.W.codeIn K cd_are_one "_are_one" = true)
    (k_are_one : PySem.W.keepIn K (.ref f_are_one) = true)
    (a_tries : PySem.W.nsIn K mainGlobals "tries" = some (some (.ref f_tries)))
    (l_tries : K.lookup f_tries = some ⟨oc_tries, od_tries, .func (PySem.W.fnOf "tries" "tries" (defArgs sTries) (defBody sTries) (defScope sTries) .none kV_tries dc_tries pm_tries an_tries cd_tries ct_tries), sl_tries⟩)
    (c_tries : PySem.W.codeIn K cd_tries "tries" = true)
    (k_tries : PySem.W.keepIn K (.ref f_tries) = true)
    (a_by_ends : PySem.W.nsIn K mainGlobals "by_ends" = some (some (.ref f_by_ends)))
    (l_by_ends : K.lookup f_by_ends = some ⟨oc_by_ends, od_by_ends, .func (PySem.W.fnOf "by_ends" "by_ends" (defArgs sByEnds) (defBody sByEnds) (defScope sByEnds) .none kV_by_ends dc_by_ends pm_by_ends an_by_ends cd_by_ends ct_by_ends), sl_by_ends⟩)
    (c_by_ends : PySem.W.codeIn K cd_by_ends "by_ends" = true)
    (k_by_ends : PySem.W.keepIn K (.ref f_by_ends) = true)
    (a_first_breaking : PySem.W.nsIn K mainGlobals "_first_breaking" = some (some (.ref f_first_breaking)))
    (l_first_breaking : K.lookup f_first_breaking = some ⟨oc_first_breaking, od_first_breaking, .func (PySem.W.fnOf "_first_breaking" "_first_breaking" (defArgs sFirstBreaking) (defBody sFirstBreaking) (defScope sFirstBreaking) .none kV_first_breaking dc_first_breaking pm_first_breaking an_first_breaking cd_first_breaking ct_first_breaking), sl_first_breaking⟩)
    (c_first_breaking : PySem.W.codeIn K cd_first_breaking "_first_breaking" = true)
    (k_first_breaking : PySem.W.keepIn K (.ref f_first_breaking) = true)
    (a_keeps : PySem.W.nsIn K mainGlobals "_keeps" = some (some (.ref f_keeps)))
    (l_keeps : K.lookup f_keeps = some ⟨oc_keeps, od_keeps, .func (PySem.W.fnOf "_keeps" "_keeps" (defArgs sKeeps) (defBody sKeeps) (defScope sKeeps) .none kV_keeps dc_keeps pm_keeps an_keeps cd_keeps ct_keeps), sl_keeps⟩)
    (c_keeps : PySem.W.codeIn K cd_keeps "_keeps" = true)
    (k_keeps : PySem.W.keepIn K (.ref f_keeps) = true)
    (a_fraction : PySem.W.nsIn K mainGlobals "fraction" = some (some (.ref f_fraction)))
    (l_fraction : K.lookup f_fraction = some ⟨oc_fraction, od_fraction, .func (PySem.W.fnOf "fraction" "fraction" (defArgs sFraction) (defBody sFraction) (defScope sFraction) .none kV_fraction dc_fraction pm_fraction an_fraction cd_fraction ct_fraction), sl_fraction⟩)
    (c_fraction : PySem.W.codeIn K cd_fraction "fraction" = true)
    (k_fraction : PySem.W.keepIn K (.ref f_fraction) = true)
    (a_everywhere : PySem.W.nsIn K mainGlobals "everywhere" = some (some (.ref f_everywhere)))
    (l_everywhere : K.lookup f_everywhere = some ⟨oc_everywhere, od_everywhere, .func (PySem.W.fnOf "everywhere" "everywhere" (defArgs sEverywhere) (defBody sEverywhere) (defScope sEverywhere) .none kV_everywhere dc_everywhere pm_everywhere an_everywhere cd_everywhere ct_everywhere), sl_everywhere⟩)
    (c_everywhere : PySem.W.codeIn K cd_everywhere "everywhere" = true)
    (k_everywhere : PySem.W.keepIn K (.ref f_everywhere) = true)
    (a_led_to : PySem.W.nsIn K mainGlobals "led_to" = some (some (.ref f_led_to)))
    (l_led_to : K.lookup f_led_to = some ⟨oc_led_to, od_led_to, .func (PySem.W.fnOf "led_to" "led_to" (defArgs sLedTo) (defBody sLedTo) (defScope sLedTo) .none kV_led_to dc_led_to pm_led_to an_led_to cd_led_to ct_led_to), sl_led_to⟩)
    (c_led_to : PySem.W.codeIn K cd_led_to "led_to" = true)
    (k_led_to : PySem.W.keepIn K (.ref f_led_to) = true)
    (a_is_move : PySem.W.nsIn K mainGlobals "_is_move" = some (some (.ref f_is_move)))
    (l_is_move : K.lookup f_is_move = some ⟨oc_is_move, od_is_move, .func (PySem.W.fnOf "_is_move" "_is_move" (defArgs sIsMove) (defBody sIsMove) (defScope sIsMove) .none kV_is_move dc_is_move pm_is_move an_is_move (.ref cM_is_move) ct_is_move), sl_is_move⟩)
    (c_is_move : PySem.W.codeIn K (.ref cM_is_move) "_is_move" = true)
    (k_is_move : PySem.W.keepIn K (.ref f_is_move) = true)
    (a_shares : PySem.W.nsIn K mainGlobals "shares" = some (some (.ref f_shares)))
    (l_shares : K.lookup f_shares = some ⟨oc_shares, od_shares, .func (PySem.W.fnOf "shares" "shares" (defArgs sShares) (defBody sShares) (defScope sShares) .none kV_shares dc_shares pm_shares an_shares cd_shares ct_shares), sl_shares⟩)
    (c_shares : PySem.W.codeIn K cd_shares "shares" = true)
    (k_shares : PySem.W.keepIn K (.ref f_shares) = true)
    (a_behind_a_step : PySem.W.nsIn K mainGlobals "_behind_a_step" = some (some (.ref f_behind_a_step)))
    (l_behind_a_step : K.lookup f_behind_a_step = some ⟨oc_behind_a_step, od_behind_a_step, .func (PySem.W.fnOf "_behind_a_step" "_behind_a_step" (defArgs sBehindAStep) (defBody sBehindAStep) (defScope sBehindAStep) .none kV_behind_a_step dc_behind_a_step pm_behind_a_step an_behind_a_step cd_behind_a_step ct_behind_a_step), sl_behind_a_step⟩)
    (c_behind_a_step : PySem.W.codeIn K cd_behind_a_step "_behind_a_step" = true)
    (k_behind_a_step : PySem.W.keepIn K (.ref f_behind_a_step) = true)
    (a_law_cell : PySem.W.nsIn K mainGlobals "_law_cell" = some (some (.ref f_law_cell)))
    (l_law_cell : K.lookup f_law_cell = some ⟨oc_law_cell, od_law_cell, .func (PySem.W.fnOf "_law_cell" "_law_cell" (defArgs sCell) (defBody sCell) (defScope sCell) .none kV_law_cell dc_law_cell pm_law_cell an_law_cell cd_law_cell ct_law_cell), sl_law_cell⟩)
    (c_law_cell : PySem.W.codeIn K cd_law_cell "_law_cell" = true)
    (k_law_cell : PySem.W.keepIn K (.ref f_law_cell) = true)
    (a_law_dice : PySem.W.nsIn K mainGlobals "_law_dice" = some (some (.ref f_law_dice)))
    (l_law_dice : K.lookup f_law_dice = some ⟨oc_law_dice, od_law_dice, .func (PySem.W.fnOf "_law_dice" "_law_dice" (defArgs sDice) (defBody sDice) (defScope sDice) .none kV_law_dice dc_law_dice pm_law_dice an_law_dice cd_law_dice ct_law_dice), sl_law_dice⟩)
    (c_law_dice : PySem.W.codeIn K cd_law_dice "_law_dice" = true)
    (k_law_dice : PySem.W.keepIn K (.ref f_law_dice) = true)
    (a_law_off : PySem.W.nsIn K mainGlobals "_law_off" = some (some (.ref f_law_off)))
    (l_law_off : K.lookup f_law_off = some ⟨oc_law_off, od_law_off, .func (PySem.W.fnOf "_law_off" "_law_off" (defArgs sOff) (defBody sOff) (defScope sOff) .none kV_law_off dc_law_off pm_law_off an_law_off cd_law_off ct_law_off), sl_law_off⟩)
    (c_law_off : PySem.W.codeIn K cd_law_off "_law_off" = true)
    (k_law_off : PySem.W.keepIn K (.ref f_law_off) = true)
    (a_law_chain : PySem.W.nsIn K mainGlobals "_law_chain" = some (some (.ref f_law_chain)))
    (l_law_chain : K.lookup f_law_chain = some ⟨oc_law_chain, od_law_chain, .func (PySem.W.fnOf "_law_chain" "_law_chain" (defArgs sChain) (defBody sChain) (defScope sChain) .none kV_law_chain dc_law_chain pm_law_chain an_law_chain cd_law_chain ct_law_chain), sl_law_chain⟩)
    (c_law_chain : PySem.W.codeIn K cd_law_chain "_law_chain" = true)
    (k_law_chain : PySem.W.keepIn K (.ref f_law_chain) = true)
    (a_law_made : PySem.W.nsIn K mainGlobals "_law_made" = some (some (.ref f_law_made)))
    (l_law_made : K.lookup f_law_made = some ⟨oc_law_made, od_law_made, .func (PySem.W.fnOf "_law_made" "_law_made" (defArgs sMade) (defBody sMade) (defScope sMade) .none kV_law_made dc_law_made pm_law_made an_law_made cd_law_made ct_law_made), sl_law_made⟩)
    (c_law_made : PySem.W.codeIn K cd_law_made "_law_made" = true)
    (k_law_made : PySem.W.keepIn K (.ref f_law_made) = true)
    (a_law_numbers : PySem.W.nsIn K mainGlobals "_law_numbers" = some (some (.ref f_law_numbers)))
    (l_law_numbers : K.lookup f_law_numbers = some ⟨oc_law_numbers, od_law_numbers, .func (PySem.W.fnOf "_law_numbers" "_law_numbers" (defArgs sNumbers) (defBody sNumbers) (defScope sNumbers) .none kV_law_numbers dc_law_numbers pm_law_numbers an_law_numbers cd_law_numbers ct_law_numbers), sl_law_numbers⟩)
    (c_law_numbers : PySem.W.codeIn K cd_law_numbers "_law_numbers" = true)
    (k_law_numbers : PySem.W.keepIn K (.ref f_law_numbers) = true)
    (a_law_word : PySem.W.nsIn K mainGlobals "_law_word" = some (some (.ref f_law_word)))
    (l_law_word : K.lookup f_law_word = some ⟨oc_law_word, od_law_word, .func (PySem.W.fnOf "_law_word" "_law_word" (defArgs sLawWord) (defBody sLawWord) (defScope sLawWord) .none kV_law_word dc_law_word pm_law_word an_law_word cd_law_word ct_law_word), sl_law_word⟩)
    (c_law_word : PySem.W.codeIn K cd_law_word "_law_word" = true)
    (k_law_word : PySem.W.keepIn K (.ref f_law_word) = true)
    (a_law_far : PySem.W.nsIn K mainGlobals "_law_far" = some (some (.ref f_law_far)))
    (l_law_far : K.lookup f_law_far = some ⟨oc_law_far, od_law_far, .func (PySem.W.fnOf "_law_far" "_law_far" (defArgs sLawFar) (defBody sLawFar) (defScope sLawFar) .none kV_law_far dc_law_far pm_law_far an_law_far cd_law_far ct_law_far), sl_law_far⟩)
    (c_law_far : PySem.W.codeIn K cd_law_far "_law_far" = true)
    (k_law_far : PySem.W.keepIn K (.ref f_law_far) = true)
    (a_law_first_unkept : PySem.W.nsIn K mainGlobals "_law_first_unkept" = some (some (.ref f_law_first_unkept)))
    (l_law_first_unkept : K.lookup f_law_first_unkept = some ⟨oc_law_first_unkept, od_law_first_unkept, .func (PySem.W.fnOf "_law_first_unkept" "_law_first_unkept" (defArgs sLawFirstUnkept) (defBody sLawFirstUnkept) (defScope sLawFirstUnkept) .none kV_law_first_unkept dc_law_first_unkept pm_law_first_unkept an_law_first_unkept cd_law_first_unkept ct_law_first_unkept), sl_law_first_unkept⟩)
    (c_law_first_unkept : PySem.W.codeIn K cd_law_first_unkept "_law_first_unkept" = true)
    (k_law_first_unkept : PySem.W.keepIn K (.ref f_law_first_unkept) = true)
    (a_law : PySem.W.nsIn K mainGlobals "law" = some (some (.ref f_law)))
    (l_law : K.lookup f_law = some ⟨oc_law, od_law, .func (PySem.W.fnOf "law" "law" (defArgs sLaw) (defBody sLaw) (defScope sLaw) .none kV_law dc_law pm_law an_law (.ref cM_law) ct_law), sl_law⟩)
    (c_law : PySem.W.codeIn K (.ref cM_law) "law" = true)
    (k_law : PySem.W.keepIn K (.ref f_law) = true)
    (aC : PySem.W.nsIn K mainGlobals "Chain" = some (some (.ref C)))
    (a_minit : PySem.W.findIn K (.ref C) "__init__" = some (some (.ref f_minit)))
    (i_minit : PySem.W.isFn K (.ref f_minit) = true)
    (l_minit : K.lookup f_minit = some ⟨oc_minit, od_minit, .func (PySem.W.fnOf "__init__" "Chain.__init__" (defArgs (inClass cChain 0)) (defBody (inClass cChain 0)) (defScope (inClass cChain 0)) .none kV_minit dc_minit pm_minit an_minit cd_minit ct_minit), sl_minit⟩)
    (c_minit : PySem.W.codeIn K cd_minit "Chain.__init__" = true)
    (k_minit : PySem.W.keepIn K (.ref f_minit) = true)
    (a_mplaces : PySem.W.findIn K (.ref C) "places" = some (some (.ref f_mplaces)))
    (i_mplaces : PySem.W.isFn K (.ref f_mplaces) = true)
    (l_mplaces : K.lookup f_mplaces = some ⟨oc_mplaces, od_mplaces, .func (PySem.W.fnOf "places" "Chain.places" (defArgs (inClass cChain 1)) (defBody (inClass cChain 1)) (defScope (inClass cChain 1)) .none kV_mplaces dc_mplaces pm_mplaces an_mplaces cd_mplaces ct_mplaces), sl_mplaces⟩)
    (c_mplaces : PySem.W.codeIn K cd_mplaces "Chain.places" = true)
    (k_mplaces : PySem.W.keepIn K (.ref f_mplaces) = true)
    (a_mtold : PySem.W.findIn K (.ref C) "told" = some (some (.ref f_mtold)))
    (i_mtold : PySem.W.isFn K (.ref f_mtold) = true)
    (l_mtold : K.lookup f_mtold = some ⟨oc_mtold, od_mtold, .func (PySem.W.fnOf "told" "Chain.told" (defArgs (inClass cChain 2)) (defBody (inClass cChain 2)) (defScope (inClass cChain 2)) .none kV_mtold dc_mtold pm_mtold an_mtold cd_mtold ct_mtold), sl_mtold⟩)
    (c_mtold : PySem.W.codeIn K cd_mtold "Chain.told" = true)
    (k_mtold : PySem.W.keepIn K (.ref f_mtold) = true)
    (pg : PySem.W.plainGet K C Str.empty = true)
    (hd : PySem.W.hasDictIn K C = true)
    (po : PySem.W.plainOver K C = true)
    (sa : PySem.W.findIn K (.ref C) "__setattr__" = some (some (.builtin "object.__setattr__")))
    (mk : PySem.W.makesIn K C = true)
    (kc : PySem.W.keepIn K (.ref C) = true)
    (nM : PySem.W.findIn K (.ref C) "_many" = some none)
    (nV : PySem.W.findIn K (.ref C) "_moves" = some none)
    (gMOST_PLACES : PySem.W.nsIn K mainGlobals "MOST_PLACES" = some (some (.int 6 tMOST_PLACES)))
    (gMOST_MOVES : PySem.W.nsIn K mainGlobals "MOST_MOVES" = some (some (.int 8 tMOST_MOVES)))
    (gMOST_WEIGHT : PySem.W.nsIn K mainGlobals "MOST_WEIGHT" = some (some (.int 99 tMOST_WEIGHT)))
    (gMOST_FAR : PySem.W.nsIn K mainGlobals "MOST_FAR" = some (some (.int 20 tMOST_FAR)))
    (zlen : PySem.W.nsIn K mainGlobals "len" = some none)
    (zabs : PySem.W.nsIn K mainGlobals "abs" = some none)
    (zmax : PySem.W.nsIn K mainGlobals "max" = some none)
    (zmin : PySem.W.nsIn K mainGlobals "min" = some none)
    (zint : PySem.W.nsIn K mainGlobals "int" = some none)
    (zrange : PySem.W.nsIn K mainGlobals "range" = some none)
    (zsorted : PySem.W.nsIn K mainGlobals "sorted" = some none)
    (ztuple : PySem.W.nsIn K mainGlobals "tuple" = some none)
    (zisinstance : PySem.W.nsIn K mainGlobals "isinstance" = some none)
    (zall : PySem.W.nsIn K mainGlobals "all" = some none)
    (zenumerate : PySem.W.nsIn K mainGlobals "enumerate" = some none)
    (zlist : PySem.W.nsIn K mainGlobals "list" = some none)
    (zset : PySem.W.nsIn K mainGlobals "set" = some none)
    (zsum : PySem.W.nsIn K mainGlobals "sum" = some none)
    (zbool : PySem.W.nsIn K mainGlobals "bool" = some none)
    (zValueError : PySem.W.nsIn K mainGlobals "ValueError" = some none)
    (eLongError : PySem.W.nsIn K mainGlobals "LongError" = some (some (.ref ALongError)))
    (eBadChain : PySem.W.nsIn K mainGlobals "BadChain" = some (some (.ref ABadChain)))
    (eBadText : PySem.W.nsIn K mainGlobals "BadText" = some (some (.ref ABadText)))
    (eNoSuch : PySem.W.nsIn K mainGlobals "NoSuch" = some (some (.ref ANoSuch)))
    (eNotOne : PySem.W.nsIn K mainGlobals "NotOne" = some (some (.ref ANotOne)))
    (eNeverOne : PySem.W.nsIn K mainGlobals "NeverOne" = some (some (.ref ANeverOne)))
    (eNotOrdered : PySem.W.nsIn K mainGlobals "NotOrdered" = some (some (.ref ANotOrdered)))
    (eTooMany : PySem.W.nsIn K mainGlobals "TooMany" = some (some (.ref ATooMany)))
    (xkNoSuch : PySem.W.keepIn K (.ref ANoSuch) = true)
    (xxNoSuch : PySem.W.excIn K ANoSuch [.type "ValueError", .type "Exception", .type "BaseException", .type "object"] "ValueError.__new__" = true)
    (xbNoSuch : PySem.W.subIn K (.ref ANoSuch) (.type "BaseException") = some true)
    (xtNoSuch : PySem.W.typeIn K (.ref ANoSuch) = some (.type "type"))
    (oeiNotOrdered : oexB K ANotOrdered = true)
    (osiNotOrdered : PySem.W.findIn K (.ref ANotOrdered) "__setattr__" = some (some (.builtin "object.__setattr__")))
    (obiNotOrdered : PySem.W.subIn K (.ref ANotOrdered) (.type "BaseException") = some true)
    (otiNotOrdered : PySem.W.typeIn K (.ref ANotOrdered) = some (.type "type"))
    (okiNotOrdered : PySem.W.keepIn K (.ref ANotOrdered) = true)
    (oiiNotOrdered : PySem.W.findIn K (.ref ANotOrdered) "__init__" = some (some (.ref f_iNotOrdered)))
    (ofiNotOrdered : PySem.W.typeIn K (.ref f_iNotOrdered) = some (.type "function"))
    (oniNotOrdered : PySem.W.findIn K (.ref ANotOrdered) "move" = some none)
    (l_iNotOrdered : K.lookup f_iNotOrdered = some ⟨oc_iNotOrdered, od_iNotOrdered, .func (PySem.W.fnX "__init__" "NotOrdered.__init__" (defArgs (inClass cNotOrdered 0)) (defBody (inClass cNotOrdered 0)) (defScope (inClass cNotOrdered 0)) [("__class__", cc_iNotOrdered)] .none kV_iNotOrdered dc_iNotOrdered pm_iNotOrdered an_iNotOrdered (.ref cda_iNotOrdered) ct_iNotOrdered), sl_iNotOrdered⟩)
    (c_iNotOrdered : PySem.W.codeIn K (.ref cda_iNotOrdered) "NotOrdered.__init__" = true)
    (oc1iNotOrdered : K.lookup cda_iNotOrdered = some ⟨ccl_iNotOrdered, cdd_iNotOrdered, .fields vs_iNotOrdered, ccs_iNotOrdered⟩)
    (oc2iNotOrdered : vs_iNotOrdered[2]? = some (.str fi_iNotOrdered tf_iNotOrdered))
    (oc3iNotOrdered : ((l.prog.main.file : Str) == fi_iNotOrdered) = true)
    (oliNotOrdered : K.lookup cc_iNotOrdered = some ⟨cl_iNotOrdered, cld_iNotOrdered, .cell (some (.ref ANotOrdered)), csl_iNotOrdered⟩)
    (odiNotOrdered : (PySem.W.clsIn K ANotOrdered).isSome = true)
    (omiNotOrdered : PySem.W.mroIn K ANotOrdered (.ref ANotOrdered) = some true)
    (oaiNotOrdered : PySem.W.ks_superIn K ANotOrdered ANotOrdered "__init__" = some (some (.builtin "ValueError.__init__")))
    (oviNotOrdered : PySem.W.subIn K (.ref ANotOrdered) (.type "ValueError") = some true)
    (zsuper : PySem.W.nsIn K mainGlobals "super" = some none)
    (ztop : (l.prog.main.scope.names.lookup ("super" : Str)).isSome = false)
    (zstat : PySem.W.nsIn K cStatics "thirdparty.any" = some none)
    (wexO : PySem.W.exmOne K (.ref ANotOrdered) (.ref ALongError) = some true)
    (wgO : PySem.W.findIn K (.ref ANotOrdered) "__getattribute__" = some (some (.builtin "BaseException.__getattribute__")))
    (whO : PySem.W.findIn K (.ref ANotOrdered) "__getattr__" = some none)
    (wdO : PySem.W.hasDictIn K ANotOrdered = true)
    (waO : PySem.W.findIn K (.ref ANotOrdered) "__class__" = some (some (.builtin "object.__class__")))
    (wmO : PySem.W.mroIn K ANotOrdered (.type "object") = some true)
    (wnoO : PySem.W.kitAny K (.ref ANotOrdered) [.ref ABadChain, .ref ABadText, .ref ANeverOne, .ref ANotOne, .ref ATooMany] = some false)
    (wvO : PySem.W.kitOne K (.ref ANotOrdered) (.type "ValueError") = some true)
    (wexN : PySem.W.exmOne K (.ref ANoSuch) (.ref ALongError) = some true)
    (wgN : PySem.W.findIn K (.ref ANoSuch) "__getattribute__" = some (some (.builtin "BaseException.__getattribute__")))
    (whN : PySem.W.findIn K (.ref ANoSuch) "__getattr__" = some none)
    (wdN : PySem.W.hasDictIn K ANoSuch = true)
    (waN : PySem.W.findIn K (.ref ANoSuch) "__class__" = some (some (.builtin "object.__class__")))
    (wmN : PySem.W.mroIn K ANoSuch (.type "object") = some true)
    (wnoN : PySem.W.kitAny K (.ref ANoSuch) [.ref ABadChain, .ref ABadText, .ref ANeverOne, .ref ANotOne, .ref ATooMany] = some false)
    (wvN : PySem.W.kitOne K (.ref ANoSuch) (.type "ValueError") = some true)
    (wn : PySem.W.specialIn K (.builtin "object.__class__") "__get__" = some (some (.builtin "getset_descriptor.__get__")))
    (ws : PySem.W.takesIn K (.builtin "object.__class__") = some true)
    (won : PySem.W.kitOne K (.ref ANotOrdered) (.ref ANoSuch) = some false)
    (woo : PySem.W.kitOne K (.ref ANotOrdered) (.ref ANotOrdered) = some true)
    (wnn : PySem.W.kitOne K (.ref ANoSuch) (.ref ANoSuch) = some true)
    (wno : PySem.W.kitOne K (.ref ANoSuch) (.ref ANotOrdered) = some false)
    (lM_is_move : K.lookup cM_is_move = some ⟨eM_is_move, ddM_is_move, .fields vsM_is_move, slM_is_move⟩)
    (vM_is_move : vsM_is_move[11]? = some (.ref tM_is_move))
    (hM_is_move : PySem.W.codeHdIn K cM_is_move tM_is_move = true)
    (nT_is_move : K.lookup tM_is_move = none)
    (lM_law : K.lookup cM_law = some ⟨eM_law, ddM_law, .fields vsM_law, slM_law⟩)
    (vM_law : vsM_law[11]? = some (.ref tM_law))
    (hM_law : PySem.W.codeHdIn K cM_law tM_law = true)
    (nT_law : K.lookup tM_law = none)
    (hne : tM_is_move ≠ tM_law) :
    LamX.LawAtS l w K CX0 7 63 "_law_script" mg fa h := by
  have e := hfa.symm.trans (PySem.W.mg_of X G a_law)
  cases e
  have F_steps_of := fun_mk (st := sStepsOf) l_steps_of c_steps_of k_steps_of
  have b_steps_of := F_steps_of.binds (ps := ["chain", "numbers"]) fun _ _ _ _ _ _ us hl => match us, hl with | [_, _], _ => rfl
  have g_steps_of := PySem.W.mg_of X G a_steps_of
  have D_steps_of : Df K mg "steps_of" sStepsOf ["chain", "numbers"] f_steps_of _ := ⟨F_steps_of, b_steps_of, g_steps_of⟩
  have F_walked := fun_mk (st := sWalked) l_walked c_walked k_walked
  have b_walked := F_walked.binds (ps := ["chain", "begin", "numbers"]) fun _ _ _ _ _ _ us hl => match us, hl with | [_, _, _], _ => rfl
  have g_walked := PySem.W.mg_of X G a_walked
  have D_walked : Df K mg "walked" sWalked ["chain", "begin", "numbers"] f_walked _ := ⟨F_walked, b_walked, g_walked⟩
  have F_together := fun_mk (st := sTogether) l_together c_together k_together
  have b_together := F_together.binds (ps := ["chain", "numbers"]) fun _ _ _ _ _ _ us hl => match us, hl with | [_, _], _ => rfl
  have g_together := PySem.W.mg_of X G a_together
  have D_together : Df K mg "together" sTogether ["chain", "numbers"] f_together _ := ⟨F_together, b_together, g_together⟩
  have F_ends := fun_mk (st := sEnds) l_ends c_ends k_ends
  have b_ends := F_ends.binds (ps := ["chain", "steps"]) fun _ _ _ _ _ _ us hl => match us, hl with | [_, _], _ => rfl
  have g_ends := PySem.W.mg_of X G a_ends
  have D_ends : Df K mg "_ends" sEnds ["chain", "steps"] f_ends _ := ⟨F_ends, b_ends, g_ends⟩
  have F_drawn := fun_mk (st := sDrawn) l_drawn c_drawn k_drawn
  have b_drawn := F_drawn.binds (ps := ["chain", "numbers"]) fun _ _ _ _ _ _ us hl => match us, hl with | [_, _], _ => rfl
  have g_drawn := PySem.W.mg_of X G a_drawn
  have D_drawn : Df K mg "drawn" sDrawn ["chain", "numbers"] f_drawn _ := ⟨F_drawn, b_drawn, g_drawn⟩
  have F_drawn_from := fun_mk (st := sDrawnFrom) l_drawn_from c_drawn_from k_drawn_from
  have b_drawn_from := F_drawn_from.binds (ps := ["chain", "begins", "numbers"]) fun _ _ _ _ _ _ us hl => match us, hl with | [_, _, _], _ => rfl
  have g_drawn_from := PySem.W.mg_of X G a_drawn_from
  have D_drawn_from : Df K mg "drawn_from" sDrawnFrom ["chain", "begins", "numbers"] f_drawn_from _ := ⟨F_drawn_from, b_drawn_from, g_drawn_from⟩
  have F_are_one := fun_mk (st := sAreOne) l_are_one c_are_one k_are_one
  have b_are_one := F_are_one.binds (ps := ["ends"]) fun _ _ _ _ _ _ us hl => match us, hl with | [_], _ => rfl
  have g_are_one := PySem.W.mg_of X G a_are_one
  have D_are_one : Df K mg "_are_one" sAreOne ["ends"] f_are_one _ := ⟨F_are_one, b_are_one, g_are_one⟩
  have F_tries := fun_mk (st := sTries) l_tries c_tries k_tries
  have b_tries := F_tries.binds (ps := ["chain", "numbers"]) fun _ _ _ _ _ _ us hl => match us, hl with | [_, _], _ => rfl
  have g_tries := PySem.W.mg_of X G a_tries
  have D_tries : Df K mg "tries" sTries ["chain", "numbers"] f_tries _ := ⟨F_tries, b_tries, g_tries⟩
  have F_by_ends := fun_mk (st := sByEnds) l_by_ends c_by_ends k_by_ends
  have b_by_ends := F_by_ends.binds (ps := ["chain", "order", "numbers"]) fun _ _ _ _ _ _ us hl => match us, hl with | [_, _, _], _ => rfl
  have g_by_ends := PySem.W.mg_of X G a_by_ends
  have D_by_ends : Df K mg "by_ends" sByEnds ["chain", "order", "numbers"] f_by_ends _ := ⟨F_by_ends, b_by_ends, g_by_ends⟩
  have F_first_breaking := fun_mk (st := sFirstBreaking) l_first_breaking c_first_breaking k_first_breaking
  have b_first_breaking := F_first_breaking.binds (ps := ["chain", "order"]) fun _ _ _ _ _ _ us hl => match us, hl with | [_, _], _ => rfl
  have g_first_breaking := PySem.W.mg_of X G a_first_breaking
  have D_first_breaking : Df K mg "_first_breaking" sFirstBreaking ["chain", "order"] f_first_breaking _ := ⟨F_first_breaking, b_first_breaking, g_first_breaking⟩
  have F_keeps := fun_mk (st := sKeeps) l_keeps c_keeps k_keeps
  have b_keeps := F_keeps.binds (ps := ["whither", "order"]) fun _ _ _ _ _ _ us hl => match us, hl with | [_, _], _ => rfl
  have g_keeps := PySem.W.mg_of X G a_keeps
  have D_keeps : Df K mg "_keeps" sKeeps ["whither", "order"] f_keeps _ := ⟨F_keeps, b_keeps, g_keeps⟩
  have F_fraction := fun_mk (st := sFraction) l_fraction c_fraction k_fraction
  have b_fraction := F_fraction.binds (ps := ["top", "bottom"]) fun _ _ _ _ _ _ us hl => match us, hl with | [_, _], _ => rfl
  have g_fraction := PySem.W.mg_of X G a_fraction
  have D_fraction : Df K mg "fraction" sFraction ["top", "bottom"] f_fraction _ := ⟨F_fraction, b_fraction, g_fraction⟩
  have F_everywhere := fun_mk (st := sEverywhere) l_everywhere c_everywhere k_everywhere
  have b_everywhere := F_everywhere.binds (ps := ["chain"]) fun _ _ _ _ _ _ us hl => match us, hl with | [_], _ => rfl
  have g_everywhere := PySem.W.mg_of X G a_everywhere
  have D_everywhere : Df K mg "everywhere" sEverywhere ["chain"] f_everywhere _ := ⟨F_everywhere, b_everywhere, g_everywhere⟩
  have F_led_to := fun_mk (st := sLedTo) l_led_to c_led_to k_led_to
  have b_led_to := F_led_to.binds (ps := ["whither", "group"]) fun _ _ _ _ _ _ us hl => match us, hl with | [_, _], _ => rfl
  have g_led_to := PySem.W.mg_of X G a_led_to
  have D_led_to : Df K mg "led_to" sLedTo ["whither", "group"] f_led_to _ := ⟨F_led_to, b_led_to, g_led_to⟩
  have FM_is_move : FunT K "_is_move" "_is_move" sIsMove f_is_move _ cM_is_move := ⟨⟨_, _, _, _, _, _, _, _, rfl, l_is_move, c_is_move⟩, k_is_move⟩
  have F_is_move := fun_mk (st := sIsMove) l_is_move c_is_move k_is_move
  have b_is_move := F_is_move.binds (ps := ["many", "move"]) fun _ _ _ _ _ _ us hl => match us, hl with | [_, _], _ => rfl
  have g_is_move := PySem.W.mg_of X G a_is_move
  have D_is_move : Df K mg "_is_move" sIsMove ["many", "move"] f_is_move _ := ⟨F_is_move, b_is_move, g_is_move⟩
  have F_shares := fun_mk (st := sShares) l_shares c_shares k_shares
  have b_shares := F_shares.binds (ps := ["chain", "far"]) fun _ _ _ _ _ _ us hl => match us, hl with | [_, _], _ => rfl
  have g_shares := PySem.W.mg_of X G a_shares
  have D_shares : Df K mg "shares" sShares ["chain", "far"] f_shares _ := ⟨F_shares, b_shares, g_shares⟩
  have F_behind_a_step := fun_mk (st := sBehindAStep) l_behind_a_step c_behind_a_step k_behind_a_step
  have b_behind_a_step := F_behind_a_step.binds (ps := ["moves", "weights"]) fun _ _ _ _ _ _ us hl => match us, hl with | [_, _], _ => rfl
  have g_behind_a_step := PySem.W.mg_of X G a_behind_a_step
  have D_behind_a_step : Df K mg "_behind_a_step" sBehindAStep ["moves", "weights"] f_behind_a_step _ := ⟨F_behind_a_step, b_behind_a_step, g_behind_a_step⟩
  have F_law_cell := fun_mk (st := sCell) l_law_cell c_law_cell k_law_cell
  have b_law_cell := F_law_cell.binds (ps := ["_law_script", "_law_k"]) fun _ _ _ _ _ _ us hl => match us, hl with | [_, _], _ => rfl
  have g_law_cell := PySem.W.mg_of X G a_law_cell
  have D_law_cell : Df K mg "_law_cell" sCell ["_law_script", "_law_k"] f_law_cell _ := ⟨F_law_cell, b_law_cell, g_law_cell⟩
  have F_law_dice := fun_mk (st := sDice) l_law_dice c_law_dice k_law_dice
  have b_law_dice := F_law_dice.binds (ps := ["_law_script", "_law_k"]) fun _ _ _ _ _ _ us hl => match us, hl with | [_, _], _ => rfl
  have g_law_dice := PySem.W.mg_of X G a_law_dice
  have D_law_dice : Df K mg "_law_dice" sDice ["_law_script", "_law_k"] f_law_dice _ := ⟨F_law_dice, b_law_dice, g_law_dice⟩
  have F_law_off := fun_mk (st := sOff) l_law_off c_law_off k_law_off
  have b_law_off := F_law_off.binds (ps := ["_law_d", "_law_most"]) fun _ _ _ _ _ _ us hl => match us, hl with | [_, _], _ => rfl
  have g_law_off := PySem.W.mg_of X G a_law_off
  have D_law_off : Df K mg "_law_off" sOff ["_law_d", "_law_most"] f_law_off _ := ⟨F_law_off, b_law_off, g_law_off⟩
  have F_law_chain := fun_mk (st := sChain) l_law_chain c_law_chain k_law_chain
  have b_law_chain := F_law_chain.binds (ps := ["_law_d", "_law_most"]) fun _ _ _ _ _ _ us hl => match us, hl with | [_, _], _ => rfl
  have g_law_chain := PySem.W.mg_of X G a_law_chain
  have D_law_chain : Df K mg "_law_chain" sChain ["_law_d", "_law_most"] f_law_chain _ := ⟨F_law_chain, b_law_chain, g_law_chain⟩
  have F_law_made := fun_mk (st := sMade) l_law_made c_law_made k_law_made
  have b_law_made := F_law_made.binds (ps := ["_law_told"]) fun _ _ _ _ _ _ us hl => match us, hl with | [_], _ => rfl
  have g_law_made := PySem.W.mg_of X G a_law_made
  have D_law_made : Df K mg "_law_made" sMade ["_law_told"] f_law_made _ := ⟨F_law_made, b_law_made, g_law_made⟩
  have F_law_numbers := fun_mk (st := sNumbers) l_law_numbers c_law_numbers k_law_numbers
  have b_law_numbers := F_law_numbers.binds (ps := ["_law_d", "_law_moves", "_law_most"]) fun _ _ _ _ _ _ us hl => match us, hl with | [_, _, _], _ => rfl
  have g_law_numbers := PySem.W.mg_of X G a_law_numbers
  have D_law_numbers : Df K mg "_law_numbers" sNumbers ["_law_d", "_law_moves", "_law_most"] f_law_numbers _ := ⟨F_law_numbers, b_law_numbers, g_law_numbers⟩
  have F_law_word := fun_mk (st := sLawWord) l_law_word c_law_word k_law_word
  have b_law_word := F_law_word.binds (ps := ["_law_work"]) fun _ _ _ _ _ _ us hl => match us, hl with | [_], _ => rfl
  have g_law_word := PySem.W.mg_of X G a_law_word
  have D_law_word : Df K mg "_law_word" sLawWord ["_law_work"] f_law_word _ := ⟨F_law_word, b_law_word, g_law_word⟩
  have F_law_far := fun_mk (st := sLawFar) l_law_far c_law_far k_law_far
  have b_law_far := F_law_far.binds (ps := ["_law_d", "_law_most"]) fun _ _ _ _ _ _ us hl => match us, hl with | [_, _], _ => rfl
  have g_law_far := PySem.W.mg_of X G a_law_far
  have D_law_far : Df K mg "_law_far" sLawFar ["_law_d", "_law_most"] f_law_far _ := ⟨F_law_far, b_law_far, g_law_far⟩
  have F_law_first_unkept := fun_mk (st := sLawFirstUnkept) l_law_first_unkept c_law_first_unkept k_law_first_unkept
  have b_law_first_unkept := F_law_first_unkept.binds (ps := ["_law_moves", "_law_order"]) fun _ _ _ _ _ _ us hl => match us, hl with | [_, _], _ => rfl
  have g_law_first_unkept := PySem.W.mg_of X G a_law_first_unkept
  have D_law_first_unkept : Df K mg "_law_first_unkept" sLawFirstUnkept ["_law_moves", "_law_order"] f_law_first_unkept _ := ⟨F_law_first_unkept, b_law_first_unkept, g_law_first_unkept⟩
  have FM_law : FunT K "law" "law" sLaw fa _ cM_law := ⟨⟨_, _, _, _, _, _, _, _, rfl, l_law, c_law⟩, k_law⟩
  have F_law := fun_mk (st := sLaw) l_law c_law k_law
  have g_law := PySem.W.mg_of X G a_law
  have F_minit := fun_mk (st := inClass cChain 0) l_minit c_minit k_minit
  have b_minit := F_minit.binds (ps := ["self", "many", "moves"]) fun _ _ _ _ _ _ us hl => match us, hl with | [_, _, _], _ => rfl
  have F_mplaces := fun_mk (st := inClass cChain 1) l_mplaces c_mplaces k_mplaces
  have b_mplaces := F_mplaces.binds (ps := ["self"]) fun _ _ _ _ _ _ us hl => match us, hl with | [_], _ => rfl
  have F_mtold := fun_mk (st := inClass cChain 2) l_mtold c_mtold k_mtold
  have b_mtold := F_mtold.binds (ps := ["self"]) fun _ _ _ _ _ _ us hl => match us, hl with | [_], _ => rfl
  have gC := PySem.W.mg_of X G aC
  have GMOST_PLACES := PySem.W.mg_of X G gMOST_PLACES
  have GMOST_MOVES := PySem.W.mg_of X G gMOST_MOVES
  have GMOST_WEIGHT := PySem.W.mg_of X G gMOST_WEIGHT
  have GMOST_FAR := PySem.W.mg_of X G gMOST_FAR
  have Zlen := PySem.W.mg_none_of X G zlen
  have Zabs := PySem.W.mg_none_of X G zabs
  have Zmax := PySem.W.mg_none_of X G zmax
  have Zmin := PySem.W.mg_none_of X G zmin
  have Zint := PySem.W.mg_none_of X G zint
  have Zrange := PySem.W.mg_none_of X G zrange
  have Zsorted := PySem.W.mg_none_of X G zsorted
  have Ztuple := PySem.W.mg_none_of X G ztuple
  have Zisinstance := PySem.W.mg_none_of X G zisinstance
  have Zall := PySem.W.mg_none_of X G zall
  have Zenumerate := PySem.W.mg_none_of X G zenumerate
  have Zlist := PySem.W.mg_none_of X G zlist
  have Zset := PySem.W.mg_none_of X G zset
  have Zsum := PySem.W.mg_none_of X G zsum
  have Zbool := PySem.W.mg_none_of X G zbool
  have ZValueError := PySem.W.mg_none_of X G zValueError
  have tabE_is_move : h.get? tM_is_move = some { cls := .none, data := .fields #[] } := by
    obtain ⟨a', o', fd', c', P', oc, vc, g1, g2, g3, g4, e1, e3, e4, e5⟩ := TO_is_move
    rw [g_is_move] at g1
    cases g1
    have q1 := X _ _ l_is_move
    rw [q1] at g2
    cases g2
    cases g3
    cases g4
    have q2 := X _ _ lM_is_move
    rw [q2] at e1
    cases e1
    cases e3
    rw [vM_is_move] at e4
    cases e4
    exact e5
  have tabE_law : h.get? tM_law = some { cls := .none, data := .fields #[] } := by
    obtain ⟨a', o', fd', c', P', oc, vc, g1, g2, g3, g4, e1, e3, e4, e5⟩ := TO_law
    rw [g_law] at g1
    cases g1
    have q1 := X _ _ l_law
    rw [q1] at g2
    cases g2
    cases g3
    cases g4
    have q2 := X _ _ lM_law
    rw [q2] at e1
    cases e1
    cases e3
    rw [vM_law] at e4
    cases e4
    exact e5
  have LT : LawTxt K mg f_law_cell f_law_dice f_law_off _ _ _ := ⟨F_law_cell, b_law_cell, g_law_cell, F_law_dice, b_law_dice, g_law_dice, F_law_off, b_law_off, g_law_off, Zlen, Zabs, Zmax, Zmin, Zint, Zrange, Zsorted, Ztuple⟩
  have CL' : Cls K C := ⟨pg, hd, po, sa⟩
  have CH : ChTxt K mg f_is_move cM_is_move tM_is_move _ C f_minit _ := ⟨FM_is_move, b_is_move, g_is_move, F_minit, b_minit, ⟨mk, a_minit, i_minit, kc⟩, CL', nM, nV, gC, ⟨_, GMOST_PLACES⟩, ⟨_, GMOST_MOVES⟩, ⟨_, GMOST_WEIGHT⟩, Zlen, Zisinstance, Ztuple, Zrange, Zall, Zenumerate, Zlist⟩
  have CM : ChM K C f_mplaces f_mtold _ _ := ⟨F_mplaces, b_mplaces, ⟨a_mplaces, i_mplaces, k_mplaces⟩, F_mtold, b_mtold, ⟨a_mtold, i_mtold, k_mtold⟩, CL', nM, nV⟩
  have N_NoSuch : OwnE K mg "NoSuch" ANoSuch := ⟨PySem.W.mg_of X G eNoSuch, xkNoSuch, xxNoSuch, xbNoSuch, xtNoSuch⟩
  have X_NotOrdered : OexC K ANotOrdered := oexB_ok oeiNotOrdered osiNotOrdered obiNotOrdered otiNotOrdered okiNotOrdered
  have T_NotOrdered : SupE l.prog K ANotOrdered cc_iNotOrdered cda_iNotOrdered := ⟨X_NotOrdered, ⟨_, _, _, _, _, _, oc1iNotOrdered, oc2iNotOrdered, oc3iNotOrdered⟩, ⟨_, _, _, oliNotOrdered⟩, Option.isSome_iff_exists.mp odiNotOrdered, omiNotOrdered, zsuper, ztop, zstat, oaiNotOrdered, oviNotOrdered⟩
  have N_NotOrdered : OwnI K mg "NotOrdered" ANotOrdered f_iNotOrdered (PySem.W.fnX "__init__" "NotOrdered.__init__" (defArgs (inClass cNotOrdered 0)) (defBody (inClass cNotOrdered 0)) (defScope (inClass cNotOrdered 0)) [("__class__", cc_iNotOrdered)] .none kV_iNotOrdered dc_iNotOrdered pm_iNotOrdered an_iNotOrdered (.ref cda_iNotOrdered) ct_iNotOrdered) ["self", "move"] "move" := ⟨PySem.W.mg_of X G eNotOrdered, X_NotOrdered, oiiNotOrdered, ofiNotOrdered, oniNotOrdered, Binds.all (fun us hl => match us, hl with | [_, _], _ => rfl)⟩
  refine ⟨PySem.W.fnOf "law" "law" (defArgs sLaw) (defBody sLaw) (defScope sLaw) .none kV_law dc_law pm_law an_law (.ref cM_law) ct_law, [(cM_is_move, tM_is_move), (cM_law, tM_law)], spLaw3 K tM_is_move tM_law, fun p hp => ?_, fun p hp => ?_, fun p hp => ?_, fun s v => .of_eq rfl, fun H a ns hl hbits hT hS => ?_, fun base hK hG hTB => ?_⟩
  · rcases List.mem_cons.mp hp with e | hp
    · rw [e]
      exact tabE_is_move
    rcases List.mem_cons.mp hp with e | hp
    · rw [e]
      exact tabE_law
    · cases hp
  · rcases List.mem_cons.mp hp with e | hp
    · rw [e]
      exact nT_is_move
    rcases List.mem_cons.mp hp with e | hp
    · rw [e]
      exact nT_law
    · cases hp
  · rcases List.mem_cons.mp hp with e | hp
    · rw [e]
      exact PySem.W.codeHd_of_K X hM_is_move
    rcases List.mem_cons.mp hp with e | hp
    · rw [e]
      exact PySem.W.codeHd_of_K X hM_law
    · cases hp
  · exact ⟨a, ns, rfl, hS, hl, ⟨#[], hT (cM_is_move, tM_is_move) (by simp), by simp [TriplesOk]⟩, hT (cM_law, tM_law) (by simp), fun _ => rfl⟩
  · have TBx_is_move := hTB (cM_is_move, tM_is_move) (by simp)
    have TB_is_move : GxR.TabB base mg cM_is_move tM_is_move := ⟨TBx_is_move.code, TBx_is_move.bm, TBx_is_move.gP⟩
    have TBx_law := hTB (cM_law, tM_law) (by simp)
    have TB_law : LamX.TabB base mg cM_law tM_law := ⟨TBx_law.code, TBx_law.bm, TBx_law.gP⟩
    have TB := TB_is_move
    have GFb : FnOk l.prog w K mg base CX0 2 f_first_breaking _ ["chain", "order"] (spFb C) := ok_fb F_first_breaking D_keeps CM Zsorted Zlist Zrange Zenumerate
    have GFbX : FnOk l.prog w K mg base (L2.CX l.prog w) 2 f_first_breaking _ ["chain", "order"] (spFbX C ANoSuch) := ok_fbX F_first_breaking N_NoSuch CM Zsorted Zlist Zrange
    have GDf : FnOk l.prog w K mg base CX0 3 f_drawn_from _ ["chain", "begins", "numbers"] (spDf K C) := ok_drawnFrom F_drawn_from F_steps_of b_steps_of g_steps_of F_are_one b_are_one g_are_one CM Zrange Zlen Zlist Zset
    have GDX : FnOk l.prog w K mg base (L2.CX l.prog w) 3 f_drawn_from _ ["chain", "begins", "numbers"] (spDfX K C ANoSuch) := ok_drawnFromX F_drawn_from F_steps_of b_steps_of g_steps_of CM N_NoSuch Zrange Zlen Zlist
    have GI : FnOk l.prog w K mg base CX0 1 f_iNotOrdered _ ["self", "move"] (spNO K ANotOrdered) := ok_no T_NotOrdered l_iNotOrdered c_iNotOrdered
    have GBe : FnOk l.prog w K mg base CX0 4 f_by_ends _ ["chain", "order", "numbers"] (spBe C) := ok_be F_by_ends D_first_breaking GFb D_drawn_from GDf
    have GBO : FnOk l.prog w K mg base (L2.CX l.prog w) 4 f_by_ends _ ["chain", "order", "numbers"] (spBeO C ANotOrdered) := ok_beO F_by_ends D_first_breaking GFb N_NotOrdered GI
    have GBN : FnOk l.prog w K mg base (L2.CX l.prog w) 4 f_by_ends _ ["chain", "order", "numbers"] (spBeN C ANoSuch) := ok_beN F_by_ends D_first_breaking GFb D_drawn_from GDX
    have GBX : FnOk l.prog w K mg base (L2.CX l.prog w) 4 f_by_ends _ ["chain", "order", "numbers"] (spBeX C ANoSuch) := ok_beX F_by_ends D_first_breaking GFbX
    have R : RefW K mg ALongError ANotOrdered ANoSuch ABadChain ABadText ANeverOne ANotOne ATooMany := ⟨PySem.W.mg_of X G eLongError, wexO, wexN, PySem.W.mg_of X G eNotOrdered, PySem.W.mg_of X G eNoSuch, ⟨wgO, whO, obiNotOrdered, wdO, waO, wn, ws, wmO⟩, ⟨wgN, whN, xbNoSuch, wdN, waN, wn, ws, wmN⟩,
      PySem.W.mg_of X G eBadChain, PySem.W.mg_of X G eBadText, PySem.W.mg_of X G eNeverOne, PySem.W.mg_of X G eNotOne, PySem.W.mg_of X G eTooMany, wnoO, wnoN, wvO, wvN, won, woo, wnn, wno, oniNotOrdered, Zisinstance, ZValueError, Zbool, Zint⟩
    have GM : FnOk l.prog w K mg base CX0 4 f_law_made _ ["_law_told"] (spMade C tM_is_move) := ok_made F_law_made CH TB
    have GWaX : FnOk l.prog w K mg base (L2.CX l.prog w) 3 f_walked _ ["chain", "begin", "numbers"] (spWaX C ANoSuch) := ok_walkedX F_walked F_steps_of b_steps_of g_steps_of CM N_NoSuch Zrange Zlen Zlist
    have GWaP : FnOk l.prog w K mg base (L2.CX l.prog w) 3 f_walked _ ["chain", "begin", "numbers"] (spWaP C ANoSuch) := ok_walkedP F_walked F_steps_of b_steps_of g_steps_of CM N_NoSuch Zrange Zlen Zlist
    have GToX : FnOk l.prog w K mg base (L2.CX l.prog w) 3 f_together _ ["chain", "numbers"] (spStepsX C ANoSuch) := ok_togetherX F_together F_steps_of b_steps_of g_steps_of F_ends b_ends g_ends CM N_NoSuch Zrange Zlen Zlist
    have GDrX : FnOk l.prog w K mg base (L2.CX l.prog w) 4 f_drawn _ ["chain", "numbers"] (spDrX C ANoSuch) := ok_drawnX F_drawn F_drawn_from b_drawn_from g_drawn_from F_steps_of b_steps_of g_steps_of CM N_NoSuch Zrange Zlen Zlist
    have GTrX : FnOk l.prog w K mg base (L2.CX l.prog w) 3 f_tries _ ["chain", "numbers"] (spStepsX C ANoSuch) := ok_triesX F_tries F_steps_of b_steps_of g_steps_of CM N_NoSuch Zrange Zlen Zlist
    have GShX : FnOk l.prog w K mg base (L2.CX l.prog w) 3 f_shares _ ["chain", "far"] (spShX C ANoSuch) := ok_sharesX F_shares N_NoSuch GMOST_FAR Zrange
    have GWa : FnOk l.prog w K mg base CX0 3 f_walked _ ["chain", "begin", "numbers"] (spWa C) := ok_walked F_walked F_steps_of b_steps_of g_steps_of CM Zrange Zlen Zlist
    have GTo : FnOk l.prog w K mg base CX0 3 f_together _ ["chain", "numbers"] (spTo C) := ok_together F_together F_steps_of b_steps_of g_steps_of F_ends b_ends g_ends CM Zrange Zlen Zlist
    have GDr : FnOk l.prog w K mg base CX0 4 f_drawn _ ["chain", "numbers"] (spDrawn C) := ok_drawn F_drawn F_drawn_from b_drawn_from g_drawn_from F_steps_of b_steps_of g_steps_of F_are_one b_are_one g_are_one CM Zrange Zlen Zlist Zset
    have GTr : FnOk l.prog w K mg base CX0 3 f_tries _ ["chain", "numbers"] (spTries C) := ok_tries F_tries F_steps_of b_steps_of g_steps_of F_are_one b_are_one g_are_one F_ends b_ends g_ends CM Zrange Zlen Zlist Zset Zsorted
    exact ok_law FM_law TB_law LT D_law_chain D_law_made D_law_numbers D_law_far D_law_first_unkept D_law_word D_walked D_together D_drawn D_tries D_by_ends D_shares R GM GWaX GWaP GToX GDrX GTrX GBX GShX GBO GBN GBe GWa GTo GDr GTr Zlist hne
end Lg
open PySem PySem.W PyProof.Rows
set_option maxRecDepth 100000 in
set_option maxHeartbeats 0 in
theorem PySem.Challenge.cw_longago_k23_numbers_refused_anywhere_holds : PySem.Challenge.rw_longago_k23_numbers_refused_anywhere.Holds := by
  w_on; o_law; k_head; (case hw => w_witness2)
  k_fill
  refine Lg.walk_tab2 (l := PySem.Challenge.rw_longago_k23_numbers_refused_anywhere) (n := 63) (k := 7) (x := "_law_script") (CX := fun _ => L2.CX0) "_is_move" "law" rfl (by decide) rfl ⟨rfl, by decide, by decide⟩ (by decide +kernel) (by decide +kernel) (fun w h Y => PySem.W.km_in_of Y) ?F (fun _ _ _ _ _ z => z)
  case F =>
    intro w mg fa h KX G hmg TO0 TO1
    refine' Lg.all_mk KX G hmg TO0 TO1 ?a_steps_of ?l_steps_of ?c_steps_of ?k_steps_of ?a_walked ?l_walked ?c_walked ?k_walked ?a_together ?l_together ?c_together ?k_together ?a_ends ?l_ends ?c_ends ?k_ends ?a_drawn ?l_drawn ?c_drawn ?k_drawn ?a_drawn_from ?l_drawn_from ?c_drawn_from ?k_drawn_from ?a_are_one ?l_are_one ?c_are_one ?k_are_one ?a_tries ?l_tries ?c_tries ?k_tries ?a_by_ends ?l_by_ends ?c_by_ends ?k_by_ends ?a_first_breaking ?l_first_breaking ?c_first_breaking ?k_first_breaking ?a_keeps ?l_keeps ?c_keeps ?k_keeps ?a_fraction ?l_fraction ?c_fraction ?k_fraction ?a_everywhere ?l_everywhere ?c_everywhere ?k_everywhere ?a_led_to ?l_led_to ?c_led_to ?k_led_to ?a_is_move ?l_is_move ?c_is_move ?k_is_move ?a_shares ?l_shares ?c_shares ?k_shares ?a_behind_a_step ?l_behind_a_step ?c_behind_a_step ?k_behind_a_step ?a_law_cell ?l_law_cell ?c_law_cell ?k_law_cell ?a_law_dice ?l_law_dice ?c_law_dice ?k_law_dice ?a_law_off ?l_law_off ?c_law_off ?k_law_off ?a_law_chain ?l_law_chain ?c_law_chain ?k_law_chain ?a_law_made ?l_law_made ?c_law_made ?k_law_made ?a_law_numbers ?l_law_numbers ?c_law_numbers ?k_law_numbers ?a_law_word ?l_law_word ?c_law_word ?k_law_word ?a_law_far ?l_law_far ?c_law_far ?k_law_far ?a_law_first_unkept ?l_law_first_unkept ?c_law_first_unkept ?k_law_first_unkept ?a_law ?l_law ?c_law ?k_law ?aC ?a_minit ?i_minit ?l_minit ?c_minit ?k_minit ?a_mplaces ?i_mplaces ?l_mplaces ?c_mplaces ?k_mplaces ?a_mtold ?i_mtold ?l_mtold ?c_mtold ?k_mtold ?pg ?hd ?po ?sa ?mk ?kc ?nM ?nV ?gMOST_PLACES ?gMOST_MOVES ?gMOST_WEIGHT ?gMOST_FAR ?zlen ?zabs ?zmax ?zmin ?zint ?zrange ?zsorted ?ztuple ?zisinstance ?zall ?zenumerate ?zlist ?zset ?zsum ?zbool ?zValueError ?eLongError ?eBadChain ?eBadText ?eNoSuch ?eNotOne ?eNeverOne ?eNotOrdered ?eTooMany ?xkNoSuch ?xxNoSuch ?xbNoSuch ?xtNoSuch ?oeiNotOrdered ?osiNotOrdered ?obiNotOrdered ?otiNotOrdered ?okiNotOrdered ?oiiNotOrdered ?ofiNotOrdered ?oniNotOrdered ?l_iNotOrdered ?c_iNotOrdered ?oc1iNotOrdered ?oc2iNotOrdered ?oc3iNotOrdered ?oliNotOrdered ?odiNotOrdered ?omiNotOrdered ?oaiNotOrdered ?oviNotOrdered ?zsuper ?ztop ?zstat ?wexO ?wgO ?whO ?wdO ?waO ?wmO ?wnoO ?wvO ?wexN ?wgN ?whN ?wdN ?waN ?wmN ?wnoN ?wvN ?wn ?ws ?won ?woo ?wnn ?wno ?lM_is_move ?vM_is_move ?hM_is_move ?nT_is_move ?lM_law ?vM_law ?hM_law ?nT_law ?hne
    (case a_steps_of => k_is)
    (case l_steps_of => k_is)
    (case c_steps_of => k_is)
    (case k_steps_of => k_is)
    (case a_walked => k_is)
    (case l_walked => k_is)
    (case c_walked => k_is)
    (case k_walked => k_is)
    (case a_together => k_is)
    (case l_together => k_is)
    (case c_together => k_is)
    (case k_together => k_is)
    (case a_ends => k_is)
    (case l_ends => k_is)
    (case c_ends => k_is)
    (case k_ends => k_is)
    (case a_drawn => k_is)
    (case l_drawn => k_is)
    (case c_drawn => k_is)
    (case k_drawn => k_is)
    (case a_drawn_from => k_is)
    (case l_drawn_from => k_is)
    (case c_drawn_from => k_is)
    (case k_drawn_from => k_is)
    (case a_are_one => k_is)
    (case l_are_one => k_is)
    (case c_are_one => k_is)
    (case k_are_one => k_is)
    (case a_tries => k_is)
    (case l_tries => k_is)
    (case c_tries => k_is)
    (case k_tries => k_is)
    (case a_by_ends => k_is)
    (case l_by_ends => k_is)
    (case c_by_ends => k_is)
    (case k_by_ends => k_is)
    (case a_first_breaking => k_is)
    (case l_first_breaking => k_is)
    (case c_first_breaking => k_is)
    (case k_first_breaking => k_is)
    (case a_keeps => k_is)
    (case l_keeps => k_is)
    (case c_keeps => k_is)
    (case k_keeps => k_is)
    (case a_fraction => k_is)
    (case l_fraction => k_is)
    (case c_fraction => k_is)
    (case k_fraction => k_is)
    (case a_everywhere => k_is)
    (case l_everywhere => k_is)
    (case c_everywhere => k_is)
    (case k_everywhere => k_is)
    (case a_led_to => k_is)
    (case l_led_to => k_is)
    (case c_led_to => k_is)
    (case k_led_to => k_is)
    (case a_is_move => k_is)
    (case l_is_move => k_is)
    (case c_is_move => k_is)
    (case k_is_move => k_is)
    (case a_shares => k_is)
    (case l_shares => k_is)
    (case c_shares => k_is)
    (case k_shares => k_is)
    (case a_behind_a_step => k_is)
    (case l_behind_a_step => k_is)
    (case c_behind_a_step => k_is)
    (case k_behind_a_step => k_is)
    (case a_law_cell => k_is)
    (case l_law_cell => k_is)
    (case c_law_cell => k_is)
    (case k_law_cell => k_is)
    (case a_law_dice => k_is)
    (case l_law_dice => k_is)
    (case c_law_dice => k_is)
    (case k_law_dice => k_is)
    (case a_law_off => k_is)
    (case l_law_off => k_is)
    (case c_law_off => k_is)
    (case k_law_off => k_is)
    (case a_law_chain => k_is)
    (case l_law_chain => k_is)
    (case c_law_chain => k_is)
    (case k_law_chain => k_is)
    (case a_law_made => k_is)
    (case l_law_made => k_is)
    (case c_law_made => k_is)
    (case k_law_made => k_is)
    (case a_law_numbers => k_is)
    (case l_law_numbers => k_is)
    (case c_law_numbers => k_is)
    (case k_law_numbers => k_is)
    (case a_law_word => k_is)
    (case l_law_word => k_is)
    (case c_law_word => k_is)
    (case k_law_word => k_is)
    (case a_law_far => k_is)
    (case l_law_far => k_is)
    (case c_law_far => k_is)
    (case k_law_far => k_is)
    (case a_law_first_unkept => k_is)
    (case l_law_first_unkept => k_is)
    (case c_law_first_unkept => k_is)
    (case k_law_first_unkept => k_is)
    (case a_law => k_is)
    (case l_law => k_is)
    (case c_law => k_is)
    (case k_law => k_is)
    (case aC => k_is)
    (case a_minit => k_is)
    (case i_minit => k_is)
    (case l_minit => k_is)
    (case c_minit => k_is)
    (case k_minit => k_is)
    (case a_mplaces => k_is)
    (case i_mplaces => k_is)
    (case l_mplaces => k_is)
    (case c_mplaces => k_is)
    (case k_mplaces => k_is)
    (case a_mtold => k_is)
    (case i_mtold => k_is)
    (case l_mtold => k_is)
    (case c_mtold => k_is)
    (case k_mtold => k_is)
    (case pg => k_is)
    (case hd => k_is)
    (case po => k_is)
    (case sa => k_is)
    (case mk => k_is)
    (case kc => k_is)
    (case nM => k_is)
    (case nV => k_is)
    (case gMOST_PLACES => k_is)
    (case gMOST_MOVES => k_is)
    (case gMOST_WEIGHT => k_is)
    (case gMOST_FAR => k_is)
    (case zlen => k_is)
    (case zabs => k_is)
    (case zmax => k_is)
    (case zmin => k_is)
    (case zint => k_is)
    (case zrange => k_is)
    (case zsorted => k_is)
    (case ztuple => k_is)
    (case zisinstance => k_is)
    (case zall => k_is)
    (case zenumerate => k_is)
    (case zlist => k_is)
    (case zset => k_is)
    (case zsum => k_is)
    (case zbool => k_is)
    (case zValueError => k_is)
    (case eLongError => first | k_is | rfl | decide +kernel)
    (case eBadChain => first | k_is | rfl | decide +kernel)
    (case eBadText => first | k_is | rfl | decide +kernel)
    (case eNoSuch => first | k_is | rfl | decide +kernel)
    (case eNotOne => first | k_is | rfl | decide +kernel)
    (case eNeverOne => first | k_is | rfl | decide +kernel)
    (case eNotOrdered => first | k_is | rfl | decide +kernel)
    (case eTooMany => first | k_is | rfl | decide +kernel)
    (case xkNoSuch => first | k_is | rfl | decide +kernel)
    (case xxNoSuch => k_exc)
    (case xbNoSuch => first | k_is | rfl | decide +kernel)
    (case xtNoSuch => first | k_is | rfl | decide +kernel)
    (case oeiNotOrdered => first | k_is | rfl | decide +kernel)
    (case osiNotOrdered => first | k_is | rfl | decide +kernel)
    (case obiNotOrdered => first | k_is | rfl | decide +kernel)
    (case otiNotOrdered => first | k_is | rfl | decide +kernel)
    (case okiNotOrdered => first | k_is | rfl | decide +kernel)
    (case oiiNotOrdered => k_is)
    (case ofiNotOrdered => first | k_is | rfl | decide +kernel)
    (case oniNotOrdered => first | k_is | rfl | decide +kernel)
    (case l_iNotOrdered => k_is)
    (case c_iNotOrdered => k_is)
    (case oc1iNotOrdered => k_is)
    (case oc2iNotOrdered => first | rfl | k_is)
    (case oc3iNotOrdered => first | rfl | decide +kernel)
    (case oliNotOrdered => k_is)
    (case odiNotOrdered => first | k_is | rfl | decide +kernel)
    (case omiNotOrdered => first | k_is | rfl | decide +kernel)
    (case oaiNotOrdered => first | k_is | rfl | decide +kernel)
    (case oviNotOrdered => first | k_is | rfl | decide +kernel)
    (case zsuper => k_is)
    (case ztop => first | rfl | decide +kernel)
    (case zstat => first | k_is | rfl | decide +kernel)
    (case wexO => first | k_is | rfl | decide +kernel)
    (case wgO => first | k_is | rfl | decide +kernel)
    (case whO => first | k_is | rfl | decide +kernel)
    (case wdO => first | k_is | rfl | decide +kernel)
    (case waO => first | k_is | rfl | decide +kernel)
    (case wmO => first | k_is | rfl | decide +kernel)
    (case wnoO => first | k_is | rfl | decide +kernel)
    (case wvO => first | k_is | rfl | decide +kernel)
    (case wexN => first | k_is | rfl | decide +kernel)
    (case wgN => first | k_is | rfl | decide +kernel)
    (case whN => first | k_is | rfl | decide +kernel)
    (case wdN => first | k_is | rfl | decide +kernel)
    (case waN => first | k_is | rfl | decide +kernel)
    (case wmN => first | k_is | rfl | decide +kernel)
    (case wnoN => first | k_is | rfl | decide +kernel)
    (case wvN => first | k_is | rfl | decide +kernel)
    (case wn => first | k_is | rfl | decide +kernel)
    (case ws => first | k_is | rfl | decide +kernel)
    (case won => first | k_is | rfl | decide +kernel)
    (case woo => first | k_is | rfl | decide +kernel)
    (case wnn => first | k_is | rfl | decide +kernel)
    (case wno => first | k_is | rfl | decide +kernel)
    (case lM_is_move => k_is)
    (case vM_is_move => first | rfl | k_is)
    (case hM_is_move => first | k_is | rfl | decide +kernel)
    (case nT_is_move => first | k_is | rfl | decide +kernel)
    (case lM_law => k_is)
    (case vM_law => first | rfl | k_is)
    (case hM_law => first | k_is | rfl | decide +kernel)
    (case nT_law => first | k_is | rfl | decide +kernel)
    (case hne => decide +kernel)

