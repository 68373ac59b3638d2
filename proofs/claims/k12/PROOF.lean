import PyProof.Rows.All
import Wide.All
import OpenK.AllK
import Wide.FinOn
import PyProof.EqAt
import PyProof.EqKinds
import PyProof.TupleCall
import HandS.ForMost
import HandS.SortInts
import HandS.Iter
import KE.KDictWalk
import HandS.Sort
import KE.KDictCopyH
import KE.KDictSum
import HandS.TupMul
import HandS.Wide
import HandS.Gcd
import HandS.ExcIs
import HandS.IsInst
import HandS.WordsExc
import HandS.ExcOwn
import HandS.RaiseMore
import HandS.FStr
import HandS.Conv
import HandS.Codes
import HandS.AnyAll
import HandS.Zip
import HandS.Walk
import KE.KEqSeq
import HandS.SetFor
import HandS.Strs
import HandS.Rev
import HandS.TupAny
import HandS.SetBool
import KE.KDictDisplayH
import HandS.EndTab
import PySem.Challenge.RW_longago_k12_shares_of_a_length
set_option Elab.async false
set_option linter.all false
set_option maxRecDepth 100000
set_option maxHeartbeats 4000000
namespace Lg
open PySem PySem.Spec PyProof.Rows L2
def topS (i : Nat) : Stmt := PySem.Challenge.pw_longago_k12_shares_of_a_length.main.body.getD i (.Pass ⟨0, 0, 0, 0⟩)
abbrev cLongError : Stmt := topS 2
abbrev cBadChain : Stmt := topS 3
abbrev cBadText : Stmt := topS 4
abbrev cNoSuch : Stmt := topS 5
abbrev cNotOne : Stmt := topS 6
abbrev cNeverOne : Stmt := topS 7
abbrev cNotOrdered : Stmt := topS 8
abbrev cTooMany : Stmt := topS 9
abbrev sFraction : Stmt := topS 11
abbrev sEverywhere : Stmt := topS 13
abbrev sLedTo : Stmt := topS 14
abbrev cChain : Stmt := topS 19
abbrev sIsMove : Stmt := topS 20
abbrev sShares : Stmt := topS 23
abbrev sBehindAStep : Stmt := topS 24
abbrev sCell : Stmt := topS 26
abbrev sDice : Stmt := topS 27
abbrev sOff : Stmt := topS 28
abbrev sChain : Stmt := topS 29
abbrev sMade : Stmt := topS 30
abbrev sNumbers : Stmt := topS 31
abbrev sLawLow : Stmt := topS 32
abbrev sLawAdd : Stmt := topS 33
abbrev sLawTimes : Stmt := topS 34
abbrev sLawSum : Stmt := topS 35
abbrev sLawIsShare : Stmt := topS 36
abbrev sLawAreShares : Stmt := topS 37
abbrev sLawEnds : Stmt := topS 38
abbrev sLawDrawn : Stmt := topS 39
abbrev sLawRows : Stmt := topS 40
abbrev sLawIsByMaps : Stmt := topS 41
abbrev sLawRefused : Stmt := topS 42
abbrev sLaw : Stmt := topS 43
section
/-- what e makes is locked for good -/
theorem pe_frz {X : Cx} {e : Expr} {t : TE} (h : PE X e t) : PE X e (fun σ H Q => t σ H fun x H1 => ∃ d u, x = .ref d ∧ H1 d = some u ∧ Mut (some u) ∧ ∀ od, Q x (upd H1 d (.frz od u))) := by
  constructor
  intro pins s σ H Q I hw
  refine thn (h.run pins s σ H _ I hw) fun v s1 got => ?_
  obtain ⟨x, H1, I1, r, d, u, ex, hd, mu, q⟩ := got
  obtain ⟨od, I2⟩ := I1.lock hd mu
  exact ⟨x, _, I2, r, q od⟩
end
/-! ### for k, v in d.items(), the dict's keys tuples -/
section
open PySem.Spec
variable {X : Cx} {pins : List (Addr × Obj)} {σ : L2.St} {H : Hp} {s : Shared} {d : Addr} {o : Obj}
theorem Inv.frzTv {kvs : List (List L2.Key × V)} (I : Inv X pins σ H s) (h : H d = some (.frz o (.dT kvs))) :
    (d == sysModules) = false ∧ s.heap.get? d = some o ∧ o.ExactDict ∧ ∃ (es : Array DictEntry) (ep : Nat), o.data = .dict es ep ∧ es.size = kvs.length ∧
      ∀ (i : Nat) (k : List L2.Key) (v : V), kvs[i]? = some (k, v) → ∃ (en : DictEntry) (q : Addr), es[i]? = some en ∧ en.key = .ref q ∧ H q = some (.tup (k.map kV)) ∧ RelV v en.val := by
  obtain ⟨hd, z, hs, xs, pr, o', es, ep, ho, hx, hdt, he, _⟩ := I.hok d _ h
  rw [hd] at ho
  cases ho
  refine ⟨hs, hd, hx, es, ep, hdt, ?_, fun i k v e => ?_⟩
  · have l1 : es.size = xs.length := size_of_entries he
    have l2 : kvs.length = xs.length := pr.length
    omega
  · obtain ⟨b, hb, e1, e2, e3⟩ := paired_get pr e
    have q := entry_at he i
    rw [hb] at q
    exact ⟨_, b.2.1, q, rfl, e2, e3⟩
/-- the pairs, each a new tuple -/
def ItiT (d : Addr) (o : Obj) (kvs : List (List L2.Key × V)) : It :=
  ⟨fun i H => H d = some (.frz o (.dT kvs)) ∧ i < kvs.length, fun i H x H' => ∃ (T q : Addr) (k : List L2.Key) (v : V), kvs[i]? = some (k, v) ∧ x = .ref T ∧ H T = none ∧ H q = some (.tup (k.map kV)) ∧ H' = upd H T (.tup [.ref q, v]), fun i H => H d = some (.frz o (.dT kvs)) ∧ kvs.length ≤ i⟩
theorem turn_itemsT {P : Program} {w : World} {K : PySem.W.Frag} {es : Array DictEntry} {ep : Nat} {kvs : List (List L2.Key × V)} {elts : List Expr} {kk : Nat} {tpos : Pos} (it : Addr) (hod : o.data = .dict es ep) :
    Turn P w K (.Tuple elts kk tpos) (ItiT d o kvs) [it] it (fun i h => ∃ ok ov, IsItemIter h it d i kvs.length ep ok ov) where
  mem := by simp
  obj := fun i h st b hb => by
    have e : b = it := by simpa using hb
    subst e
    obtain ⟨ok, ov, e⟩ := st
    exact ⟨_, e, fun v z => nomatch z⟩
  keep := fun i h h' st k => let ⟨ok, ov, e⟩ := st; ⟨ok, ov, k it (by simp) _ e⟩
  item := by
    intro X hP hw hK hc i pins s σ H E I hf st hg
    subst hP hw hK
    obtain ⟨hd, hi⟩ := hg
    obtain ⟨hs, hgd, hx, es', ep', hdt, hsz, ent⟩ := Inv.frzTv I hd
    obtain ⟨rfl, rfl⟩ := dict_ep hod hdt
    obtain ⟨⟨k, v⟩, hkv⟩ : ∃ p, kvs[i]? = some p := ⟨kvs[i], List.getElem?_eq_getElem hi⟩
    obtain ⟨en, q, hen, hkey, hq, rv⟩ := ent i k v hkv
    obtain ⟨ok, ov, he⟩ := st
    rw [← hsz] at he
    have hlt : it < s.heap.objs.size := Heap.lt_size he
    have hie : i < es'.size := by omega
    have een : es'[i] = en := by
      rw [Array.getElem?_eq_getElem hie] at hen
      exact Option.some.inj hen
    refine wpAny_pyNext_items_item_raw he ⟨o, hgd, hx, hdt⟩ hie fun h' ho hT hz hk => ?_
    refine ⟨_, rfl, wpAny_letOwnedTupleGo_items (s := { s with heap := h' }) ho fun h'' he' sb => ?_⟩
    rw [een] at hT
    have hT2 : h''.get? s.heap.objs.size = some { cls := .type "tuple", data := .seq #[en.key, en.val] } := (sb.2 _ (Nat.ne_of_gt hlt)).trans hT
    rw [hkey] at hT2
    have new : ObjOk X.prog X.w (upd H s.heap.objs.size (.tup [.ref q, v])) h'' s.heap.objs.size (.tup [.ref q, v]) :=
      ⟨by show 2 ≤ sizeLine; decide, [.ref q, en.val], .cons rfl (.cons rv .nil), ⟨_, hT2, rfl, _, rfl⟩⟩
    have I1 : Inv X pins σ (upd H s.heap.objs.size (.tup [.ref q, v])) { s with heap := h'' } :=
      I.turnedNew (t' := s.toks) (ch := [it]) (fun b ob hb e => (sb.2 b (by simpa using hb)).trans (hk b ob (by simpa using hb) e)) hf (Nat.le_refl _) new
    refine ⟨.ref s.heap.objs.size, _, I1, rfl, ⟨_, q, k, v, hkv, rfl, I.hok.fresh (Nat.le_refl _), hq, rfl⟩, ⟨es'[i].key, es'[i].val, ?_⟩, fun b hb => ?_⟩
    · rw [← hsz]; exact he'
    · have e : b = it := by simpa using hb
      rw [e, upd_ne (Nat.ne_of_lt hlt)]
      exact (hf it (by simp)).1
  done := by
    intro X hP hw hK hc i pins s σ H E I hf st hg
    subst hP hw hK
    obtain ⟨hd, hi⟩ := hg
    obtain ⟨f0, f1, f2, f3, f4, f5⟩ := hf it (by simp)
    obtain ⟨hs, hgd, hx, es', ep', hdt, hsz, ent⟩ := Inv.frzTv I hd
    obtain ⟨rfl, rfl⟩ := dict_ep hod hdt
    obtain ⟨ok, ov, he⟩ := st
    rw [← hsz] at he
    exact wpAny_pyNext_items_end_raw (I.ok.hd hc) he ⟨o, hgd, hx, hdt⟩ (by omega) fun h' eb => ⟨rfl, I.turned (t' := s.toks) (fun b ob hb e => eb b ob hb e) f0 f1 f3 f4 f5⟩
  self := fun A i s Q E st h => let ⟨_, _, e⟩ := st; PySem.W.kcp_self e h
def iItemsT (td : TE) : TI := fun σ H R => td σ H fun x H1 => ∃ d o kvs, x = .ref d ∧ H1 d = some (.frz o (.dT kvs)) ∧ R (ItiT d o kvs) H1
theorem pi_itemsT {e : Expr} {td : TE} {apos cpos : Pos} {elts : List Expr} {kk : Nat} {tpos : Pos} (he : PE X e td) (hbase : attributeBase e "items" X.env (eval e X.env) = eval e X.env := by rfl) (hline : (apos.endLine == cpos.line) = true := by rfl) :
    PI X (.Tuple elts kk tpos) (.Call (.Attribute e "items" apos) [] [] cpos) (iItemsT td) := by
  refine ⟨fun pins s σ H R I h => ?_⟩
  refine wpAny_Call_method (T := "dict") (id := "dict.items") hbase rfl hline PySem.F.plainAttrs_dict PySem.F.slot_dict_items PySem.F.type_dict_items (thn (he.run pins s σ H _ I h) fun u s1 ⟨x, H1, I1, rx, d, o, kvs, ex, hd, q⟩ => ?_)
  subst ex
  obtain rfl : u = Value.ref d := rx
  obtain ⟨hs, hgd, hx, es, ep, hdt, hsz, ent⟩ := Inv.frzTv I1 hd
  have hraw : s1.heap.DictRaw d es ep := ⟨o, hgd, hx, hdt⟩
  refine ⟨hraw.typeIs, ?_, ?_⟩
  · intro a e
    cases e
    exact ⟨o, hgd, hx.2.1⟩
  have I2 : Inv X pins σ H1 { s1 with heap := s1.heap.push { cls := .type "dict_items", data := .fields #[.ref d] } } := I1.kept (t' := s1.toks) fun b ob q => Heap.get?_push_of_some _ q
  have fin : wpAny (model X.prog X.w) X.A (pyIter (.ref s1.heap.objs.size)) (PIE X pins σ (.Tuple elts kk tpos) R) X.xe { s1 with heap := s1.heap.push { cls := .type "dict_items", data := .fields #[.ref d] } } := by
    refine wpAny_pyIter_items_raw (d := d) ⟨_, Heap.get?_push_size _ rfl, rfl, rfl⟩ (hraw.at fun ob q => Heap.get?_push_of_some _ q) (pi_one (tk := s1.toks) I2 _ (turn_itemsT _ hdt) ⟨.none, .none, ?_⟩ q)
    rw [← hsz]
    exact Heap.get?_push_size _ rfl
  show wpAny _ _ (callWith cpos (.builtin "dict.items") [.ref d] [] []) _ X.xe s1
  exact method_meetsIn PySem.F.slot_dict_items PySem.F.entry_dict_items rfl (PySem.evalArgs_none ⟨rfl, hraw.typeIs, PySem.F.args_dict_items_1 _, _, meets_dict_items_raw d hs, ⟨⟨es, ep, hraw⟩, fin⟩⟩)
end
/-! ### d.values(), the dict's keys tuples: their sum, a list of them -/
section
open PySem.Spec
theorem preSum_get (is : List Int) : ∀ n, n ≤ is.length → PySem.preSum (fun i => is.getD i 0) n = (is.take n).sum
  | 0, _ => by rw [List.take_zero]; rfl
  | n + 1, h => by
    show PySem.preSum (fun i => is.getD i 0) n + is.getD n 0 = _
    rw [preSum_get is n (by omega), List.take_add_one, List.sum_append, List.getD_eq_getElem?_getD, List.getElem?_eq_getElem (by omega)]
    simp
def tSumVals (td : TE) : TE := fun σ H Q => td σ H fun x H1 => ∃ (a : Addr) (kvs : List (List L2.Key × V)) (is : List Int), x = V.ref a ∧ H1 a = some (.dT kvs) ∧ kvs.map (·.2) = is.map V.int ∧ Q (.int is.sum) H1
def tLstVals (td : TE) : TE := fun σ H Q => td σ H fun x H1 => ∃ (a : Addr) (kvs : List (List L2.Key × V)), x = V.ref a ∧ H1 a = some (.dT kvs) ∧ kvs.length ≤ 1000 ∧ ∀ p, H1 p = none → Q (.ref p) (upd H1 p (.lst (kvs.map (·.2))))
theorem vals_getR {l₁ : List V} {l₂ : List Value} : ∀ {i : Nat} {b : Value}, Vals l₁ l₂ → l₂[i]? = some b → ∃ a, l₁[i]? = some a ∧ RelV a b := by
  intro i b h
  induction h generalizing i with
  | nil => intro e; simp at e
  | cons h t ih =>
    intro e
    cases i with
    | zero => cases e; exact ⟨_, rfl, h⟩
    | succ i => exact ih e
variable {X : Cx} {o : Expr} {p pos apos mpos : Pos} {td : TE}
theorem dT_vals0 {X : Cx} {H : Hp} : ∀ {kvs : List (List L2.Key × V)} {xs : List (List L2.Key × Addr × Value)}, Paired (fun p q => p.fst = q.fst ∧ H q.snd.fst = some (HO.tup (List.map kV p.fst)) ∧ L2.RelV p.snd q.snd.snd) kvs xs →
    Vals (kvs.map (·.2)) (xs.map ((fun x => x.val) ∘ entryOfKey (tupleKind (mixKind X.prog X.w))))
  | _, _, .nil => .nil
  | _, _, .cons h t => .cons h.2.2 (dT_vals0 t)
/-- the entries of a dict of tuples -/
theorem dT_vals {pins : List (Addr × Obj)} {σ : L2.St} {H : Hp} {s : Shared} {a : Addr} {kvs : List (List L2.Key × V)} (I : Inv X pins σ H s) (ha : H a = some (.dT kvs)) :
    ∃ (es : Array DictEntry) (ep : Nat), (a == sysModules) = false ∧ s.heap.DictRaw a es ep ∧ Vals (kvs.map (·.2)) (es.toList.map (·.val)) := by
  obtain ⟨z, lo, xs, pr, ob, es, ep, ho, hx, hdt, he, _⟩ := I.hok a _ ha
  refine ⟨es, ep, lo, ⟨ob, ho, hx, hdt⟩, ?_⟩
  rw [he, List.map_map]
  exact dT_vals0 pr
theorem pe_sumVals (hc : X.calm = true) (hg : Gl X "sum") (hm : X.mg "sum" = none) (hd : PE X o td) (hbase : attributeBase o "values" X.env (eval o X.env) = eval o X.env := by rfl) (hline : (apos.endLine == mpos.line) = true := by rfl)
    (hse : starEach [Expr.Call (.Attribute o "values" apos) [] [] mpos] X.env = [(false, eval (Expr.Call (.Attribute o "values" apos) [] [] mpos) X.env)] := by rfl) :
    PE X (.Call (.Name "sum" p) [.Call (.Attribute o "values" apos) [] [] mpos] [] pos) (tSumVals td) := by
  refine ⟨fun pins s σ H Q I h => ?_⟩
  refine wpAny_Call_Name_kw (ld_blt I hg hm (u := .builtin "sum") (by first | rfl | decide +kernel) ?_ (by first | decide +kernel | decide) (by first | decide +kernel | decide))
  rw [hse]
  refine PySem.callWith_builtin1 (wpAny_Call_method0_late hbase hline (thn (hd.run pins s σ H _ I h) fun v s1 ⟨x, H1, I1, r1, a, kvs, is, ex, ha, hv, q⟩ => ?_))
  subst ex
  obtain rfl : v = Value.ref a := r1
  obtain ⟨es, ep, hsys, raw, vs⟩ := dT_vals I1 ha
  obtain ⟨ob, ho, ex, hdat⟩ := id raw
  refine ⟨"dict", "dict.values", F.plainAttrs_dict, F.slot_dict_values, F.type_dict_values, ⟨ob, ho, ex.1⟩, fun b e => ?_, Calls.callWith_builtin rfl (PySem.evalArgs_none ?_)⟩
  · cases e
    exact ⟨ob, ho, ex.2.1⟩
  refine call_meetsIn F.slot_dict_values ⟨ob, ho, ex.1⟩ F.entry_dict_values (F.args_dict_values_1 _) (meets_dict_values_raw a hsys) ⟨⟨es, ep, raw⟩, ?_⟩
  have I2 : Inv X pins σ H1 { s1 with heap := s1.heap.push { cls := .type "dict_values", data := .fields #[.ref a] } } := I1.kept (t' := s1.toks) fun b ob q => Heap.get?_push_of_some _ q
  have raw2 : (s1.heap.push { cls := .type "dict_values", data := .fields #[.ref a] }).DictRaw a es ep := raw.at fun ob e => Heap.get?_push_of_some _ e
  have hview : (s1.heap.push { cls := .type "dict_values", data := .fields #[.ref a] }).IsValuesView s1.heap.objs.size a := ⟨_, Heap.get?_push_size _ rfl, rfl, rfl⟩
  have lv : es.size = is.length := by
    have e1 := vs.length
    have e2 := congrArg List.length hv
    simp only [List.length_map, Array.length_toList] at e1 e2
    omega
  have src := KdlSrc.rawValues (prog := X.prog) (w := X.w) (r := s1.heap.objs.size) (d := a) (es := es) (ep := ep)
  refine call_sum_walkAnyS ?_
  have hok := And.intro hview raw2
  obtain ⟨oI, St, hit, W, st⟩ := src.iter X.A.in1 { s1 with heap := s1.heap.push { cls := .type "dict_values", data := .fields #[.ref a] } } (I2.ok.hd hc) hok
  have old := src.there _ hok
  refine hit _ _ ⟨_, _, _, _, es.size, _, _, (fun i => is.getD i 0), rfl, W.toS, st, fun b hb => ?_, fun i v hiv => ?_, fun s' t' hm => ?_⟩
  · show b < ((s1.heap.push _).push oI).objs.size
    rw [Heap.size_push]
    rcases List.mem_cons.mp hb with e | hb
    · rw [e]; exact Nat.lt_succ_self _
    · rw [List.mem_singleton.mp hb]; exact Nat.lt_succ_of_lt old.2
  · obtain ⟨hi, ev⟩ := hiv
    rw [hv] at vs
    obtain ⟨x, h1, h2⟩ := vals_getR (i := i) (b := v) vs (by rw [List.getElem?_map, Array.getElem?_toList, Array.getElem?_eq_getElem hi, ev]; rfl)
    rw [List.getElem?_map] at h1
    obtain ⟨z, hz, rfl⟩ := Option.map_eq_some_iff.mp h1
    obtain ⟨t, e⟩ := h2
    refine ⟨t, ?_⟩
    show v = Value.int (is.getD i 0) t
    rw [e, List.getD_eq_getElem?_getD, hz]
    rfl
  · have hk : ∀ b o, s1.heap.get? b = some o → s'.heap.get? b = some o := fun b o e => by
      have e1 : (s1.heap.push { cls := .type "dict_values", data := .fields #[.ref a] }).get? b = some o := Heap.get?_push_of_some _ e
      refine hm.heap b o (fun hI => ?_) (Heap.get?_push_of_some _ e1)
      have := Heap.lt_size e1
      rw [List.mem_singleton.mp hI] at this
      exact Nat.lt_irrefl _ this
    rw [Moved.eq_with hm]
    refine ⟨.int is.sum, H1, I1.kept (t' := s'.toks) hk, ⟨t', ?_⟩, q⟩
    rw [preSum_get is es.size (by omega), lv, List.take_length]
/-- list(d.values()) -/
theorem pe_lstVals (hc : X.calm = true) (hg : Gl X "list") (hm : X.mg "list" = none) (hd : PE X o td) (hbase : attributeBase o "values" X.env (eval o X.env) = eval o X.env := by rfl) (hline : (apos.endLine == mpos.line) = true := by rfl)
    (hse : starEach [Expr.Call (.Attribute o "values" apos) [] [] mpos] X.env = [(false, eval (Expr.Call (.Attribute o "values" apos) [] [] mpos) X.env)] := by rfl) :
    PE X (.Call (.Name "list" p) [.Call (.Attribute o "values" apos) [] [] mpos] [] pos) (tLstVals td) := by
  refine ⟨fun pins s σ H Q I h => ?_⟩
  refine wpAny_Call_Name_kw (ld_blt I hg hm (u := .type "list") (by first | rfl | decide +kernel) ?_ (by first | decide +kernel | decide) (by first | decide +kernel | decide))
  rw [hse]
  refine PySem.callWith_type1 (wpAny_Call_method0_late hbase hline (thn (hd.run pins s σ H _ I h) fun v s1 ⟨x, H1, I1, r1, a, kvs, ex, ha, few, q⟩ => ?_))
  subst ex
  obtain rfl : v = Value.ref a := r1
  obtain ⟨es, ep, hsys, raw, vs⟩ := dT_vals I1 ha
  obtain ⟨ob, ho, ex, hdat⟩ := id raw
  refine ⟨"dict", "dict.values", F.plainAttrs_dict, F.slot_dict_values, F.type_dict_values, ⟨ob, ho, ex.1⟩, fun b e => ?_, Calls.callWith_builtin rfl (PySem.evalArgs_none ?_)⟩
  · cases e
    exact ⟨ob, ho, ex.2.1⟩
  refine call_meetsIn F.slot_dict_values ⟨ob, ho, ex.1⟩ F.entry_dict_values (F.args_dict_values_1 _) (meets_dict_values_raw a hsys) ⟨⟨es, ep, raw⟩, ?_⟩
  have kp0 : ∀ b u, s1.heap.get? b = some u → (s1.heap.push { cls := .type "dict_values", data := .fields #[.ref a] }).get? b = some u := fun b ob q => Heap.get?_push_of_some _ q
  have I2 : Inv X pins σ H1 { s1 with heap := s1.heap.push { cls := .type "dict_values", data := .fields #[.ref a] } } := I1.kept (t' := s1.toks) kp0
  have raw2 : (s1.heap.push { cls := .type "dict_values", data := .fields #[.ref a] }).DictRaw a es ep := raw.at fun ob e => Heap.get?_push_of_some _ e
  have hview : (s1.heap.push { cls := .type "dict_values", data := .fields #[.ref a] }).IsValuesView s1.heap.objs.size a := ⟨_, Heap.get?_push_size _ rfl, rfl, rfl⟩
  have lv : es.size = kvs.length := by
    have e1 := vs.length
    simp only [List.length_map, Array.length_toList] at e1
    omega
  refine PySem.W.kdl_call (KdlSrc.rawValues (es := es) (ep := ep)) (I2.ok.hd hc) ⟨hview, raw2⟩ (by rw [lv, sizeLine_eq]; omega) fun h' tk acc c kp hg hacc => ?_
  have hv : Vals (kvs.map (·.2)) acc.toList := by
    have e : acc.toList = es.toList.map (·.val) := by
      refine List.ext_getElem? fun i => ?_
      rw [Array.getElem?_toList, List.getElem?_map, Array.getElem?_toList]
      cases c : acc[i]? with
      | none =>
        have : es.size ≤ i := by rw [← hacc.1]; exact Array.getElem?_eq_none_iff.mp c
        rw [Array.getElem?_eq_none this]
        rfl
      | some v =>
        obtain ⟨hi, e⟩ := hacc.2 i v c
        rw [Array.getElem?_eq_getElem hi, e]
        rfl
    rw [e]
    exact vs
  have hn : H1 (s1.heap.push { cls := .type "dict_values", data := .fields #[.ref a] }).objs.size = none := I2.hok.fresh (Nat.le_refl _)
  have J : Inv X pins σ (upd H1 (s1.heap.push { cls := .type "dict_values", data := .fields #[.ref a] }).objs.size (.lst (kvs.map (·.2)))) { s1 with heap := h', toks := tk } := I2.laid (t' := tk) kp (Nat.le_refl _) ⟨by rw [List.length_map, sizeLine_eq]; omega, acc.toList, c, hv, by rw [Array.toArray_toList]; exact hg⟩
  exact ⟨.ref (s1.heap.push { cls := .type "dict_values", data := .fields #[.ref a] }).objs.size, _, J, rfl, q _ hn⟩
end
section
/-! ### t * 1: the same tuple -/
theorem tuple_mulSame (l : Addr) (items : Array Value) (n : Nat) (dd : Option Addr) (sl : Array (Option Value)) (u : Tok) :
    Meets (Builtin.«tuple.__mul__» ⟨[.ref l, .int 1 u], []⟩) (fun _ R s => s.heap.get? l = some { cls := .type "tuple", dict := dd, data := .seq items n, slots := sl } ∧ R (.ok (.ret (Value.ref l))) s) :=
  .of_wp fun prog w A R s h => by
    obtain ⟨hp, g, d, tk, os⟩ := s
    obtain ⟨hl, h⟩ := h
    have f1 := AutoSeq1.idx_int
    have c0 : (decide ((1 : Int) < -(2 ^ 63)) || decide ((1 : Int) ≥ 2 ^ 63)) = false := by decide
    have c1 : (items.isEmpty || (1 : Int) == 1) = true := by rw [show ((1 : Int) == 1) = true by decide, Bool.or_true]
    wp_walk using wpAny_loadPart' hl
    repeat (first
      | (refine wpAny_ite_false (decide_eq_false (by rw [c0]; exact Bool.false_ne_true)) ?_; wp_walk using wpAny_loadPart' hl)
      | (refine wpAny_ite_true (decide_eq_true (by rw [c1])) ?_; wp_walk using wpAny_loadPart' hl))
    exact ⟨_, rfl, h⟩
variable {X : Cx}
def rRepSame (K : PySem.W.Frag) : R2 := fun x y H Q => ∃ l xs, x = .ref l ∧ y = .int 1 ∧ SqT K H l xs ∧ xs ≠ [] ∧ Q (.ref l) H
theorem op_repSame : OpR X (binaryOp .Mult) (rRepSame X.K) := by
  intro pins s σ H x y v u Q I rx ry h
  obtain ⟨l, xs, rfl, rfl, hT, hne, q⟩ := h
  cases rx
  obtain ⟨t, rfl⟩ := ry
  obtain ⟨its, r, ⟨⟨cls, dd, data, sl⟩, ho, hc, n, hd⟩, hs⟩ := I.tuple hT
  simp only at hc hd
  subst hc hd
  refine wpAny_binaryOp_repeat_ref (T := "tuple") (U := "int") (by decide) ⟨_, ho, rfl⟩ (fun s' => typeIs_int s' 1 t) noFill_tuple_mul F.fills_int_mul F.slot_int_rmul repeat_tuple F.slot_int_index.lookup
    (call_meets F.slot_int_rmul (typeIs_int s 1 t) F.entry_int_rmul (F.args_int_rmul_2 _ _) (int_rmul_tuple 1 t l its.toArray n dd sl)
      ⟨ho, rfl, ⟨_, ho, rfl⟩, call_meets F.slot_tuple_mul ⟨_, ho, rfl⟩ F.entry_tuple_mul (F.args_tuple_mul_2 _ _) (tuple_mulSame l its.toArray n dd sl t) ⟨ho, ?_⟩⟩)
  exact ⟨.ref l, H, I, rfl, q⟩
theorem op_or {op : Value → Value → Sem Value} {r1 r2 : R2} (h1 : OpR X op r1) (h2 : OpR X op r2) : OpR X op (fun x y H Q => r1 x y H Q ∨ r2 x y H Q) := by
  intro pins s σ H x y v u Q I rx ry h
  rcases h with h | h
  · exact h1 pins s σ H x y v u Q I rx ry h
  · exact h2 pins s σ H x y v u Q I rx ry h
/-- t * k, k from 1 -/
def rRepAny (K : PySem.W.Frag) : R2 := fun x y H Q => rRepSame K x y H Q ∨ rRepT K x y H Q
theorem op_repAny : OpR X (binaryOp .Mult) (rRepAny X.K) := op_or op_repSame op_repT
/-- one int, so many times -/
theorem rep_ints {K : PySem.W.Frag} {H : Hp} {l : Addr} {p : Int} {k : Nat} {Q : VK} (hl : H l = some (.tup [.int p])) (h1 : 1 ≤ k) (h2 : k ≤ 1000) (h : ∀ a H', Same H H' → H' a = some (.tup ((List.replicate k p).map V.int)) → Q (.ref a) H') : rRepAny K (.ref l) (.int (k : Int)) H Q := by
  by_cases e : k = 1
  · subst e
    exact .inl ⟨l, _, rfl, rfl, SqT.of hl, List.cons_ne_nil _ _, h l H (fun b o e => e) hl⟩
  · refine .inr ⟨l, _, _, rfl, rfl, SqT.of hl, List.cons_ne_nil _ _, by omega, by omega, (by show 1 ≤ 1000; decide), fun a na => h a _ (fun b o e => ?_) ?_⟩
    · rw [upd_ne (ne_of_none e na)]
      exact e
    · rw [upd_same, Int.toNat_natCast]
      have : ∀ n : Nat, (List.replicate n [V.int p]).flatten = (List.replicate n p).map V.int := fun n => by
        induction n with
        | zero => rfl
        | succ n ih => rw [List.replicate_succ, List.flatten_cons, ih, List.replicate_succ, List.map_cons]; rfl
      rw [this]
end
section
variable {X : Cx}
/-- a // b, b any but 0 -/
def CDivZ (i j : Int) : Prop := j ≠ 0 ∧ j.natAbs.log2 < 9000
theorem op_fdivZ : OpR X (binaryOp .FloorDiv) (rI CDivZ fun i j => .int (i.fdiv j)) := opI fun i j _ _ _ _ _ hc q => by
  have h1 : j ≠ 0 := hc.1
  exact floordiv_int h1 q (.inl (PyProof.noPylong_of_log2 hc.2))
theorem div_ok {i j : Int} {b : Nat} (h : j ≠ 0) (hb : j.natAbs < 2 ^ b) (h0 : 0 < b) (h9 : b ≤ 9000) : CDivZ i j := ⟨h, Nat.lt_of_lt_of_le (PySem.Flt.log2_lt_of h0 hb) h9⟩
end
/-! ### fractions: the mathematics -/
def gcdI (x y : Int) : Int := ((Nat.gcd x.natAbs y.natAbs : Nat) : Int)
def frac (x y : Int) : Int × Int := (x / gcdI x y, y / gcdI x y)
theorem gcdI_pos {x y : Int} (h : 0 < y) : 0 < gcdI x y := by
  unfold gcdI
  have : 0 < Nat.gcd x.natAbs y.natAbs := Nat.gcd_pos_of_pos_right _ (by omega)
  omega
theorem gcdI_dl (x y : Int) : gcdI x y ∣ x := by
  unfold gcdI
  exact Int.ofNat_dvd_left.mpr (Nat.gcd_dvd_left _ _)
theorem gcdI_dr (x y : Int) : gcdI x y ∣ y := by
  unfold gcdI
  exact Int.ofNat_dvd_left.mpr (Nat.gcd_dvd_right _ _)
theorem gcdI_scale {k : Int} (hk : 0 < k) (x y : Int) : gcdI (k * x) (k * y) = k * gcdI x y := by
  unfold gcdI
  rw [Int.natAbs_mul, Int.natAbs_mul, Nat.gcd_mul_left]
  have : ((k.natAbs : Nat) : Int) = k := by omega
  rw [Int.natCast_mul, this]
theorem frac_scale {k : Int} (hk : 0 < k) (x y : Int) : frac (k * x) (k * y) = frac x y := by
  unfold frac
  rw [gcdI_scale hk, Int.mul_ediv_mul_of_pos _ _ hk, Int.mul_ediv_mul_of_pos _ _ hk]
theorem frac_l (x y : Int) : gcdI x y * (frac x y).1 = x := Int.mul_ediv_cancel' (gcdI_dl x y)
theorem frac_r (x y : Int) : gcdI x y * (frac x y).2 = y := Int.mul_ediv_cancel' (gcdI_dr x y)
theorem frac_pos {x y : Int} (h : 0 < y) : 0 < (frac x y).2 := by
  have h1 := frac_r x y
  have h2 := gcdI_pos (x := x) h
  refine Int.not_le.mp fun hn => ?_
  have h3 := Int.mul_le_mul_of_nonneg_left hn (Int.le_of_lt h2)
  rw [h1, Int.mul_zero] at h3
  omega
theorem frac_le {x y : Int} (h : 0 < y) : (frac x y).2 ≤ y := by
  have h1 := frac_r x y
  have h2 := gcdI_pos (x := x) h
  have h3 := frac_pos (x := x) h
  have h4 : 1 * (frac x y).2 ≤ gcdI x y * (frac x y).2 := Int.mul_le_mul_of_nonneg_right (by omega) (by omega)
  omega
theorem frac_nn {x y : Int} (hx : 0 ≤ x) (h : 0 < y) : 0 ≤ (frac x y).1 := Int.ediv_nonneg hx (Int.le_of_lt (gcdI_pos h))
theorem frac_top {x y : Int} (hx : 0 ≤ x) (h : 0 < y) : (frac x y).1 ≤ x := Int.ediv_le_self _ hx
theorem frac_idem {x y : Int} (h : 0 < y) : frac (frac x y).1 (frac x y).2 = frac x y := by
  have h2 := gcdI_pos (x := x) h
  have e := frac_scale h2 (frac x y).1 (frac x y).2
  rw [frac_l, frac_r] at e
  exact e.symm
/-- the sum of two fractions of one bottom -/
theorem frac_add {x y z : Int} (h : 0 < z) : frac ((frac x z).1 * (frac y z).2 + (frac y z).1 * (frac x z).2) ((frac x z).2 * (frac y z).2) = frac (x + y) z := by
  have g1 := gcdI_pos (x := x) h
  have g2 := gcdI_pos (x := y) h
  have e1 := frac_l x z
  have e2 := frac_r x z
  have e3 := frac_l y z
  have e4 := frac_r y z
  generalize (frac x z).1 = a at *
  generalize (frac x z).2 = b at *
  generalize (frac y z).1 = c at *
  generalize (frac y z).2 = d at *
  generalize gcdI x z = k at *
  generalize gcdI y z = l at *
  rw [← frac_scale (Int.mul_pos g1 g2)]
  have f1 : k * l * (a * d + c * b) = z * (x + y) := by
    have : k * l * (a * d + c * b) = (k * a) * (l * d) + (l * c) * (k * b) := by
      rw [Int.mul_add]
      congr 1
      · ac_rfl
      · ac_rfl
    rw [this, e1, e4, e3, e2, Int.mul_add, Int.mul_comm x z, Int.mul_comm y z]
  have f2 : k * l * (b * d) = z * z := by
    have : k * l * (b * d) = (k * b) * (l * d) := by ac_rfl
    rw [this, e2, e4]
  rw [f1, f2]
  exact frac_scale h _ _
theorem frac_self {z : Int} (h : 0 < z) : frac z z = (1, 1) := by
  have e := frac_scale h 1 1
  rw [Int.mul_one] at e
  rw [e]
  decide
theorem frac_zero {z : Int} (h : 0 < z) : frac 0 z = (0, 1) := by
  have e := frac_scale h 0 1
  rw [Int.mul_one, Int.mul_zero] at e
  rw [e]
  decide
/-- the steps of the law's own reckoning keep the greatest divisor -/
theorem gcdI_step {x y : Int} (hx : 0 ≤ x) (hy : 0 < y) : gcdI y (x % y) = gcdI x y := by
  unfold gcdI
  have h1 : (x % y).natAbs = x.natAbs % y.natAbs := Int.natAbs_emod_of_nonneg hx y |> fun z => z
  rw [h1]
  congr 1
  rw [Nat.gcd_comm, ← Nat.gcd_rec, Nat.gcd_comm]
theorem gcdI_zero {x : Int} (hx : 0 ≤ x) : gcdI x 0 = x := by
  unfold gcdI
  rw [show (0 : Int).natAbs = 0 from rfl, Nat.gcd_zero_right]
  omega
theorem gcdI_abs (x y : Int) : gcdI (if x < 0 then -x else x) y = gcdI x y := by
  unfold gcdI
  congr 2
  split <;> omega

/-! ### isinstance(e, (A, B, ..)) of the exception that an except suite holds: a rule of our own -/
/-- e, the classes in a tuple -/
def rExT (K : PySem.W.Frag) (D a : Addr) : List V → Hp → VK → Prop := fun xs H Q =>
  ∃ (tp : Addr) (cs : List V) (us : List Value) (b : Bool), xs = [.ref a, .ref tp] ∧ H tp = some (.tup cs) ∧ Paired ClsV cs us ∧ PySem.W.kitAny K (.ref D) us = some b ∧ Q (.bl b) H
theorem held_at {oe : Obj} {a D : Addr} {h : Heap} (got : h.get? a = some oe) (z : Zc (.ref D) none oe) (f : ∃ vs, oe.data = .fields vs) : PySem.W.InstAt h a oe D none := by
  obtain ⟨vs, fv⟩ := f
  obtain ⟨c0, d0, data0, s0⟩ := oe
  have z1 : c0 = .ref D := z.1
  have z2 : d0 = none := z.2
  have z3 : data0 = .fields vs := fv
  subst z1
  subst z2
  subst z3
  exact ⟨got, rfl, rfl, trivial⟩
theorem call_exT {X : Cx} {a D : Addr} {oe : Obj} {pn : List (Addr × Obj)} (C : ExcC X.K D) (z : Zc (.ref D) none oe) (f : ∃ vs, oe.data = .fields vs) : CallR (X.suite a ((a, oe) :: pn)) (.builtin "isinstance") (rExT X.K D a) := by
  intro pins s σ H xs us Q I r h
  obtain ⟨tp, cs, ws, b, rfl, hT, k, e, q⟩ := h
  obtain ⟨u1, u2, rfl, r1, r2⟩ := vals2 r
  cases (show u1 = Value.ref a from r1)
  cases (show u2 = Value.ref tp from r2)
  have got := (I.pin (a, oe) (List.mem_append.mpr (.inl List.mem_cons_self))).1
  obtain ⟨_, its, rv, ⟨oc, od, dt, sl⟩, g1, g2, n, g3⟩ := (show ObjOk X.prog X.w H s.heap tp (.tup cs) from I.hok tp _ hT)
  have same := ClsV.all k rv
  subst same
  have c1 : oc = .type "tuple" := g2
  have c2 : dt = .seq its.toArray n := g3
  subst c1
  subst c2
  exact PySem.W.kia_tup (PySem.W.handS_kitx_exc C.hg C.hk C.hs C.hd C.ha C.hn C.ht C.hm) I.kIn (held_at got z f) g1 e (fun z => nomatch z) fun tk => ⟨.bl b, H, I.tok tk, rfl, q⟩
/-- an own error without an __init__ of its own, at C -/
structure OwnE (K : PySem.W.Frag) (mg : Str → Option Value) (x : Str) (C : Addr) : Prop where
  g : mg x = some (.ref C)
  k : PySem.W.keepIn K (.ref C) = true
  x : PySem.W.excIn K C [.type "ValueError", .type "Exception", .type "BaseException", .type "object"] "ValueError.__new__" = true
  b : PySem.W.subIn K (.ref C) (.type "BaseException") = some true
  t : PySem.W.typeIn K (.ref C) = some (.type "type")
theorem app_fits {a b : Str} (h1 : a.length ≤ 1000) (h2 : b.length ≤ 1921) : (a ++ b).length ≤ sizeLine := by
  have e : (a ++ b).length = a.length + b.length := by
    show (a.cps ++ b.cps).size = a.cps.size + b.cps.size
    rw [Array.size_append]
  rw [e]
  exact Nat.le_trans (show a.length + b.length ≤ 2921 by omega) (by decide)
theorem app_le {a b : Str} {m n : Nat} (h1 : a.length ≤ m) (h2 : b.length ≤ n) : (a ++ b).length ≤ m + n := by
  have e : (a ++ b).length = a.length + b.length := by
    show (a.cps ++ b.cps).size = a.cps.size + b.cps.size
    rw [Array.size_append]
  omega
theorem line4k {n : Nat} (h : n ≤ 9000) : n ≤ sizeLine := Nat.le_trans h (by decide)
theorem log_small {n : Int} (h : n.natAbs ≤ 2000000) : n.natAbs.log2 < 1920 := by
  by_cases c : n.natAbs = 0
  · rw [c]
    decide
  · exact (Nat.log2_lt c).mpr (Nat.lt_of_le_of_lt h (by decide))
theorem int_len {n : Int} (h : n.natAbs.log2 < 1920) : (Str.ofString (toString n)).length ≤ 1921 := by
  have e := int_text_length_le (k := 1920) (by decide) h
  rw [PySem.ofString_length]
  omega
theorem fitA {a b : Str} {m n : Nat} (h1 : a.length ≤ m) (h2 : b.length ≤ n) (h : m + n ≤ 9000) : (a ++ b).length ≤ sizeLine := Nat.le_trans (app_le h1 h2) (line4k h)
/-! ### an error that is caught and looked at: isinstance(e, (six others)), then isinstance(e, its own) and isinstance(e, ValueError) -/
theorem FnOk.or {P : Program} {w : World} {K : PySem.W.Frag} {mg : Str → Option Value} {base : Heap} {CX : CXT} {k : Nat} {f : Addr} {fd : FuncData} {ps : List Str} {sp sq : Sp} (F : FnOk P w K mg base CX k f fd ps sp) (G : FnOk P w K mg base CX k f fd ps sq) : FnOk P w K mg base CX k f fd ps (fun vs H Q E => sp vs H Q E ∨ sq vs H Q E) :=
  ⟨fun vs H Q E h => h.elim (F.len vs H Q E) (G.len vs H Q E), fun A outer s H args us vs Q E hr e b v h => h.elim (F.run A outer s H args us vs Q E hr e b v) (G.run A outer s H args us vs Q E hr e b v)⟩
theorem pss_given {X : Cx} {ss : List Stmt} {t : TS} {p : Prop} (h : p → PSs X ss t) : PSs X ss (fun D σ H => p ∧ t D σ H) := ⟨fun pins s σ H D I hh => (h hh.1).run pins s σ H D I hh.2⟩
structure RefG (K : PySem.W.Frag) (mg : Str → Option Value) (xE x1 x2 x3 x4 x5 x6 : Str) (CL CE c1 c2 c3 c4 c5 c6 : Addr) : Prop where
  gL : mg "LongError" = some (.ref CL)
  ex : PySem.W.exmOne K (.ref CE) (.ref CL) = some true
  N : OwnE K mg xE CE
  E : ExcC K CE
  g1 : mg x1 = some (.ref c1)
  g2 : mg x2 = some (.ref c2)
  g3 : mg x3 = some (.ref c3)
  g4 : mg x4 = some (.ref c4)
  g5 : mg x5 = some (.ref c5)
  g6 : mg x6 = some (.ref c6)
  no : PySem.W.kitAny K (.ref CE) [.ref c1, .ref c2, .ref c3, .ref c4, .ref c5, .ref c6] = some false
  yes : PySem.W.kitOne K (.ref CE) (.ref CE) = some true
  val : PySem.W.kitOne K (.ref CE) (.type "ValueError") = some true
  mi : mg "isinstance" = none
  mv : mg "ValueError" = none
def t_suiteG (K : PySem.W.Frag) (i : Nat) (CE c1 c2 c3 c4 c5 c6 : Addr) (a : Addr) : TS :=
  tSeq (tIfS (tB (tCB (rExT K CE a) (tCons (tVar i) (tCons (tTup (tCons (tC (.ref c1)) (tCons (tC (.ref c2)) (tCons (tC (.ref c3)) (tCons (tC (.ref c4)) (tCons (tC (.ref c5)) (tCons (tC (.ref c6)) tNil))))))) tNil)))) (tRet (tC (.bl false))) tNext)
    (tRet (tAndV (tCB (rIsE K CE a) (tCons (tVar i) (tCons (tC (.ref CE)) tNil))) (tCB (rIsE K CE a) (tCons (tVar i) (tCons (tC (.ty "ValueError")) tNil)))))
/-- what the suite comes to -/
theorem suiteG {K : PySem.W.Frag} {mg : Str → Option Value} {xE x1 x2 x3 x4 x5 x6 : Str} {CL CE c1 c2 c3 c4 c5 c6 a : Addr} (R : RefG K mg xE x1 x2 x3 x4 x5 x6 CL CE c1 c2 c3 c4 c5 c6) {i : Nat} {D : Ends} {σ : L2.St} {H : Hp} (hi : σ[i]? = some (some (.ref a)))
    (q : ∀ p o, H p = none → D.rt (.bl true) (upd H p o)) : t_suiteG K i CE c1 c2 c3 c4 c5 c6 a D σ H := by
  refine ⟨.ref a, hi, (by show 6 ≤ sizeLine; decide), fun tp ntp => ?_⟩
  refine ⟨tp, _, _, false, rfl, upd_same, .cons (.own _) (.cons (.own _) (.cons (.own _) (.cons (.own _) (.cons (.own _) (.cons (.own _) .nil))))), R.no, false, rfl, iteF ?_⟩
  refine ⟨.ref a, hi, .ref CE, _, true, rfl, (fun u r => r), R.yes, true, rfl, iteT ?_⟩
  exact ⟨.ref a, hi, .ty "ValueError", _, true, rfl, (fun u r => r), R.val, q _ _ ntp⟩
def goK (f : List Int) (p : Int) : Int := f.getD p.toNat 0
theorem rise_same : ∀ {xs ys : List Int}, xs.Pairwise (· < ·) → ys.Pairwise (· < ·) → (∀ k, k ∈ xs ↔ k ∈ ys) → xs = ys
  | [], [], _, _, _ => rfl
  | [], y :: ys, _, _, h => by have := (h y).mpr List.mem_cons_self; simp at this
  | x :: xs, [], _, _, h => by have := (h x).mp List.mem_cons_self; simp at this
  | x :: xs, y :: ys, hx, hy, h => by
    obtain ⟨x1, x2⟩ := List.pairwise_cons.mp hx
    obtain ⟨y1, y2⟩ := List.pairwise_cons.mp hy
    have e : x = y := by
      rcases List.mem_cons.mp ((h x).mp List.mem_cons_self) with a | a
      · exact a
      · rcases List.mem_cons.mp ((h y).mpr List.mem_cons_self) with b | b
        · exact b.symm
        · have := y1 x a
          have := x1 y b
          omega
    subst e
    rw [rise_same x2 y2 fun k => ⟨fun hk => ?_, fun hk => ?_⟩]
    · rcases List.mem_cons.mp ((h k).mp (List.mem_cons_of_mem _ hk)) with a | a
      · have := x1 k hk
        omega
      · exact a
    · rcases List.mem_cons.mp ((h k).mpr (List.mem_cons_of_mem _ hk)) with a | a
      · have := y1 k hk
        omega
      · exact a
/-! ### what is the same in all these texts: heaps -/
/-- all that is tracked, but at d, is as it was -/
def Gr (d : Addr) (H H' : Hp) : Prop := ∀ b o, b ≠ d → H b = some o → H' b = some o
theorem Gr.refl (d : Addr) (H : Hp) : Gr d H H := fun _ _ _ e => e
theorem Gr.trans {d : Addr} {H H1 H2 : Hp} (a : Gr d H H1) (b : Gr d H1 H2) : Gr d H H2 := fun c o n e => b c o n (a c o n e)
theorem Gr.new {d : Addr} {H H1 : Hp} {p : Addr} {o : HO} (a : Gr d H H1) (h : H1 p = none) : Gr d H (upd H1 p o) := fun b u n e => by
  have q := a b u n e
  rw [upd_ne (ne_of_none q h)]
  exact q
theorem Gr.off {d : Addr} {H H1 H2 : Hp} (a : Gr d H H1) (h : ∀ b, b ≠ d → H2 b = H1 b) : Gr d H H2 := fun b u n e => by
  rw [h b n]
  exact a b u n e
theorem same_new {H : Hp} {p : Addr} {o : HO} (h : H p = none) : Same H (upd H p o) := fun b x e => by
  rw [upd_ne (ne_of_none e h)]
  exact e
theorem Gr.of_same {d : Addr} {H H' : Hp} (s : Same H H') : Gr d H H' := fun b o _ e => s b o e
/-- the dice at d -/
def dl (s0 : Int) (l : Addr) (k big : Int) : List V := [.int s0, .ref l, .int k, .int big]
theorem map_int_dl {ns : List Int} {s0 k big : Int} {l : Addr} : ns.map V.int ≠ dl s0 l k big := by
  intro e
  have h : (ns.map V.int)[1]? = some (V.ref l) := by rw [e]; rfl
  rw [List.getElem?_map] at h
  cases q : ns[1]? with
  | none => rw [q] at h; cases h
  | some z => rw [q] at h; cases h
/-- a list that is known ahead of p's making, and p's writing -/
theorem seq_put {K : PySem.W.Frag} {H0 H : Hp} {l p : Addr} {xs : List V} {o : HO} (h0 : SqL K H0 l xs) (n0 : H0 p = none) (h : SqL K H l xs) : SqL K (upd H p o) l xs := by
  have ne : Rd H0 l (.lst xs) → l ≠ p := fun r => by
    rcases r with r | ⟨o', r⟩
    · exact ne_of_none r n0
    · exact ne_of_none r n0
  rcases h0 with r0 | k
  · have n := ne r0
    rcases h with (h | ⟨o', h⟩) | h
    · exact .inl (.inl (by rw [upd_ne n]; exact h))
    · exact .inl (.inr ⟨o', by rw [upd_ne n]; exact h⟩)
    · exact .inr h
  · exact .inr k
/-- the script stands when the dice turns -/
theorem seq_turn {K : PySem.W.Frag} {H H' : Hp} {d l l' : Addr} {ns : List Int} {s0 k big : Int} (hd : H d = some (.lst (dl s0 l' k big))) (h : SqL K H l (ns.map V.int)) (q : ∀ b, b ≠ d → H' b = H b) : SqL K H' l (ns.map V.int) := by
  rcases h with (h | ⟨o, h⟩) | h
  · refine .inl (.inl ?_)
    rw [q]
    · exact h
    · intro z
      rw [z, hd] at h
      injection h with h
      injection h with h
      exact map_int_dl h.symm
  · refine .inl (.inr ⟨o, ?_⟩)
    rw [q]
    · exact h
    · intro z
      rw [z, hd] at h
      cases h
  · exact .inr h
def Dc (K : PySem.W.Frag) (l : Addr) (ns : List Int) (H : Hp) (d : Addr) : Prop := ∃ (s0 k big : Int), H d = some (.lst (dl s0 l k big)) ∧ SqL K H l (ns.map V.int) ∧ ns.length ≤ 63 ∧ 0 ≤ s0 ∧ s0 < 2147483647 ∧ 0 ≤ k ∧ 0 ≤ big
theorem Dc.same {K : PySem.W.Frag} {H H' : Hp} {l d : Addr} {ns : List Int} (s : Same H H') (h : Dc K l ns H d) : Dc K l ns H' d := by
  obtain ⟨s0, k, big, h1, h2, h3⟩ := h
  exact ⟨s0, k, big, s _ _ h1, s.seq h2, h3⟩
theorem Dc.seq {K : PySem.W.Frag} {H : Hp} {l d : Addr} {ns : List Int} (h : Dc K l ns H d) : SqL K H l (ns.map V.int) := by
  obtain ⟨s0, k, big, h1, h2, h3⟩ := h
  exact h2
theorem Dc.new {K : PySem.W.Frag} {H : Hp} {l d p : Addr} {ns : List Int} {o : HO} (h : Dc K l ns H d) (n : H p = none) : Dc K l ns (upd H p o) d := h.same (same_new n)
theorem Dc.some {K : PySem.W.Frag} {H : Hp} {l d : Addr} {ns : List Int} (h : Dc K l ns H d) : ∃ s0 k big, H d = Option.some (HO.lst (dl s0 l k big)) := by
  obtain ⟨s0, k, big, h1, _⟩ := h
  exact ⟨s0, k, big, h1⟩
theorem Dc.ne {K : PySem.W.Frag} {H : Hp} {l d p : Addr} {ns : List Int} (h : Dc K l ns H d) (n : H p = none) : p ≠ d := by
  obtain ⟨s0, k, big, e⟩ := h.some
  exact (ne_of_none e n).symm
/-- the dice is a list that begins with an int and a ref: no other list that we know -/
theorem Dc.ne_of {K : PySem.W.Frag} {H : Hp} {l d p : Addr} {ns : List Int} {u : HO} (h : Dc K l ns H d) (n : H p = Option.some u) (q : ∀ s0 l k big, u ≠ .lst (dl s0 l k big)) : p ≠ d := by
  obtain ⟨s0, k, big, e⟩ := h.some
  intro z
  rw [z, e] at n
  exact q _ _ _ _ (Option.some.inj n).symm
/-- another list is written, one that is newer than the script -/
theorem Dc.turn {K : PySem.W.Frag} {H0 H : Hp} {l d d0 p : Addr} {ns : List Int} {o : HO} (h : Dc K l ns H d) (h0 : Dc K l ns H0 d0) (n0 : H0 p = none) (n : p ≠ d) : Dc K l ns (upd H p o) d := by
  obtain ⟨s0, k, big, h1, h2, h3⟩ := h
  refine ⟨s0, k, big, ?_, seq_put h0.seq n0 h2, h3⟩
  rw [upd_ne n.symm]
  exact h1
/-! ### a chain's data -/
abbrev Mv := Int × List Int
def GoodRow (many : Nat) (row : List Int) : Prop := row.length = many ∧ ∀ x ∈ row, 0 ≤ x ∧ x < (many : Int)
def GoodMv (many : Nat) (m : Mv) : Prop := 1 ≤ m.1 ∧ m.1 ≤ 99 ∧ GoodRow many m.2
structure Good (many : Nat) (ms : List Mv) : Prop where
  m1 : 1 ≤ many
  m6 : many ≤ 6
  l1 : 1 ≤ ms.length
  l8 : ms.length ≤ 8
  mv : ∀ m ∈ ms, GoodMv many m
def MoveAt (H : Hp) (v : V) (m : Mv) : Prop := ∃ a q, v = .ref a ∧ H a = some (.tup [.int m.1, .ref q]) ∧ H q = some (.tup (m.2.map V.int))
abbrev MovesAt (H : Hp) : List V → List Mv → Prop := Paired (MoveAt H)
theorem MoveAt.same {H H' : Hp} {v : V} {m : Mv} (s : ∀ b xs, H b = some (.tup xs) → H' b = some (.tup xs)) (h : MoveAt H v m) : MoveAt H' v m := by
  obtain ⟨a, q, e, h1, h2⟩ := h
  exact ⟨a, q, e, s _ _ h1, s _ _ h2⟩
theorem MovesAt.same {H H' : Hp} (s : ∀ b xs, H b = some (.tup xs) → H' b = some (.tup xs)) : ∀ {vs : List V} {ms : List Mv}, MovesAt H vs ms → MovesAt H' vs ms
  | _, _, .nil => .nil
  | _, _, .cons h t => .cons (h.same s) (MovesAt.same s t)
theorem MovesAt.snoc {H : Hp} {v : V} {m : Mv} (h : MoveAt H v m) : ∀ {vs : List V} {ms : List Mv}, MovesAt H vs ms → MovesAt H (vs ++ [v]) (ms ++ [m])
  | _, _, .nil => .cons h .nil
  | _, _, .cons q t => .cons q (MovesAt.snoc h t)
theorem MovesAt.get {H : Hp} : ∀ {vs : List V} {ms : List Mv} {i : Nat} {m : Mv}, MovesAt H vs ms → ms[i]? = some m → ∃ v, vs[i]? = some v ∧ MoveAt H v m
  | _, _, _, _, .nil, e => by simp at e
  | _, _, 0, _, .cons h _, e => by
    simp at e
    subst e
    exact ⟨_, rfl, h⟩
  | _, _, i + 1, m, .cons _ t, e => by
    obtain ⟨v, h1, h2⟩ := MovesAt.get (i := i) (m := m) t (by simpa using e)
    exact ⟨v, by simpa using h1, h2⟩
theorem MovesAt.get' {H : Hp} : ∀ {vs : List V} {ms : List Mv} {i : Nat} {v : V}, MovesAt H vs ms → vs[i]? = some v → ∃ m, ms[i]? = some m ∧ MoveAt H v m
  | _, _, _, _, .nil, e => by simp at e
  | _, _, 0, _, .cons h _, e => by
    simp at e
    subst e
    exact ⟨_, rfl, h⟩
  | _, _, i + 1, v, .cons _ t, e => by
    obtain ⟨m, h1, h2⟩ := MovesAt.get' (i := i) (v := v) t (by simpa using e)
    exact ⟨m, by simpa using h1, h2⟩
/-- a told chain: (many, moves) at t, the moves' list at m -/
def ToldAt (H : Hp) (t m : Addr) (many : Nat) (vs : List V) (ms : List Mv) : Prop := H t = some (.tup [.int (many : Int), .ref m]) ∧ H m = some (.lst vs) ∧ MovesAt H vs ms
theorem Gr.tups {d l : Addr} {ns : List Int} {H H' : Hp} {K : PySem.W.Frag} (hd : Dc K l ns H d) (g : Gr d H H') : ∀ b xs, H b = some (.tup xs) → H' b = some (.tup xs) := fun b xs e =>
  g b _ (hd.ne_of e fun _ _ _ _ q => nomatch q) e
theorem Same.tups {H H' : Hp} (g : Same H H') : ∀ b xs, H b = some (.tup xs) → H' b = some (.tup xs) := fun b xs e => g b _ e
theorem ifD {c A B : Prop} [Decidable c] (hc : c) (h : A) : if decide c = true then A else B := by
  rw [decide_eq_true hc]
  exact iteT h
theorem small8 {n : Nat} (h : n ≤ 8) : n < sizeLine := Nat.lt_of_le_of_lt h (by decide)
section
variable {P : Program} {w : World} {K : PySem.W.Frag} {mg : Str → Option Value} {base : Heap}
/-! ### _law_cell -/
theorem scCell : FnScope ["_law_script", "_law_k"] ["_law_script", "_law_k"] (defScope sCell) := ⟨rfl, rfl, rfl, by decide +kernel, rfl, by decide +kernel, by decide +kernel⟩
def spCell (K : PySem.W.Frag) : Sp := fun vs H Q _ => ∃ (l : Addr) (ns : List Int) (j : Int), vs = [.ref l, .int j] ∧ SqL K H l (ns.map V.int) ∧ 0 ≤ j ∧ ∀ x : Int, Q (.int x) H
theorem ok_cell {f : Addr} {fd : FuncData} {k : Nat} (F : Fun K "_law_cell" "_law_cell" sCell f fd) (ml : mg "len" = none) : FnOk P w K mg base CX0 (k + 1) f fd ["_law_script", "_law_k"] (spCell K) := by
  refine F.ok scCell (fun vs H Q E h => ?_) (fun cdv A outer s H vs Q E hr h => ?_)
  · obtain ⟨l, ns, j, rfl, _⟩ := h
    rfl
  · obtain ⟨l, ns, j, rfl, hS, hj, q⟩ := h
    refine ⟨_, pss_cons (ps_if (pt_cmpR op_lt (pv 1) (pe_callB call_len_seq (by rfl) ml PySem.boot_len (pa_cons (pv 0) pa_nil)) (nomark _))
        (pss_one (ps_ret (pe_ix ix_list (pv 0) (pv 1) (fun _ _ => rfl)))) pss_nil)
      (pss_one (ps_ret pe_int)), ?_⟩
    refine ⟨.int j, rfl, .ref l, rfl, l, ns.map V.int, rfl, .inl hS, j, _, rfl, rfl, _, rfl, ite2 (fun e => ?_) (fun e => ?_)⟩
    · have e1 : j < ((ns.map V.int).length : Int) := of_decide_eq_true e
      rw [List.length_map] at e1
      have hn : j.toNat < ns.length := by omega
      have ej : j = ((j.toNat : Nat) : Int) := by omega
      have g : (ns.map V.int)[j.toNat]? = some (.int ns[j.toNat]) := by
        rw [List.getElem?_map, List.getElem?_eq_getElem hn]
        rfl
      exact ⟨.ref l, rfl, .int j, rfl, l, _, j, _, rfl, rfl, hS, at_of ej g, q _⟩
    · exact q 0
/-! ### _law_dice -/
theorem scDice : FnScope ["_law_script", "_law_k", "_law_cell_here"] ["_law_script", "_law_k"] (defScope sDice) := ⟨rfl, rfl, rfl, by decide +kernel, rfl, by decide +kernel, by decide +kernel⟩
def spDice (K : PySem.W.Frag) : Sp := fun vs H Q _ => ∃ (l : Addr) (ns : List Int) (j : Int), vs = [.ref l, .int j] ∧ SqL K H l (ns.map V.int) ∧ ns.length ≤ 63 ∧ 0 ≤ j ∧ ∀ H' d, Same H H' → H d = none → Dc K l ns H' d → Q (.ref d) H'
theorem abs_nn (x : Int) : 0 ≤ (if x < 0 then -x else x) := by
  split <;> omega
theorem ok_dice {f fC : Addr} {fd fdC : FuncData} (F : Fun K "_law_dice" "_law_dice" sDice f fd) (FC : Fun K "_law_cell" "_law_cell" sCell fC fdC) (bC : Binds K fdC ["_law_script", "_law_k"] []) (gC : mg "_law_cell" = some (.ref fC))
    (ml : mg "len" = none) (ma : mg "abs" = none) (mi : mg "int" = none) : FnOk P w K mg base CX0 2 f fd ["_law_script", "_law_k"] (spDice K) := by
  have GC : FnOk P w K mg base CX0 1 fC fdC ["_law_script", "_law_k"] (spCell K) := ok_cell FC ml
  refine F.ok scDice (fun vs H Q E h => ?_) (fun cdv A outer s H vs Q E hr h => ?_)
  · obtain ⟨l, ns, j, rfl, _⟩ := h
    rfl
  · obtain ⟨l, ns, j, rfl, hS, hl, hj, q⟩ := h
    refine ⟨_, pss_cons (ps_set (i := 2) scDice.nd rfl (.inl rfl) (pe_callB call_abs (by rfl) ma (by decide +kernel) (pa_cons (pe_call GC hr (by rfl) gC FC.kp bC .nil pass0 (pa_cons (pv 0) (pa_cons (pv 1) pa_nil))) pa_nil)))
      (pss_one (ps_ret (pe_lst (pa_cons (pe_op op_mod (pv 2) pe_int) (pa_cons (pv 0) (pa_cons (pe_op op_add (pv 1) pe_int)
        (pa_cons (pe_op op_mul (pe_callTy call_int1 (by rfl) mi (by decide +kernel) (pa_cons (pe_cmpR op_ge (pv 2) (pe_op op_pow pe_int pe_int) (nomark _)) pa_nil)) (pv 2)) pa_nil))))))), ?_⟩
    refine ⟨.ref l, rfl, .int j, rfl, l, ns, j, rfl, hS, hj, fun x => ?_⟩
    refine ⟨x, rfl, ?_⟩
    have ha := abs_nn x
    generalize (if x < 0 then -x else x) = c at ha ⊢
    have m0 : 0 ≤ c % 2147483647 := Int.emod_nonneg _ (by decide)
    have m1 : c % 2147483647 < 2147483647 := Int.emod_lt_of_pos _ (by decide)
    refine ⟨.int c, rfl, c, 2147483647, rfl, rfl, (by show (0 : Int) < 2147483647; decide), .ref l, rfl, .int j, rfl, j, 1, rfl, rfl, ?_⟩
    refine ⟨.int c, rfl, 10, 18, rfl, rfl, ⟨by decide, by decide, by decide⟩, c, _, rfl, rfl, .inr ⟨_, rfl, ?_⟩⟩
    refine ⟨.int c, rfl, _, c, rfl, rfl, .inl ?_, ?_⟩
    · split <;> decide
    · refine ⟨by show 4 ≤ sizeLine; decide, fun d nd => ?_⟩
      refine q _ d (same_new nd) nd ⟨_, _, _, upd_same, (same_new nd).seq hS, hl, m0, m1, by omega, ?_⟩
      split
      · omega
      · omega
/-! ### _law_off -/
theorem scOff : FnScope ["_law_d", "_law_most", "_law_found", "_law_more"] ["_law_d", "_law_most"] (defScope sOff) := ⟨rfl, rfl, rfl, by decide +kernel, rfl, by decide +kernel, by decide +kernel⟩
def spOff (K : PySem.W.Frag) : Sp := fun vs H Q _ => ∃ (d l : Addr) (ns : List Int) (most : Int), vs = [.ref d, .int most] ∧ Dc K l ns H d ∧ 1 ≤ most ∧ most ≤ 1000000 ∧ ∀ (r : Nat) H', (r : Int) < most → Dc K l ns H' d → (∀ b, b ≠ d → H' b = H b) → Q (.int (r : Int)) H'
theorem max1 (x : Int) (h : 0 ≤ x) : 1 ≤ (if x > 1 then x else 1) := by
  split <;> omega
theorem ok_off {f fC : Addr} {fd fdC : FuncData} (F : Fun K "_law_off" "_law_off" sOff f fd) (FC : Fun K "_law_cell" "_law_cell" sCell fC fdC) (bC : Binds K fdC ["_law_script", "_law_k"] []) (gC : mg "_law_cell" = some (.ref fC))
    (ml : mg "len" = none) (ma : mg "abs" = none) (mm : mg "max" = none) : FnOk P w K mg base CX0 2 f fd ["_law_d", "_law_most"] (spOff K) := by
  have GC : FnOk P w K mg base CX0 1 fC fdC ["_law_script", "_law_k"] (spCell K) := ok_cell FC ml
  refine F.ok scOff (fun vs H Q E h => ?_) (fun cdv A outer s H vs Q E hr h => ?_)
  · obtain ⟨d, l, ns, most, rfl, _⟩ := h
    rfl
  · obtain ⟨d, l, ns, most, rfl, ⟨s0, k, big, hD, hS, hl, z0, z1, hk, hb⟩, hm1, hm2, q⟩ := h
    refine ⟨_, pss_cons (ps_if (pt_cmpR op_gt (pe_ix ix_list (pv 0) pe_int (fun _ _ => rfl)) pe_int (nomark _))
        (pss_cons (ps_set (i := 2) scOff.nd rfl (.inl rfl) (pe_op op_mod (pe_ix ix_list (pv 0) pe_int (fun _ _ => rfl)) (pv 1)))
          (pss_cons (ps_asg (pe_op op_fdiv (pe_ix ix_list (pv 0) pe_int (fun _ _ => rfl)) (pv 1)) (pg_sub (pv 0) pe_int set_list))
            (pss_one (ps_ret (pv 2))))) pss_nil)
      (pss_cons (ps_set (i := 3) scOff.nd rfl (.inl rfl) (pe_callB call_abs (by rfl) ma (by decide +kernel) (pa_cons (pe_call GC hr (by rfl) gC FC.kp bC .nil pass0
          (pa_cons (pe_ix ix_list (pv 0) pe_int (fun _ _ => rfl)) (pa_cons (pe_op op_mod (pe_ix ix_list (pv 0) pe_int (fun _ _ => rfl))
            (pe_callB (call_max2 rfl) (by rfl) mm (by decide +kernel) (pa_cons pe_int (pa_cons (pe_callB call_len_seq (by rfl) ml PySem.boot_len (pa_cons (pe_ix ix_list (pv 0) pe_int (fun _ _ => rfl)) pa_nil)) pa_nil)))) pa_nil))) pa_nil)))
      (pss_cons (ps_asg (pe_op op_add (pe_ix ix_list (pv 0) pe_int (fun _ _ => rfl)) pe_int) (pg_sub (pv 0) pe_int set_list))
      (pss_cons (ps_asg (pe_op op_mod (pe_op op_add (pe_op op_add (pe_op op_mul (pe_ix ix_list (pv 0) pe_int (fun _ _ => rfl)) pe_int) pe_int) (pv 3)) pe_int) (pg_sub (pv 0) pe_int set_list))
      (pss_one (ps_ret (pe_op op_mod (pe_op op_fdiv (pe_ix ix_list (pv 0) pe_int (fun _ _ => rfl)) pe_int) (pv 1)))))))
      , ?_⟩
    have hD0 : SqL K H d (dl s0 l k big) := SqL.of hD
    refine ⟨.ref d, rfl, d, _, 3, _, rfl, rfl, hD0, atI_nat (j := 3) rfl, big, 0, rfl, rfl, _, rfl, ite2 (fun e => ?_) (fun e => ?_)⟩
    · have e1 : 0 < big := of_decide_eq_true e
      refine ⟨.ref d, rfl, d, _, 3, _, rfl, rfl, hD0, atI_nat (j := 3) rfl, .int most, rfl, big, most, rfl, rfl, (by show 0 < most; omega), ?_⟩
      refine ⟨.ref d, rfl, d, _, 3, _, rfl, rfl, hD0, atI_nat (j := 3) rfl, .int most, rfl, big, most, rfl, rfl, ⟨by show 0 < most; omega, by show most < 1073741824; omega⟩, ?_⟩
      refine ⟨.ref d, rfl, d, _, 3, 3, rfl, rfl, hD, rfl, ?_⟩
      have r0 : 0 ≤ big % most := Int.emod_nonneg _ (by omega)
      have r1 : big % most < most := Int.emod_lt_of_pos _ (by omega)
      have er : big % most = (((big % most).toNat : Nat) : Int) := by omega
      refine ⟨.int (big % most), rfl, ?_⟩
      rw [er]
      refine q _ _ (by omega) ⟨s0, k, big / most, upd_same, seq_turn hD hS (fun b hb => upd_ne hb), hl, z0, z1, hk, Int.ediv_nonneg hb (by omega)⟩ (fun b hb => upd_ne hb)
    · refine ⟨.ref d, rfl, d, _, 1, _, rfl, rfl, hD0, atI_nat (j := 1) rfl, .ref d, rfl, d, _, 2, _, rfl, rfl, hD0, atI_nat (j := 2) rfl, ?_⟩
      refine ⟨.ref d, rfl, d, _, 1, _, rfl, rfl, hD0, atI_nat (j := 1) rfl, l, _, rfl, .inl hS, 1, _, rfl, ?_⟩
      have hx := max1 (((ns.map V.int).length : Nat) : Int) (by omega)
      generalize (if (((ns.map V.int).length : Nat) : Int) > 1 then (((ns.map V.int).length : Nat) : Int) else 1) = mx at hx ⊢
      refine ⟨k, mx, rfl, rfl, (by show 0 < mx; omega), l, ns, k % mx, rfl, hS, Int.emod_nonneg _ (by omega), fun x => ⟨x, rfl, ?_⟩⟩
      have ha := abs_nn x
      generalize (if x < 0 then -x else x) = c at ha ⊢
      -- d[2] = d[2] + 1
      refine ⟨.ref d, rfl, d, _, 2, _, rfl, rfl, hD0, atI_nat (j := 2) rfl, k, 1, rfl, rfl, .ref d, rfl, d, _, 2, 2, rfl, rfl, hD, rfl, ?_⟩
      have g1 : (upd H d (.lst (dl s0 l (k + 1) big))) d = some (.lst (dl s0 l (k + 1) big)) := upd_same
      have g2 : SqL K (upd H d (.lst (dl s0 l (k + 1) big))) d (dl s0 l (k + 1) big) := SqL.of g1
      refine ⟨.ref d, rfl, d, _, 0, _, rfl, rfl, g2, atI_nat (j := 0) rfl, s0, 48271, rfl, rfl, .inl ⟨by omega, by omega⟩, s0 * 48271, 11, rfl, rfl, .int c, rfl, s0 * 48271 + 11, c, rfl, rfl, s0 * 48271 + 11 + c, 2147483647, rfl, rfl, (by show (0 : Int) < 2147483647; decide), ?_⟩
      have m0 : 0 ≤ (s0 * 48271 + 11 + c) % 2147483647 := Int.emod_nonneg _ (by decide)
      have m1 : (s0 * 48271 + 11 + c) % 2147483647 < 2147483647 := Int.emod_lt_of_pos _ (by decide)
      refine ⟨.ref d, rfl, d, _, 0, 0, rfl, rfl, g1, rfl, ?_⟩
      rw [upd_upd]
      have g3 : (upd H d (.lst (dl ((s0 * 48271 + 11 + c) % 2147483647) l (k + 1) big))) d = some (.lst (dl ((s0 * 48271 + 11 + c) % 2147483647) l (k + 1) big)) := upd_same
      have g4 : SqL K (upd H d (.lst (dl ((s0 * 48271 + 11 + c) % 2147483647) l (k + 1) big))) d (dl ((s0 * 48271 + 11 + c) % 2147483647) l (k + 1) big) := SqL.of g3
      refine ⟨.ref d, rfl, d, _, 0, _, rfl, rfl, g4, atI_nat (j := 0) rfl, ((s0 * 48271 + 11 + c) % 2147483647), 64, rfl, rfl, ⟨by decide, by decide⟩, .int most, rfl, ((s0 * 48271 + 11 + c) % 2147483647) / 64, most, rfl, rfl, (by show 0 < most; omega), ?_⟩
      have r0 : 0 ≤ ((s0 * 48271 + 11 + c) % 2147483647) / 64 % most := Int.emod_nonneg _ (by omega)
      have r1 : ((s0 * 48271 + 11 + c) % 2147483647) / 64 % most < most := Int.emod_lt_of_pos _ (by omega)
      have er : ((s0 * 48271 + 11 + c) % 2147483647) / 64 % most = (((((s0 * 48271 + 11 + c) % 2147483647) / 64 % most).toNat : Nat) : Int) := by omega
      show Q (.int (((s0 * 48271 + 11 + c) % 2147483647) / 64 % most)) _
      rw [er]
      exact q _ _ (by omega) ⟨((s0 * 48271 + 11 + c) % 2147483647), k + 1, big, g3, seq_turn hD hS (fun b hb => upd_ne hb), hl, m0, m1, by omega, hb⟩ (fun b hb => upd_ne hb)
end
section
variable {P : Program} {w : World} {K : PySem.W.Frag} {mg : Str → Option Value} {base : Heap}
/-! ### _law_chain -/
def nChain : List Str := ["_law_d", "_law_most", "_law_many", "_law_way", "_law_moves", "_law_k", "_law_row", "_law_weight", "_law_place"]
theorem scChain : FnScope ["_law_d", "_law_most", "_law_many", "_law_way", "_law_moves", "_law_k", "_law_row", "_law_weight", "_law_place"] ["_law_d", "_law_most"] (defScope sChain) := ⟨rfl, rfl, rfl, by decide +kernel, rfl, by decide +kernel, by decide +kernel⟩
def spChain (K : PySem.W.Frag) : Sp := fun vs H Q _ => ∃ (d l : Addr) (ns : List Int) (most : Nat), vs = [.ref d, .int (most : Int)] ∧ Dc K l ns H d ∧ 1 ≤ most ∧ most ≤ 6 ∧
  ∀ (t m : Addr) (many : Nat) (ws : List V) (ms : List Mv) H', Good many ms → many ≤ most → ToldAt H' t m many ws ms → Dc K l ns H' d → Gr d H H' → Q (.ref t) H'
/-- what the law's texts call -/
structure LawTxt (K : PySem.W.Frag) (mg : Str → Option Value) (fC fD fO : Addr) (fdC fdD fdO : FuncData) : Prop where
  FC : Fun K "_law_cell" "_law_cell" sCell fC fdC
  bC : Binds K fdC ["_law_script", "_law_k"] []
  gC : mg "_law_cell" = some (.ref fC)
  FD : Fun K "_law_dice" "_law_dice" sDice fD fdD
  bD : Binds K fdD ["_law_script", "_law_k"] []
  gD : mg "_law_dice" = some (.ref fD)
  FO : Fun K "_law_off" "_law_off" sOff fO fdO
  bO : Binds K fdO ["_law_d", "_law_most"] []
  gO : mg "_law_off" = some (.ref fO)
  ml : mg "len" = none
  ma : mg "abs" = none
  mm : mg "max" = none
  mn : mg "min" = none
  mi : mg "int" = none
  mr : mg "range" = none
  ms : mg "sorted" = none
  mt : mg "tuple" = none
section
variable {fC fD fO : Addr} {fdC fdD fdO : FuncData}
theorem LawTxt.off (T : LawTxt K mg fC fD fO fdC fdD fdO) : FnOk P w K mg base CX0 2 fO fdO ["_law_d", "_law_most"] (spOff K) := ok_off T.FO T.FC T.bC T.gC T.ml T.ma T.mm
theorem LawTxt.dice (T : LawTxt K mg fC fD fO fdC fdD fdO) : FnOk P w K mg base CX0 2 fD fdD ["_law_script", "_law_k"] (spDice K) := ok_dice T.FD T.FC T.bC T.gC T.ml T.ma T.mi
theorem perm_row {many : Nat} {xs ys : List Int} (p : ys.Perm xs) (h : GoodRow many xs) : GoodRow many ys := ⟨p.length_eq.trans h.1, fun x hx => h.2 x (p.mem_iff.mp hx)⟩
theorem clamp (m x : Int) (h : 0 ≤ m) : 0 ≤ (if (if x < m then x else m) > 0 then (if x < m then x else m) else 0) ∧ (if (if x < m then x else m) > 0 then (if x < m then x else m) else 0) < m + 1 := by
  split <;> split at * <;> omega
theorem ok_chain {f : Addr} {fd : FuncData} (F : Fun K "_law_chain" "_law_chain" sChain f fd) (T : LawTxt K mg fC fD fO fdC fdD fdO) : FnOk P w K mg base CX0 3 f fd ["_law_d", "_law_most"] (spChain K) := by
  have GO : FnOk P w K mg base CX0 2 fO fdO ["_law_d", "_law_most"] (spOff K) := T.off
  refine F.ok scChain (fun vs H Q E h => ?_) (fun cdv A outer s H vs Q E hr h => ?_)
  · obtain ⟨d, l, ns, most, rfl, _⟩ := h
    rfl
  · obtain ⟨d, l, ns, most, rfl, hD, hm1, hm6, q⟩ := h
    refine ⟨_, pss_cons (ps_set (i := 2) scChain.nd rfl (.inr rfl) (pe_op op_add pe_int (pe_call GO hr (by rfl) T.gO T.FO.kp T.bO .nil pass0 (pa_cons (pv 0) (pa_cons (pv 1) pa_nil)))))
      (pss_cons (ps_set (i := 3) scChain.nd rfl (.inl rfl) (pe_call GO hr (by rfl) T.gO T.FO.kp T.bO .nil pass0 (pa_cons (pv 0) (pa_cons pe_int pa_nil))))
      (pss_cons (ps_set (i := 4) scChain.nd rfl (.inl rfl) (pe_lst pa_nil))
      (pss_cons (ps_for PassesOwn.never rfl (pi_range1 (by rfl) T.mr (pa_cons (pe_op op_add pe_int (pe_call GO hr (by rfl) T.gO T.FO.kp T.bO .nil pass0 (pa_cons (pv 0)
            (pa_cons (pe_ix ix_list (pe_lst (pa_cons pe_int (pa_cons pe_int (pa_cons pe_int pa_nil)))) (pe_call GO hr (by rfl) T.gO T.FO.kp T.bO .nil pass0 (pa_cons (pv 0) (pa_cons pe_int pa_nil))) (fun _ _ => rfl)) pa_nil)))) pa_nil))
          (pg_name (i := 5) scChain.nd rfl (.inl rfl))
          (pss_cons (ps_setLc (i := 6) (own := [("_law_place", 8)]) (g := gName 8) (tt := tYes) rfl scChain.nd rfl rfl (sw_true rfl rfl rfl (by decide +kernel)) (pi_range1 (by rfl) T.mr (pa_cons (pv 2) pa_nil)) (blkOk_by (N := nChain) (sc := defScope sChain) (by decide +kernel))
              (fun _ _ _ _ _ => pg_name (i := 8) scChain.nd rfl (.inl rfl)) (fun _ _ _ _ _ => pts_nil)
              (fun _ _ _ _ _ => pe_call GO hr (by rfl) T.gO T.FO.kp T.bO .nil pass0 (pa_cons (pv 0) (pa_cons (pv 2) pa_nil))))
          (C8.pss_cut (ps_if (pt_cmpR op_eq (pv 3) pe_int (nomark _)) (pss_one (ps_set (i := 6) scChain.nd rfl (.inl rfl) (pe_callB cr_sorted (by rfl) T.ms (by decide +kernel) (pa_cons (pv 6) pa_nil)))) pss_nil)
          (C8.pss_cut (ps_if (pt_cmpR op_eq (pv 3) pe_int (nomark _)) (pss_one
              (ps_setLc (i := 6) (own := [("_law_place", 8)]) (g := gName 8) (tt := tYes) rfl scChain.nd rfl rfl (sw_true rfl rfl rfl (by decide +kernel)) (pi_range1 (by rfl) T.mr (pa_cons (pv 2) pa_nil)) (blkOk_by (N := nChain) (sc := defScope sChain) (by decide +kernel))
              (fun _ _ _ _ _ => pg_name (i := 8) scChain.nd rfl (.inl rfl)) (fun _ _ _ _ _ => pts_nil)
              (fun _ _ _ _ _ => pe_callB (call_max2 rfl) (by rfl) T.mm (by decide +kernel) (pa_cons pe_int (pa_cons (pe_callB (call_min2 rfl) (by rfl) T.mn (by decide +kernel) (pa_cons (pe_op op_sub (pv 2) pe_int) (pa_cons
                (pe_op op_sub (pe_op op_add (pv 8) (pe_call GO hr (by rfl) T.gO T.FO.kp T.bO .nil pass0 (pa_cons (pv 0) (pa_cons pe_int pa_nil)))) pe_int) pa_nil))) pa_nil))))) pss_nil)
          (pss_cons (ps_set (i := 7) scChain.nd rfl (.inl rfl) (pe_ix ix_list (pe_lst (pa_cons pe_int (pa_cons (pe_op op_add pe_int (pe_call GO hr (by rfl) T.gO T.FO.kp T.bO .nil pass0 (pa_cons (pv 0) (pa_cons pe_int pa_nil))))
              (pa_cons (pe_op op_add pe_int (pe_call GO hr (by rfl) T.gO T.FO.kp T.bO .nil pass0 (pa_cons (pv 0) (pa_cons pe_int pa_nil)))) pa_nil)))) (pe_call GO hr (by rfl) T.gO T.FO.kp T.bO .nil pass0 (pa_cons (pv 0) (pa_cons pe_int pa_nil))) (fun _ _ => rfl)))
          (pss_one (ps_expr (pe_bm PySem.F.plainAttrs_list PySem.F.slot_list_append PySem.F.type_list_append mt_append (pv 4) (pa_cons (pe_tup (pa_cons (pv 7) (pa_cons (pe_callTy call_tuple_of (by rfl) T.mt (by decide +kernel) (pa_cons (pv 6) pa_nil)) pa_nil))) pa_nil)))))))))
      (pss_one (ps_ret (pe_tup (pa_cons (pv 2) (pa_cons (pv 4) pa_nil)))))))), ?_⟩
    -- many, way, moves
    refine ⟨.ref d, rfl, .int most, rfl, d, l, ns, _, rfl, hD, by omega, by omega, fun r H1 hr1 hD1 o1 => ?_⟩
    refine ⟨1, r, rfl, rfl, .ref d, rfl, d, l, ns, _, rfl, hD1, by omega, by omega, fun way H2 hr2 hD2 o2 => ?_⟩
    obtain ⟨many, em⟩ : ∃ many : Nat, many = 1 + r := ⟨_, rfl⟩
    have em2 : (1 : Int) + (r : Int) = (many : Int) := by omega
    have g2 : Gr d H H2 := ((Gr.refl d H).off o1).off o2
    refine ⟨Nat.zero_le _, fun m nm => ?_⟩
    have hD3 : Dc K l ns (upd H2 m (.lst [])) d := hD2.new nm
    have g3 : Gr d H (upd H2 m (.lst [])) := g2.new nm
    have hm3 : (upd H2 m (.lst [])) m = some (.lst []) := upd_same
    -- the loop's range
    refine ⟨.ref d, rfl, (by show 3 ≤ sizeLine; decide), fun L nL => ?_⟩
    have hD4 := hD3.new (o := .lst [.int 4, .int 4, .int 8]) nL
    have g4 : Gr d H (upd (upd H2 m (.lst [])) L (.lst [.int 4, .int 4, .int 8])) := g3.new nL
    have nLm : L ≠ m := fun z => by rw [z, upd_same] at nL; cases nL
    have hm4 : (upd (upd H2 m (.lst [])) L (.lst [.int 4, .int 4, .int 8])) m = some (.lst []) := by rw [upd_ne (Ne.symm nLm)]; exact hm3
    have hL4 : (upd (upd H2 m (.lst [])) L (.lst [.int 4, .int 4, .int 8])) L = some (.lst [.int 4, .int 4, .int 8]) := upd_same
    generalize (upd (upd H2 m (.lst [])) L (.lst [.int 4, .int 4, .int 8])) = H4 at hD4 g4 hm4 hL4 ⊢
    refine ⟨.ref d, rfl, d, l, ns, _, rfl, hD4, by omega, by omega, fun r3 H5 hr3 hD5 o5 => ?_⟩
    have nmd : m ≠ d := hD2.ne nm
    have nLd : L ≠ d := hD3.ne nL
    have hL5 : H5 L = some (.lst [.int 4, .int 4, .int 8]) := by rw [o5 _ nLd]; exact hL4
    have hm5 : H5 m = some (.lst []) := by rw [o5 _ nmd]; exact hm4
    have g5 : Gr d H H5 := g4.off o5
    obtain ⟨c, hc4, hc8, hc⟩ : ∃ c : Int, 4 ≤ c ∧ c ≤ 8 ∧ ([.int 4, .int 4, .int 8] : List V)[r3]? = some (.int c) := by
      have h3 : r3 < 3 := by omega
      match r3, h3 with
      | 0, _ => exact ⟨4, by decide, by decide, rfl⟩
      | 1, _ => exact ⟨4, by decide, by decide, rfl⟩
      | 2, _ => exact ⟨8, by decide, by decide, rfl⟩
    refine ⟨L, _, _, _, rfl, rfl, SqL.of hL5, atI_nat hc, d, l, ns, _, rfl, hD5, by omega, by omega, fun cnt H6 hr6 hD6 o6 => ?_⟩
    have hm6' : H6 m = some (.lst []) := by rw [o6 _ nmd]; exact hm5
    have g6 : Gr d H H6 := g5.off o6
    refine ⟨1, cnt, rfl, rfl, _, rfl, by omega, by omega, ?_⟩
    have en : ((1 : Int) + (cnt : Int)).toNat = 1 + cnt := by omega
    refine for_range (lo := 0) (n := ((1 : Int) + (cnt : Int)).toNat)
      (fun i σ H' => ∃ y5 y6 y7 ms ws, σ = [some (.ref d), some (.int (most : Int)), some (.int ((1 : Int) + (r : Int))), some (.int (way : Int)), some (.ref m), y5, y6, y7, none] ∧
        Dc K l ns H' d ∧ Gr d H H' ∧ H' m = some (.lst ws) ∧ MovesAt H' ws ms ∧ ms.length = i ∧ ∀ mv ∈ ms, GoodMv many mv)
      ⟨none, none, none, [], [], rfl, hD6, g6, hm6', .nil, rfl, fun _ z => nomatch z⟩ ?_ ?_
    · rintro i σ H7 hi ⟨y5, y6, y7, ms, ws, rfl, hD7, g7, hm7, hM7, hl7, hg7⟩
      rw [en] at hi
      -- row = [off(d, many) for place in range(many)]
      refine ⟨_, rfl, _, rfl, by omega, by omega, fun D nD => ?_⟩
      have nDd : D ≠ d := hD7.ne nD
      have er : ((1 : Int) + (r : Int)).toNat = many := by omega
      refine lc_range (lo := 0) (n := ((1 : Int) + (r : Int)).toNat)
        (fun j H' => ∃ row : List Int, H' D = some (.lst (row.map V.int)) ∧ row.length = j ∧ (∀ x ∈ row, 0 ≤ x ∧ x < (many : Int)) ∧ Dc K l ns H' d ∧ Gr d H7 H')
        ⟨[], upd_same, rfl, (fun _ z => nomatch z), hD7.new nD, (Gr.refl d H7).new nD⟩ ?_ ?_
      · rintro j H8 hj ⟨row, hrow, hrl, hrx, hD8, g8⟩
        refine ⟨rfl, .ref d, rfl, _, rfl, d, l, ns, _, rfl, hD8, by omega, by omega, fun x H9 hx hD9 o9 => ?_⟩
        have hrow9 : H9 D = some (.lst (row.map V.int)) := by rw [o9 _ nDd]; exact hrow
        refine ⟨_, hrow9, ?_, row ++ [(x : Int)], ?_, ?_, ?_, hD9.turn hD7 nD nDd, ?_⟩
        · rw [List.length_map, hrl]
          exact small8 (by omega)
        · rw [upd_same, List.map_append]
          rfl
        · rw [List.length_append, hrl]
          rfl
        · intro z hz
          rcases List.mem_append.mp hz with hz | hz
          · exact hrx z hz
          · have e : z = (x : Int) := by simpa using hz
            omega
        · intro b o nb e
          have e8 := g8.off o9 b o nb e
          rw [upd_ne (ne_of_none e nD)]
          exact e8
      · rintro H8 ⟨row, hrow, hrl, hrx, hD8, g8⟩
        have hR : GoodRow many row := ⟨hrl.trans er, hrx⟩
        let Mid : L2.St → Hp → Prop := fun σ H9 => ∃ D9 row, σ = [some (.ref d), some (.int (most : Int)), some (.int ((1 : Int) + (r : Int))), some (.int (way : Int)), some (.ref m), some (.int (0 + (i : Int))), some (.ref D9), y7, none] ∧
          H9 D9 = some (.lst (row.map V.int)) ∧ GoodRow many row ∧ Dc K l ns H9 d ∧ Gr d H7 H9
        have mid0 : Mid [some (.ref d), some (.int (most : Int)), some (.int ((1 : Int) + (r : Int))), some (.int (way : Int)), some (.ref m), some (.int (0 + (i : Int))), some (.ref D), y7, none] H8 := ⟨D, row, rfl, hrow, hR, hD8, g8⟩
        refine ⟨Mid, ⟨_, rfl, rfl, _, rfl, ite2 (fun e => ?_) (fun e => mid0)⟩, ?_⟩
        · -- row = sorted(row)
          refine ⟨_, rfl, D, row, rfl, SqL.of hrow, by omega, fun ns' p hp _ np => ?_⟩
          exact ⟨p, ns', rfl, upd_same, perm_row hp hR, hD8.new np, g8.new np⟩
        · rintro σ9 H9 ⟨D9, row9, rfl, hrow9, hR9, hD9, g9⟩
          refine ⟨Mid, ⟨_, rfl, rfl, _, rfl, ite2 (fun e => ?_) (fun e => ⟨D9, row9, rfl, hrow9, hR9, hD9, g9⟩)⟩, ?_⟩
          · -- row = [max(0, min(many - 1, ..)) ..]
            refine ⟨_, rfl, _, rfl, by omega, by omega, fun D' nD' => ?_⟩
            have nDd' : D' ≠ d := hD9.ne nD'
            refine lc_range (lo := 0) (n := ((1 : Int) + (r : Int)).toNat)
              (fun j H' => ∃ row : List Int, H' D' = some (.lst (row.map V.int)) ∧ row.length = j ∧ (∀ x ∈ row, 0 ≤ x ∧ x < (many : Int)) ∧ Dc K l ns H' d ∧ Gr d H9 H')
              ⟨[], upd_same, rfl, (fun _ z => nomatch z), hD9.new nD', (Gr.refl d H9).new nD'⟩ ?_ ?_
            · rintro j H10 hj ⟨row', hrow', hrl', hrx', hD10, g10⟩
              refine ⟨rfl, _, rfl, _, _, rfl, rfl, _, rfl, .ref d, rfl, d, l, ns, _, rfl, hD10, by omega, by omega, fun x H11 hx hD11 o11 => ?_⟩
              refine ⟨_, _, rfl, rfl, _, _, rfl, rfl, _, _, rfl, _, _, rfl, ?_⟩
              have cl := clamp ((1 : Int) + (r : Int) - 1) (0 + (j : Int) + (x : Int) - 1) (by omega)
              generalize (if (if 0 + (j : Int) + (x : Int) - 1 < (1 : Int) + (r : Int) - 1 then 0 + (j : Int) + (x : Int) - 1 else (1 : Int) + (r : Int) - 1) > 0 then
                (if 0 + (j : Int) + (x : Int) - 1 < (1 : Int) + (r : Int) - 1 then 0 + (j : Int) + (x : Int) - 1 else (1 : Int) + (r : Int) - 1) else 0) = z at cl ⊢
              have hrow9 : H11 D' = some (.lst (row'.map V.int)) := by rw [o11 _ nDd']; exact hrow'
              refine ⟨_, hrow9, ?_, row' ++ [z], ?_, ?_, ?_, hD11.turn hD9 nD' nDd', ?_⟩
              · rw [List.length_map, hrl']
                exact small8 (by omega)
              · rw [upd_same, List.map_append]
                rfl
              · rw [List.length_append, hrl']
                rfl
              · intro y hy
                rcases List.mem_append.mp hy with hy | hy
                · exact hrx' y hy
                · have e : y = z := by simpa using hy
                  omega
              · intro b o nb e
                have e8 := g10.off o11 b o nb e
                rw [upd_ne (ne_of_none e nD')]
                exact e8
            · rintro H10 ⟨row', hrow', hrl', hrx', hD10, g10⟩
              exact ⟨D', row', rfl, hrow', ⟨hrl'.trans er, hrx'⟩, hD10, g9.trans g10⟩
          · rintro σ10 H10 ⟨D10, row, rfl, hrow, hR, hD10, g10⟩
            -- weight = [1, 1 + off(d, 4), 1 + off(d, 99)][off(d, 3)]
            have g10' : Gr d H H10 := g7.trans g10
            refine ⟨.ref d, rfl, d, l, ns, _, rfl, hD10, by omega, by omega, fun x1 H11 hx1 hD11 o11 => ?_⟩
            refine ⟨1, x1, rfl, rfl, .ref d, rfl, d, l, ns, _, rfl, hD11, by omega, by omega, fun x2 H12 hx2 hD12 o12 => ?_⟩
            refine ⟨1, x2, rfl, rfl, (by show 3 ≤ sizeLine; decide), fun W nW => ?_⟩
            have hD13 := hD12.new (o := .lst [.int 1, .int (1 + (x1 : Int)), .int (1 + (x2 : Int))]) nW
            have nWd : W ≠ d := hD12.ne nW
            have g13 : Gr d H10 (upd H12 W (.lst [.int 1, .int (1 + (x1 : Int)), .int (1 + (x2 : Int))])) := (((Gr.refl d H10).off o11).off o12).new nW
            have hW13 : (upd H12 W (.lst [.int 1, .int (1 + (x1 : Int)), .int (1 + (x2 : Int))])) W = some (.lst [.int 1, .int (1 + (x1 : Int)), .int (1 + (x2 : Int))]) := upd_same
            refine ⟨.ref d, rfl, d, l, ns, _, rfl, hD13, by omega, by omega, fun x3 H14 hx3 hD14 o14 => ?_⟩
            have hW14 : H14 W = some (.lst [.int 1, .int (1 + (x1 : Int)), .int (1 + (x2 : Int))]) := by rw [o14 _ nWd]; exact hW13
            have g14 : Gr d H10 H14 := g13.off o14
            obtain ⟨wt, hw1, hw9, hw⟩ : ∃ c : Int, 1 ≤ c ∧ c ≤ 99 ∧ ([.int 1, .int (1 + (x1 : Int)), .int (1 + (x2 : Int))] : List V)[x3]? = some (.int c) := by
              have h3 : x3 < 3 := by omega
              match x3, h3 with
              | 0, _ => exact ⟨1, by decide, by decide, rfl⟩
              | 1, _ => exact ⟨1 + (x1 : Int), by omega, by omega, rfl⟩
              | 2, _ => exact ⟨1 + (x2 : Int), by omega, by omega, rfl⟩
            refine ⟨W, _, _, _, rfl, rfl, SqL.of hW14, atI_nat hw, ?_⟩
            -- moves.append((weight, tuple(row)))
            have nm' : ∀ {H'}, Dc K l ns H' d → H' m = H' m := fun _ => rfl
            have hm14 : H14 m = some (.lst ws) := (g10.trans g14) m _ nmd hm7
            have nD10 : D10 ≠ d := hD10.ne_of hrow fun s0 l k big z => by
              injection z with z
              exact map_int_dl z
            have hrow14 : H14 D10 = some (.lst (row.map V.int)) := g14 D10 _ nD10 hrow
            refine ⟨.ref m, rfl, .inl ⟨rfl, _, SqL.of hm14⟩, .int wt, rfl, .ref D10, rfl, D10, _, rfl, .inl ⟨SqL.of hrow14, fun tq ntq => ?_⟩⟩
            refine ⟨by show 2 ≤ sizeLine; decide, fun tp ntp => ?_⟩
            have g16 : Same H14 (upd (upd H14 tq (.tup (row.map V.int))) tp (.tup [.int wt, .ref tq])) := (same_new ntq).trans (same_new ntp)
            have htp : (upd (upd H14 tq (.tup (row.map V.int))) tp (.tup [.int wt, .ref tq])) tp = some (.tup [.int wt, .ref tq]) := upd_same
            have htq : (upd (upd H14 tq (.tup (row.map V.int))) tp (.tup [.int wt, .ref tq])) tq = some (.tup (row.map V.int)) := by
              rw [upd_ne (ne_of_none upd_same ntp)]
              exact upd_same
            have hD16 := hD14.same g16
            generalize (upd (upd H14 tq (.tup (row.map V.int))) tp (.tup [.int wt, .ref tq])) = H16 at g16 htp htq hD16 ⊢
            have hm16 := g16 m _ hm14
            have gt : Gr d H7 H16 := (g10.trans g14).trans (Gr.of_same g16)
            have hM16 : MovesAt H16 ws ms := hM7.same (gt.tups (K := K) hD7)
            have hl := hM16.length
            refine ⟨m, _, _, rfl, rfl, hm16, by rw [hl]; exact small8 (by omega), ?_⟩
            refine ⟨some (.int (0 + (i : Int))), some (.ref D10), some (.int wt), ms ++ [(wt, row)], ws ++ [.ref tp], rfl, hD16.turn hD2 nm nmd, ?_, upd_same, ?_, by rw [List.length_append, hl7]; rfl, ?_⟩
            · intro b o nb e
              by_cases hb : b = m
              · rw [hb] at e nb
                have z := g2 m o nb e
                rw [nm] at z
                cases z
              · rw [upd_ne hb]
                exact (g7.trans gt) b o nb e
            · refine MovesAt.same (H := H16) ?_ (MovesAt.snoc ⟨tp, tq, rfl, htp, htq⟩ hM16)
              intro b xs e
              rw [upd_ne]
              · exact e
              · intro z
                rw [z, hm16] at e
                cases e
            · intro mv hmv
              rcases List.mem_append.mp hmv with hmv | hmv
              · exact hg7 mv hmv
              · have e : mv = (wt, row) := by simpa using hmv
                subst e
                exact ⟨hw1, hw9, hR⟩
    · rintro σ7 H7 ⟨y5, y6, y7, ms, ws, rfl, hD7, g7, hm7, hM7, hl7, hg7⟩
      refine ⟨_, rfl, .ref m, rfl, (by show 2 ≤ sizeLine; decide), fun t nt => ?_⟩
      refine q t m many ws ms _ ⟨by omega, by omega, by omega, by omega, hg7⟩ (by omega) ⟨?_, same_new nt _ _ hm7, hM7.same (Same.tups (same_new nt))⟩ (hD7.new nt) (g7.new nt)
      rw [← em2]
      exact upd_same
end
end
/-! ### all(x in range(y) for x in a tuple of ints): a rule of our own -/
/-- the element: x in range(y), y a captured int -/
def eltR (x y : Str) (p1 p2 p3 p4 p5 : Pos) : Expr := .Compare (.Name x p1) [.In] [.Call (.Name "range" p2) [.Name y p3] [] p4] p5
def inR (n z : Int) : Bool := decide (0 ≤ z ∧ z < n)
theorem elt_range {prog : Program} {w : World} {cenv : Env} {A : Around} {E : Value → Shared → Prop} {x y : Str} {p1 p2 p3 p4 p5 : Pos} {s : Shared} {m mg mb : Str → Option Value} {cc : Addr} {z n : Int} {t u : Tok}
    (kf : cenv.scope.kind = .function) (kx : cenv.kindOf x = some .local) (ky : cenv.kindOf y = some .free) (kr : cenv.kindOf "range" = some .globalImplicit) (hm : s.heap.Ns cenv.locals m) (ex : m x = some (.int z t))
    (hc : cenv.cells.lookup y = some cc) (ec : s.heap.IsCell cc (some (.int n u))) (hg : s.heap.Ns cenv.globals mg) (nr : mg "range" = none) (hb : s.heap.Ns cenv.builtins mb) (br : mb "range" = some (.type "range"))
    (dx : (x == ("__debug__" : Str)) = false) (dy : (y == ("__debug__" : Str)) = false) (cy : (y == ("__classdict__" : Str)) = false) :
    wpAny (model prog w) A (eval (eltR x y p1 p2 p3 p4 p5) cenv) (fun v s' => v = .bool (inR n z) ∧ Keeps s s') E s := by
  refine wpAny_Compare1 (wpAny_Name (wpAny_loadName_local kf kx hm ex ?_) dx) (by rfl)
  refine wpAny_Call_Name_kw (Calls.Name_function_global kf kr (Calls.loadGlobal_builtin hg nr hb br ?_) (by decide))
  refine PyProof.Rows.callWith_type1 (Calls.spliced_cons (wpAny_Name (wpAny_loadName_free kf ky hc ec ?_ cy) dy)) (by rfl) (by rfl)
  refine Calls.spliced_nil (call_range_1 ?_)
  have ho := Heap.get?_push_size s.heap (o := { cls := .type "range", data := .fields #[.int 0 s.toks, .int n u, .int 1 (s.toks + 1)] }) rfl
  show wpAny _ _ (do return Value.bool (← contains (Value.ref s.heap.objs.size) (Value.int z t))) _ _ _
  refine wpAny_bind (wpAny_contains_slot (T := "range") ⟨_, ho, rfl⟩ F.slot_range_contains (call_meets F.slot_range_contains ⟨_, ho, rfl⟩ F.entry_range_contains (F.args_range_contains_2 _ _) (q_contains s.heap.objs.size 0 n z s.toks u (s.toks + 1) t) ⟨ho, ?_⟩))
  refine wpAny_truthy_bool (wpAny_pure ⟨?_, _, _, rfl, fun b o e => Heap.get?_push_of_some _ e⟩)
  rw [place1]
  rfl
open GxR in
/-- the walk that all(..) makes, once the generator stands at g -/
def AllReady (X : Cx) (pins : List (Addr × Obj)) (σ : L2.St) (H1 : Hp) (P : Addr) (bs : List Bool) (g : Addr) (s5 : Shared) : Prop :=
  ∃ (fp wr : List Addr) (G : Array GenState → Array GenState → Prop) (F : Nat → Value → Prop) (St : Nat → Shared → Prop) (tr : Nat → Bool),
    WalksS X.prog X.w X.A.in1 g fp wr G bs.length F St ∧ St 0 s5 ∧ TruthOf X.prog X.w X.A.in1 F tr ∧ (∀ j b, bs[j]? = some b → tr j = b) ∧
    ∀ s', Moved wr G s5 s' → ∃ H2, Tabbed P H1 H2 ∧ Inv X pins σ H2 s'
theorem clo_one {cells : List (Str × Addr)} : ∀ (names : List (Str × NameKind)) (acc : List (Str × Addr)) (y : Str) (cc : Addr), (∀ p ∈ names, p.2 = .free → cells.lookup p.1 = some ((cells.lookup p.1).getD 0)) → cells.lookup y = some cc →
    ((y, NameKind.free) ∈ names ∨ acc.lookup y = some cc) → (cloFrom cells names acc).lookup y = some cc := by
  intro names
  induction names with
  | nil =>
    intro acc y cc _ _ h
    rcases h with h | h
    · cases h
    · exact h
  | cons p r ih =>
    intro acc y cc hf hy h
    obtain ⟨n, kd⟩ := p
    unfold cloFrom
    have hf' : ∀ p ∈ r, p.2 = .free → cells.lookup p.1 = some ((cells.lookup p.1).getD 0) := fun p hp => hf p (List.mem_cons_of_mem _ hp)
    by_cases hk : (kd == NameKind.free) = true
    · rw [if_pos hk]
      refine ih _ y cc hf' hy ?_
      by_cases hn : y = n
      · subst hn
        refine .inr ?_
        rw [List.lookup_cons_self, hy]
        rfl
      · rcases h with h | h
        · rcases List.mem_cons.mp h with e | e
          · injection e with e1 _
            exact absurd e1 hn
          · exact .inl e
        · refine .inr ?_
          rw [List.lookup_cons, show (y == n) = false from by simpa using hn]
          exact h
    · rw [if_neg hk]
      refine ih _ y cc hf' hy ?_
      rcases h with h | h
      · rcases List.mem_cons.mp h with e | e
        · injection e with _ e2
          exact absurd (by rw [← e2]; rfl) hk
        · exact .inl e
      · exact .inr h
/-- the generator's code object: there already, or made and put into the table -/
theorem gen_code {M : Model} {A : Around} {env : Env} {c P : Addr} {gpos : Pos} {q : Str} {scope : Scope} {E : Value → Shared → Prop} {Q : Value → Shared → Prop} {s : Shared} {ps : Array Value} (hcode : env.code = .ref c) (cd : PySem.W.CodeHd s.heap c P)
    (hP : s.heap.get? P = some { cls := .none, data := .fields ps }) (ht : TriplesOk ps.toList)
    (h : ∀ (code : Value) (h3 : Heap) (tk : Nat) (more : Array Value), Heap.ExtBut P s.heap h3 → s.heap.objs.size ≤ h3.objs.size → h3.get? P = some { cls := .none, data := .fields (ps ++ more) } → TriplesOk (ps ++ more).toList → Q code { s with heap := h3, toks := tk }) :
    wpAny M A (genexprCode env gpos q scope) Q E s := by
  match hf : codeAmong gpos ps.toList with
  | some cv => exact wpAny_genexprCode_hit hcode (cd.code hP ht) hf (h cv s.heap s.toks #[] (Heap.ExtBut.refl _ _) (Nat.le_refl _) (by rw [Array.append_empty]; exact hP) (by rw [Array.append_empty]; exact ht))
  | none =>
    refine wpAny_genexprCodeX hcode (cd.code hP ht) (cd.tab hP) hf fun c' h' tk hx hge hlt hco _ htab _ => h _ h' tk _ hx (Nat.le_trans hge (Nat.le_of_lt hlt)) htab.2 ?_
    obtain ⟨_, _, _, _, _, _, _, _, _, _, _, _, _, _, _, _, _, _, _, htr, _⟩ := hco
    exact htr
section
variable {X : Cx} {pins : List (Addr × Obj)} {σ : L2.St} {H : Hp} {s : Shared}
open GxR in
theorem gen_range {c P : Addr} {iter : Expr} {x y : Str} {px gpos p1 p2 p3 p4 p5 : Pos} {scope : Scope} {te : TE} {k i : Nat} {Q' : Value → Shared → Prop} {R : List Int → Int → Hp → Prop}
    (hr : Room k X.A) (TB : TabB X.base X.mg c P) (hcode : X.env.code = .ref c) (S : GenS X.env scope x) (hi : PE X iter te) (hy : X.N[i]? = some y) (vy : X.env.kindOf y = some .cell) (fy : (y, NameKind.free) ∈ scope.names) (ly : scope.names.lookup y = some .free)
    (lr : scope.names.lookup ("range" : Str) = some .globalImplicit) (nr : X.mg "range" = none) (dx : (x == ("__debug__" : Str)) = false) (dy : (y == ("__debug__" : Str)) = false) (cy : (y == ("__classdict__" : Str)) = false)
    (hs : ∀ v, genFold iter X.env v = pure v) (I : Inv X pins σ H s) (h : te σ H fun v H1 => ∃ (a : Addr) (ns : List Int) (n : Int), v = .ref a ∧ SqT X.K H1 a (ns.map V.int) ∧ TabG H1 P ∧ σ[i]? = some (some (.int n)) ∧ R ns n H1)
    (hQ : ∀ ns n H1 g s5, R ns n H1 → AllReady X pins σ H1 P (ns.map (inR n)) g s5 → Q' (.ref g) s5) :
    wpAny (model X.prog X.w) X.A (eval (.GeneratorExp (eltR x y p1 p2 p3 p4 p5) [⟨.Name x px, iter, [], 0⟩] scope gpos) X.env) Q' X.xe s := by
  refine wpAny_GeneratorExp_walksQ hr.hd S.co (closure_ok S.free) S.cell S.dot S.loc S.kind (by have := hr.dp; omega) ?_ hs
  refine thn (hi.run pins s σ H _ I h) fun xv s1 ⟨v, H1, I1, r1, a, ns, n, ev, hT, hTab, hn, hR⟩ => ?_
  subst ev
  obtain rfl : xv = Value.ref a := r1
  obtain ⟨its, rv, hTup, hz⟩ := I1.tuple hT
  have tupAt : s1.heap.IsTuple a its.toArray := hTup
  -- the captured int
  obtain ⟨cc, u, hcc, hcell⟩ : ∃ (cc : Addr) (u : Tok), X.env.cells.lookup y = some cc ∧ s1.heap.IsCell cc (some (.int n u)) := by
    obtain ⟨m, _, hl⟩ := I1.loc
    obtain ⟨uv, ru, lk⟩ := hl i y (.int n) hy hn (.inr (.inl vy))
    obtain ⟨u, eu⟩ := ru
    subst eu
    rcases lk with ⟨k1, _⟩ | ⟨_, cc, e1, e2⟩
    · rw [vy] at k1
      cases k1
    · exact ⟨cc, u, e1, e2⟩
  obtain ⟨mb, bb1, bb2⟩ := I1.mod.blt
  have lenI : its.toArray.size = ns.length := by
    have e := rv.length
    rw [List.length_map] at e
    simp only [List.size_toArray]
    omega
  obtain ⟨ps, hP, hps⟩ := hTab
  refine wpAny_pyIter_tuple tupAt ?_
  -- it: the iterator's object
  let it : Obj := { cls := .type "tuple_iterator", data := .fields #[.ref a, .int 0 0] }
  have atP : s1.heap.get? P = some { cls := .none, data := .fields ps } := I1.hok P _ hP
  have ltP : P < s1.heap.objs.size := Heap.lt_size atP
  have limI : (s1.heap.push it).NoLimit := I1.nolimit.push it
  have keepI : ∀ b o, s1.heap.get? b = some o → (s1.heap.push it).get? b = some o := fun b o e => Heap.get?_push_of_some _ e
  have codeI : PySem.W.CodeHd (s1.heap.push it) c P := TB.code.keeps fun b o e => keepI b o (I1.bk b o e)
  have ltS : cStatics < s1.heap.objs.size := let ⟨_, q, _⟩ := I1.nolimit; q.lt
  have neS : cStatics ≠ P := fun e => by
    obtain ⟨_, ⟨o', es, ep, g1, g2, _⟩, _⟩ := I1.nolimit
    rw [e, atP] at g1
    cases g1
    cases g2
  have szI : (s1.heap.push it).objs.size = s1.heap.objs.size + 1 := Heap.size_push ..
  have iterI : (s1.heap.push it).IsTupleIter s1.heap.objs.size a 0 := ⟨_, Heap.get?_push_size _ rfl, rfl, rfl⟩
  have tupI : (s1.heap.push it).IsTuple a its.toArray := by
    obtain ⟨o, e, r⟩ := tupAt
    exact ⟨o, keepI _ _ e, r⟩
  have neIt : a ≠ s1.heap.objs.size := by
    obtain ⟨o, e, _⟩ := tupAt
    exact Nat.ne_of_lt (Heap.lt_size e)
  have neAP : a ≠ P := fun e => by
    obtain ⟨o, g, _, nn, dd⟩ := tupAt
    rw [e, atP] at g
    cases g
    cases dd
  have Wk : ∀ A' : Around, A'.handled = none → Walks X.prog X.w A' s1.heap.objs.size [s1.heap.objs.size, a] [s1.heap.objs.size] its.toArray.size (fun j v => its.toArray[j]? = some v) (fun j hp => hp.IsTupleIter s1.heap.objs.size a j ∧ hp.IsTuple a its.toArray) :=
    fun A' hA => Walks.tuple hA s1.heap.objs.size a neIt its.toArray
  refine ⟨limI, gen_code hcode codeI (keepI _ _ atP) hps fun code h3 tk more hx hge hP3 ht3 => ?_⟩
  have hge2 : s1.heap.objs.size + 1 ≤ h3.objs.size := by
    rw [← szI]
    exact hge
  have keep3 : ∀ b o, b ≠ P → s1.heap.get? b = some o → h3.get? b = some o := fun b o nb e => hx b o nb (keepI b o e)
  obtain ⟨bm, ob, f1, f2, f3, f4, f5, f6, f7, f8⟩ := TB.bm
  have glob3 : h3.Ns X.env.globals X.mg := by
    rw [I1.ok.glob]
    exact ((I1.mod.glob.keeps I1.bk).push it).extBut hx TB.gP
  refine wpAny_builtinsFor (m := X.mg) glob3 f1 f2 (keep3 _ _ f4 (I1.bk _ _ f5)) f6 f7 f8 ?_
  refine ⟨s1.heap.objs.size, [s1.heap.objs.size, a], [s1.heap.objs.size], its.toArray.size, fun j v => its.toArray[j]? = some v, _, fun _ => true, fun j v => ∃ z, ns[j]? = some z ∧ v = .bool (inR n z), rfl, Wk, ?_, ?_, limI.extBut hx neS, ?_, ?_, ?_⟩
  · refine ⟨?_, ?_⟩
    · obtain ⟨o, e, r⟩ := iterI
      exact ⟨o, hx _ _ (Nat.ne_of_gt ltP) e, r⟩
    · obtain ⟨o, e, r⟩ := tupI
      exact ⟨o, hx _ _ neAP e, r⟩
  · intro b hb
    show b < h3.objs.size
    rcases List.mem_cons.mp hb with e | e
    · rw [e]
      exact Nat.lt_of_succ_le hge2
    · have e2 : b = a := by simpa using e
      obtain ⟨o, g, _⟩ := tupAt
      have lta := Heap.lt_size g
      rw [e2]
      exact Nat.lt_of_lt_of_le lta (by omega)
  · intro hmem
    have e : cStatics = s1.heap.objs.size := by simpa using hmem
    rw [e] at ltS
    exact Nat.lt_irrefl _ ltS
  · intro href hhref
    refine ⟨fun A' E' j v s₂ m₂ hA hPv ha2 hb2 hk => ?_, fun A' E' j v s₂ m₂ hA hPv _ ha2 hb2 hk => ?_⟩
    · simp only [List.forIn_nil]
      exact wpAny_pure ⟨rfl, s₂.heap, s₂.toks, rfl, fun _ _ e => e⟩
    · -- what stood ahead of the generator stands
      have old : ∀ b o, b ≠ P → s1.heap.get? b = some o → s₂.heap.get? b = some o := fun b o nb e => by
        refine hk b (List.mem_range.mpr ?_) (fun z => ?_) o (hhref b o (keep3 b o nb e))
        · exact Nat.lt_of_lt_of_le (Heap.lt_size e) (by show s1.heap.objs.size ≤ h3.objs.size; omega)
        · have e2 : b = s1.heap.objs.size := by simpa using z
          exact Nat.ne_of_lt (Heap.lt_size e) e2
      have nPb : ∀ b o, X.base.get? b = some o → b ≠ P := fun b o e z => by
        have q := (I1.bs b o e).2
        rw [z, hP] at q
        cases q
      have hjv : its[j]? = some v := by simpa using hPv
      obtain ⟨zv, ez, rz⟩ : ∃ z, ns[j]? = some z ∧ RelV (.int z) v := by
        have hj : j < ns.length := by
          obtain ⟨h, _⟩ := List.getElem?_eq_some_iff.mp hjv
          simpa [lenI] using (show j < its.toArray.size by simpa using h)
        obtain ⟨uu, g1, g2⟩ := rv.get (i := j) (x := .int ns[j]) (by rw [List.getElem?_map, List.getElem?_eq_getElem hj]; rfl)
        rw [hjv] at g1
        cases g1
        exact ⟨_, List.getElem?_eq_getElem hj, g2⟩
      obtain ⟨tz, rfl⟩ := rz
      have cellS : s₂.heap.IsCell cc (some (.int n u)) := by
        obtain ⟨o, e, d⟩ := hcell
        refine ⟨o, old _ _ (fun z => ?_) e, d⟩
        rw [z, atP] at e
        cases e
        cases d
      have gS : s₂.heap.Ns mainGlobals X.mg := by
        obtain ⟨o, es, ep, e, r⟩ := I1.mod.glob
        exact ⟨o, es, ep, old _ _ (nPb _ _ e) (I1.bk _ _ e), r⟩
      have bS : s₂.heap.Ns builtinsNs mb := by
        obtain ⟨o, es, ep, e, r⟩ := bb1
        exact ⟨o, es, ep, old _ _ (nPb _ _ e) (I1.bk _ _ e), r⟩
      have hclo : (cloFrom X.env.cells scope.names []).lookup y = some cc := clo_one _ _ _ _ (fun p hp hf => by
        obtain ⟨c', ec'⟩ := S.free p hp hf
        rw [ec']
        rfl) hcc (.inl fy)
      refine thn (elt_range (x := x) (y := y) S.kind S.loc ly lr ha2 hb2 hclo cellS (mg := X.mg) (by show s₂.heap.Ns X.env.globals X.mg; rw [I1.ok.glob]; exact gS) nr bS ((bb2 "range" (by decide)).trans (by decide +kernel)) dx dy cy) fun v' s3 hv => ⟨⟨zv, ez, hv.1⟩, hv.2⟩
  · intro g h5 tk5 gs hbare hag hsz5 hk5 W5 hat
    have e0 : passing (fun _ => true) its.toArray.size 0 = List.range its.toArray.size := GxR.passing_true _
    rw [e0] at W5
    rw [List.length_range, lenI] at W5
    have oldA : ∀ b o, s1.heap.get? b = some o → b ∉ h3.objs.size :: [s1.heap.objs.size] := fun b o e hb => by
      have l0 := Heap.lt_size e
      rcases List.mem_cons.mp hb with z | z
      · rw [z] at l0
        exact absurd (Nat.lt_of_lt_of_le l0 (Nat.le_of_succ_le hge2)) (Nat.lt_irrefl _)
      · have z2 : b = s1.heap.objs.size := by simpa using z
        exact Nat.ne_of_lt l0 z2
    have W6 := W5.in4_1
    rw [show ns.length = (ns.map (inR n)).length from (List.length_map _).symm] at W6
    rw [lenI, show ns.length = (ns.map (inR n)).length from (List.length_map _).symm] at hat
    refine hQ ns n H1 g _ hR ⟨_, _, _, _, _, fun j => (ns.map (inR n)).getD j false, W6, hat, ?_, fun j b hb => by show (ns.map (inR n)).getD j false = b; rw [List.getD_eq_getElem?_getD, hb]; rfl, fun s' hm => ?_⟩
    · intro j yv sj Qj Ej hy hQj
      obtain ⟨i', hij, z, hz', rfl⟩ := hy
      obtain ⟨hj, ej⟩ := List.getElem?_eq_some_iff.mp hij
      rw [List.getElem_range] at ej
      subst ej
      refine wpAny_truthy_bool ?_
      have eb : (ns.map (inR n)).getD j false = inR n z := by
        rw [List.getD_eq_getElem?_getD, List.getElem?_map, hz']
        rfl
      have hQj' : Qj ((ns.map (inR n)).getD j false) sj := hQj
      rw [eb] at hQj'
      exact hQj'
    · have J := inv_tab (more := more) (h' := s'.heap) (g' := s'.gens) (d' := s'.drawn) (t' := s'.toks) I1 hP (fun b o nb e => hm.heap b o (oldA b o e) (hk5 b o (keep3 b o nb e))) (hm.heap P _ (oldA P _ atP) (hk5 P _ hP3)) (AllBare.movedS (I1.bare.push hbare) hm)
      rw [sh_eta s1 s' hm.os] at J
      exact ⟨upd H1 P (.tbl (ps ++ more)), ⟨⟨ps ++ more, upd_same, ht3⟩, fun b hb => upd_ne hb⟩, J⟩
/-- all(x in range(y) for x in e): e a tuple of ints, y an int in slot i -/
def tAllR (K : PySem.W.Frag) (P : Addr) (i : Nat) (te : TE) : TE := fun σ H Q => te σ H fun v H1 => ∃ (a : Addr) (ns : List Int) (n : Int), v = .ref a ∧ SqT K H1 a (ns.map V.int) ∧ GxR.TabG H1 P ∧ σ[i]? = some (some (.int n)) ∧
  ∀ H2, GxR.Tabbed P H1 H2 → Q (.bl (ns.all (inR n))) H2
theorem all_tr : ∀ (bs : List Bool) (tr : Nat → Bool), (∀ j b, bs[j]? = some b → tr j = b) → (List.range bs.length).all tr = bs.all id := by
  intro bs tr h
  rw [Bool.eq_iff_iff, List.all_eq_true, List.all_eq_true]
  constructor
  · intro g b hb
    obtain ⟨j, hj, e⟩ := List.getElem_of_mem hb
    have q := g j (List.mem_range.mpr hj)
    rw [h j b (by rw [List.getElem?_eq_getElem hj, e])] at q
    exact q
  · intro g j hj
    have hj' := List.mem_range.mp hj
    rw [h j bs[j] (List.getElem?_eq_getElem hj')]
    exact g _ (List.getElem_mem hj')
theorem pe_allR {c P : Addr} {iter : Expr} {x y : Str} {px p pos gpos p1 p2 p3 p4 p5 : Pos} {scope : Scope} {te : TE} {k i : Nat}
    (hr : Room k X.A) (hg : Gl X "all") (hm : X.mg "all" = none) (TB : GxR.TabB X.base X.mg c P) (hcode : X.env.code = .ref c) (S : GxR.GenS X.env scope x) (hi : PE X iter te) (hy : X.N[i]? = some y) (vy : X.env.kindOf y = some .cell) (fy : (y, NameKind.free) ∈ scope.names) (ly : scope.names.lookup y = some .free)
    (lr : scope.names.lookup ("range" : Str) = some .globalImplicit) (nr : X.mg "range" = none) (dx : (x == ("__debug__" : Str)) = false) (dy : (y == ("__debug__" : Str)) = false) (cy : (y == ("__classdict__" : Str)) = false)
    (hs : ∀ v, genFold iter X.env v = pure v)
    (he : starEach [.GeneratorExp (eltR x y p1 p2 p3 p4 p5) [⟨.Name x px, iter, [], 0⟩] scope gpos] X.env = (false, eval (.GeneratorExp (eltR x y p1 p2 p3 p4 p5) [⟨.Name x px, iter, [], 0⟩] scope gpos) X.env) :: starEach [] X.env := by rfl) :
    PE X (.Call (.Name "all" p) [.GeneratorExp (eltR x y p1 p2 p3 p4 p5) [⟨.Name x px, iter, [], 0⟩] scope gpos] [] pos) (tAllR X.K P i te) := by
  refine ⟨fun pins s σ H Q I h => wpAny_Call_Name_kw (ld_blt I hg hm (by decide +kernel) (PyProof.Rows.callWith_builtin1 (id := "all") ?_ he (by rfl)))⟩
  rw [he]
  show wpAny _ _ (spliced (_ :: backTo pos (starEach [] X.env))) _ _ s
  refine Calls.spliced_cons (gen_range (R := fun ns n H1 => ∀ H2, GxR.Tabbed P H1 H2 → Q (.bl (ns.all (inR n))) H2) hr TB hcode S hi hy vy fy ly lr nr dx dy cy hs I h fun ns n H1 g s5 hR ⟨fp, wr, G, F, St', tr, W, hst, htr, hb, hI⟩ => Calls.spliced_nil ?_)
  refine call_all_walkS (W.self 0 _ _ _ hst ⟨g, fp, wr, G, _, F, St', _, rfl, W, hst, htr, fun s' hmv => ?_⟩)
  obtain ⟨H2, hT, J⟩ := hI s' hmv
  refine ⟨.bl _, H2, J, rfl, ?_⟩
  rw [all_tr _ tr hb, List.all_map]
  exact hR H2 hT
end
/-! ### a def of the text whose code object is known -/
structure FunT (K : PySem.W.Frag) (x qual : Str) (st : Stmt) (f : Addr) (fd : FuncData) (c : Addr) : Prop where
  ex : ∃ (oc : Value) (od : Option Addr) (kV doc pm : Value) (an : Option Addr) (ct : Value) (osl : Array (Option Value)),
    fd = PySem.W.fnOf x qual (defArgs st) (defBody st) (defScope st) .none kV doc pm an (.ref c) ct ∧ K.lookup f = some ⟨oc, od, .func fd, osl⟩ ∧ PySem.W.codeIn K (.ref c) qual = true
  kp : PySem.W.keepIn K (.ref f) = true
/-- x not in range(..) -/
theorem op_notIn_rng {X : Cx} : OpR X (compareOp .NotIn) (fun x y H Q => ∃ i a lo hi, x = V.int i ∧ y = V.ref a ∧ H a = some (.rng lo hi) ∧ Q (.bl (!decide (lo ≤ i ∧ i < hi))) H) := by
  intro pins s σ H x y v u Q I rx ry ⟨i, a, lo, hi, ex, ey, ha, q⟩
  subst ex ey
  obtain ⟨k, rfl⟩ := rx
  have e2 : u = Value.ref a := ry
  subst e2
  obtain ⟨t1, t2, t3, ho⟩ := I.hok a _ ha
  show wpAny _ _ (do return Value.bool (!(← contains (Value.ref a) (Value.int i k)))) _ _ s
  refine wpAny_bind (wpAny_contains_slot (T := "range") ⟨_, ho, rfl⟩ F.slot_range_contains (call_meets F.slot_range_contains ⟨_, ho, rfl⟩ F.entry_range_contains (F.args_range_contains_2 _ _) (q_contains a lo hi i t1 t2 t3 k) ⟨ho, wpAny_truthy_bool ?_⟩))
  refine wpAny_pure ⟨.bl _, H, I, rfl, ?_⟩
  rw [place1]
  exact q
section
variable {P : Program} {w : World} {K : PySem.W.Frag} {mg : Str → Option Value} {base : Heap}
/-! ### _is_move -/
theorem scIsMove : FnScope ["many", "move", "weight", "whither"] ["many", "move"] (defScope sIsMove) := ⟨rfl, rfl, rfl, by decide +kernel, rfl, by decide +kernel, by decide +kernel⟩
def isMv (many : Int) (m : Mv) : Bool := decide (1 ≤ m.1 ∧ m.1 < 100) && decide ((m.2.length : Int) = many) && m.2.all (inR many)
def spIsMove (T : Addr) : Sp := fun vs H Q _ => ∃ (many : Int) (v : V) (m : Mv), vs = [.int many, v] ∧ MoveAt H v m ∧ GxR.TabG H T ∧ ∀ H', Gr T H H' → GxR.TabG H' T → Q (.bl (isMv many m)) H'
/-- the program's names that a chain leans on -/
structure ChTxt (K : PySem.W.Frag) (mg : Str → Option Value) (fM cM tM : Addr) (fdM : FuncData) (C fI : Addr) (fdI : FuncData) : Prop where
  FM : FunT K "_is_move" "_is_move" sIsMove fM fdM cM
  bM : Binds K fdM ["many", "move"] []
  gM : mg "_is_move" = some (.ref fM)
  FI : Fun K "__init__" "Chain.__init__" (inClass cChain 0) fI fdI
  bI : Binds K fdI ["self", "many", "moves"] []
  mC : Mk K C fI
  cl : Cls K C
  nM : NoAttr K C "_many"
  nV : NoAttr K C "_moves"
  gC : mg "Chain" = some (.ref C)
  gP : ∃ t, mg "MOST_PLACES" = some (.int 6 t)
  gV : ∃ t, mg "MOST_MOVES" = some (.int 8 t)
  gW : ∃ t, mg "MOST_WEIGHT" = some (.int 99 t)
  ml : mg "len" = none
  mi : mg "isinstance" = none
  mt : mg "tuple" = none
  mr : mg "range" = none
  ma : mg "all" = none
  me : mg "enumerate" = none
  mL : mg "list" = none
section
variable {fM cM tM : Addr} {fdM : FuncData} {C fI : Addr} {fdI : FuncData}
theorem genS_move {L f : Addr} {cdv : Value} {scope : Scope} (hs : scope.names = [((".0" : Str), .local), (("place" : Str), .local), (("many" : Str), .free), (("range" : Str), .globalImplicit)]) (hk : scope.kind = .function) (hc : scope.isCoroutine = false) (ha : (envOfC "_is_move" (defScope sIsMove) L f cdv).cells.lookup ("many" : Str) ≠ none) :
    GxR.GenS (envOfC "_is_move" (defScope sIsMove) L f cdv) scope "place" := by
  refine ⟨hk, hc, ?_, ?_, ?_, ?_⟩
  · rw [hs]
    decide +kernel
  · rw [hs]
    decide +kernel
  · rw [hs]
    decide +kernel
  · intro y hy hf
    rw [hs] at hy
    have e : y.1 = ("many" : Str) := by
      rcases List.mem_cons.mp hy with e | hy
      · rw [e] at hf
        cases hf
      rcases List.mem_cons.mp hy with e | hy
      · rw [e] at hf
        cases hf
      rcases List.mem_cons.mp hy with e | hy
      · rw [e]
      rcases List.mem_cons.mp hy with e | hy
      · rw [e] at hf
        cases hf
      · cases hy
    rw [e]
    cases q : (envOfC "_is_move" (defScope sIsMove) L f cdv).cells.lookup ("many" : Str) with
    | none => exact absurd q ha
    | some c => exact ⟨c, rfl⟩
theorem ok_ismove (T : ChTxt K mg fM cM tM fdM C fI fdI) (TB : GxR.TabB base mg cM tM) : FnOk P w K mg base CX0 1 fM fdM ["many", "move"] (spIsMove tM) := by
  obtain ⟨oc, od, kV, doc, pm, an, ct, osl, efd, lk, hcd⟩ := T.FM.ex
  subst efd
  obtain ⟨tw, gW⟩ := T.gW
  refine fn_of (N := ["many", "move", "weight", "whither"]) lk hcd scIsMove (fun vs H Q E h => ?_) (fun A outer s H vs Q E hr h => ?_)
  · obtain ⟨many, v, m, rfl, _⟩ := h
    rfl
  · obtain ⟨many, v, m, rfl, ⟨a, b, rfl, ha, hb⟩, hTab, q⟩ := h
    refine ⟨_, pss_cons (ps_if (PW.pt (pw_or (pt_not (pt_val (pe_callB RZ.call_isTy (by rfl) T.mi (by decide +kernel) (pa_cons (pv 1) (pa_cons (pe_bltn (v := .ty "tuple") (by rfl) T.mt (by decide +kernel) rfl) pa_nil)))))
          (pw_or1 (pt_cmpR op_ne (pe_callB call_len_seq (by rfl) T.ml PySem.boot_len (pa_cons (pv 1) pa_nil)) pe_int (nomark _))))) (pss_one (ps_ret pe_bl)) pss_nil)
      (pss_cons (ps_asg (pv 1) (pg_tup rfl (pgs_cons (pg_name (i := 2) scIsMove.nd rfl (.inl rfl)) (pgs_cons (pg_name (i := 3) scIsMove.nd rfl (.inl rfl)) pgs_nil))))
      (pss_cons (ps_if (pt_cmpR op_notIn_rng (pv 2) (pe_callTy cr_range2 (by rfl) T.mr (by decide +kernel) (pa_cons pe_int (pa_cons (pe_op op_add (pe_glob (v := .int 99) (by rfl) gW ⟨_, rfl⟩) pe_int) pa_nil))) rfl) (pss_one (ps_ret pe_bl)) pss_nil)
      (pss_cons (ps_if (PW.pt (pw_or (pt_not (pt_val (pe_callB RZ.call_isTy (by rfl) T.mi (by decide +kernel) (pa_cons (pv 3) (pa_cons (pe_bltn (v := .ty "tuple") (by rfl) T.mt (by decide +kernel) rfl) pa_nil)))))
          (pw_or1 (pt_cmpR op_ne (pe_callB call_len_seq (by rfl) T.ml PySem.boot_len (pa_cons (pv 3) pa_nil)) (pv 0) (nomark _))))) (pss_one (ps_ret pe_bl)) pss_nil)
      (pss_one (ps_ret (pe_allR (k := 0) (x := "place") (y := "many") (i := 0) hr (by rfl) T.ma TB rfl (genS_move (by rfl) rfl rfl ?hcell) (pv 3) rfl rfl (by decide +kernel) (by decide +kernel) (by decide +kernel) T.mr (by decide) (by decide) (by decide) (fun _ => rfl) (by rfl))))))), ?_⟩
    case hcell =>
      intro z
      have q : ((envOfC "_is_move" (defScope sIsMove) s.heap.objs.size fM (.ref cM)).cells.lookup ("many" : Str)).isSome = true := PySem.W.cellsFrom_some _ _ _ (.inl (by decide +kernel))
      rw [z] at q
      cases q
    have neT : ∀ {p : Addr}, H p = none → p ≠ tM := fun np z => by
      obtain ⟨ps, e, _⟩ := hTab
      rw [z, e] at np
      cases np
    refine ⟨.ref a, rfl, .ref a, "tuple", rfl, .tup ha, true, rfl, ?_⟩
    refine ⟨.ref a, rfl, a, _, rfl, .inr (SqT.of ha), rfl, _, rfl, iteNS rfl ?_⟩
    refine ⟨.ref a, rfl, a, _, rfl, SqT.of ha, rfl, .int m.1, [.ref b], rfl, .ref b, [], rfl, rfl, ?_⟩
    refine ⟨.int m.1, rfl, 99, 1, rfl, rfl, 1, 100, rfl, fun r nr => ⟨m.1, r, 1, 100, rfl, rfl, upd_same, _, rfl, ?_⟩⟩
    have g1 : Same H (upd H r (.rng 1 100)) := same_new nr
    have tab1 : GxR.TabG (upd H r (.rng 1 100)) tM := by
      obtain ⟨ps, e, t⟩ := hTab
      exact ⟨ps, g1 _ _ e, t⟩
    have hb1 := g1 _ _ hb
    by_cases h1 : 1 ≤ m.1 ∧ m.1 < 100
    · refine iteNS h1 ?_
      refine ⟨.ref b, rfl, .ref b, "tuple", rfl, .tup hb1, true, rfl, ?_⟩
      refine ⟨.ref b, rfl, b, _, rfl, .inr (SqT.of hb1), .int many, rfl, rfl, _, rfl, ?_⟩
      by_cases h2 : (((m.2.map V.int).length : Nat) : Int) = many
      · refine iteNS (congrArg V.int h2) ?_
        refine ⟨.ref b, rfl, b, m.2, many, rfl, SqT.of hb1, tab1, rfl, fun H2 ⟨t2, k2⟩ => ?_⟩
        have e : isMv many m = m.2.all (inR many) := by
          unfold isMv
          rw [List.length_map] at h2
          rw [decide_eq_true h1, decide_eq_true h2, Bool.true_and, Bool.true_and]
        have q2 := q H2 (fun x o nx ex => by rw [k2 x nx]; exact g1 _ _ ex) t2
        rw [e] at q2
        exact q2
      · have e : isMv many m = false := by
          unfold isMv
          rw [List.length_map] at h2
          rw [decide_eq_false h2, Bool.and_false, Bool.false_and]
        have q2 := q _ (Gr.of_same g1) tab1
        rw [e] at q2
        have h3 : ¬ V.int (((m.2.map V.int).length : Nat) : Int) = V.int many := fun z => h2 (V.int.inj z)
        show if (!decide (V.int (((m.2.map V.int).length : Nat) : Int) = V.int many)) = true then _ else _
        rw [decide_eq_false h3]
        exact q2
    · have e : isMv many m = false := by
        unfold isMv
        rw [decide_eq_false h1, Bool.false_and, Bool.false_and]
      have q2 := q _ (Gr.of_same g1) tab1
      rw [e] at q2
      rw [decide_eq_false h1]
      exact q2
end
end
def rLenSq (K : PySem.W.Frag) : List V → Hp → VK → Prop := fun xs H Q => ∃ p ys, xs = [V.ref p] ∧ (SqL K H p ys ∨ SqT K H p ys) ∧ Q (.int ((ys.length : Nat) : Int)) H
section
variable {P : Program} {w : World} {K : PySem.W.Frag} {mg : Str → Option Value} {base : Heap}
variable {fM cM tM : Addr} {fdM : FuncData} {C fI : Addr} {fdI : FuncData}
/-! ### class Chain -/
theorem scInit : FnScope ["self", "many", "moves", "number", "move"] ["self", "many", "moves"] (defScope (inClass cChain 0)) := ⟨rfl, rfl, rfl, by decide +kernel, rfl, by decide +kernel, by decide +kernel⟩
def chF (many : Int) (a : Addr) : List (Str × V) := putF "_moves" (.ref a) (putF "_many" (.int many) [])
theorem ne_mm : ¬ (("_many" : Str) = "_moves") := by decide +kernel
theorem chF_many (many : Int) (a : Addr) : (chF many a).lookup ("_many" : Str) = some (.int many) := by
  unfold chF
  rw [lookup_putF, if_neg ne_mm, lookup_putF, if_pos rfl]
theorem chF_moves (many : Int) (a : Addr) : (chF many a).lookup ("_moves" : Str) = some (.ref a) := by
  unfold chF
  rw [lookup_putF, if_pos rfl]
theorem chF_no (many : Int) (a : Addr) {m : Str} (h1 : ¬ m = "_many") (h2 : ¬ m = "_moves") : (chF many a).lookup m = none := by
  unfold chF
  rw [lookup_putF, if_neg h2, lookup_putF, if_neg h1]
  all_goals rfl
def ChainAt (C : Addr) (H : Hp) (x : Addr) (many : Nat) (ms : List Mv) : Prop := ∃ dx a ws, H x = some (.ins C dx (chF (many : Int) a)) ∧ H a = some (.lst ws) ∧ MovesAt H ws ms
theorem ChainAt.same {C : Addr} {H H' : Hp} {x : Addr} {many : Nat} {ms : List Mv} (s : Same H H') (h : ChainAt C H x many ms) : ChainAt C H' x many ms := by
  obtain ⟨dx, a, ws, h1, h2, h3⟩ := h
  exact ⟨dx, a, ws, s _ _ h1, s _ _ h2, h3.same (Same.tups s)⟩
theorem moves_no_dl {H : Hp} {ws : List V} {ms : List Mv} (h : MovesAt H ws ms) (s0 : Int) (l : Addr) (k big : Int) : HO.lst ws ≠ .lst (dl s0 l k big) := by
  intro z
  injection z with z
  subst z
  cases h with
  | cons a _ =>
    obtain ⟨_, _, e, _⟩ := a
    cases e
theorem ChainAt.gr {C d l : Addr} {ns : List Int} {H H' : Hp} {x : Addr} {many : Nat} {ms : List Mv} (hd : Dc K l ns H d) (s : Gr d H H') (h : ChainAt C H x many ms) : ChainAt C H' x many ms := by
  obtain ⟨dx, a, ws, h1, h2, h3⟩ := h
  exact ⟨dx, a, ws, s _ _ (hd.ne_of h1 fun _ _ _ _ z => nomatch z) h1, s _ _ (hd.ne_of h2 (moves_no_dl h3)) h2, h3.same (s.tups hd)⟩
/-- all that is tracked, but at x and t, is as it was -/
def Gr2 (x t : Addr) (H H' : Hp) : Prop := ∀ b o, b ≠ x → b ≠ t → H b = some o → H' b = some o
/-- a chain that has just been made: its list of moves is its own -/
def ChainNew (C : Addr) (H H' : Hp) (x : Addr) (many : Nat) (ms : List Mv) : Prop := ∃ dx a ws, H' x = some (.ins C dx (chF (many : Int) a)) ∧ H' a = some (.lst ws) ∧ MovesAt H' ws ms ∧ H a = none
theorem ChainNew.at {C : Addr} {H H' : Hp} {x : Addr} {many : Nat} {ms : List Mv} (h : ChainNew C H H' x many ms) : ChainAt C H' x many ms := by
  obtain ⟨dx, a, ws, h1, h2, h3, _⟩ := h
  exact ⟨dx, a, ws, h1, h2, h3⟩
def spInitG (C T : Addr) : Sp := fun vs H Q _ => ∃ (x dx l : Addr) (many : Nat) (ws : List V) (ms : List Mv), vs = [.ref x, .int (many : Int), .ref l] ∧ H x = some (.ins C dx []) ∧ H l = some (.lst ws) ∧ MovesAt H ws ms ∧ Good many ms ∧ GxR.TabG H T ∧
  ∀ H', ChainNew C H H' x many ms → Gr2 x T H H' → GxR.TabG H' T → Q .non H'
theorem isMv_good {many : Nat} {m : Mv} (h : GoodMv many m) : isMv (many : Int) m = true := by
  obtain ⟨h1, h2, h3, h4⟩ := h
  unfold isMv
  rw [decide_eq_true (show 1 ≤ m.1 ∧ m.1 < 100 from ⟨h1, by omega⟩), decide_eq_true (show (m.2.length : Int) = (many : Int) by rw [h3]), Bool.true_and, Bool.true_and, List.all_eq_true]
  intro x hx
  unfold inR
  exact decide_eq_true (h4 x hx)
theorem ok_initG (T : ChTxt K mg fM cM tM fdM C fI fdI) (TB : GxR.TabB base mg cM tM) : FnOk P w K mg base CX0 2 fI fdI ["self", "many", "moves"] (spInitG C tM) := by
  have GM : FnOk P w K mg base CX0 1 fM fdM ["many", "move"] (spIsMove tM) := ok_ismove T TB
  obtain ⟨tp, gP⟩ := T.gP
  obtain ⟨tv, gV⟩ := T.gV
  refine T.FI.ok scInit (fun vs H Q E h => ?_) (fun cdv A outer s H vs Q E hr h => ?_)
  · obtain ⟨x, dx, l, many, ws, ms, rfl, _⟩ := h
    rfl
  · obtain ⟨x, dx, l, many, ws, ms, rfl, hx, hl, hM, G, hTab, q⟩ := h
    have lenW := hM.length
    refine ⟨_, pss_cons (ps_if (pt_not (pt_chain op_le op_le pe_int (pv 1) (pe_glob (v := .int 6) (by rfl) gP ⟨_, rfl⟩))) pss_never pss_nil)
      (pss_cons (ps_if (pt_not (pt_chain op_le op_le pe_int (pe_callB call_len_seq (by rfl) T.ml PySem.boot_len (pa_cons (pv 2) pa_nil)) (pe_glob (v := .int 8) (by rfl) gV ⟨_, rfl⟩))) pss_never pss_nil)
      (pss_cons (ps_for PassesOwn.never rfl (pi_enum (by rfl) T.me (pa_cons (pv 2) pa_nil)) (pg_tup rfl (pgs_cons (pg_name (i := 3) scInit.nd rfl (.inl rfl)) (pgs_cons (pg_name (i := 4) scInit.nd rfl (.inl rfl)) pgs_nil)))
          (pss_one (ps_if (pt_not (pt_val (pe_call GM hr (by rfl) T.gM T.FM.kp T.bM .nil pass0 (pa_cons (pv 1) (pa_cons (pv 4) pa_nil))))) pss_never pss_nil)))
      (pss_cons (ps_fld (pv 0) (pv 1) rfl)
      (pss_one (ps_fld (pv 0) (pe_callTy call_list_of (by rfl) T.mL (by decide +kernel) (pa_cons (pv 2) pa_nil)) rfl))))), ?_⟩
    have G1 := G.m1
    have G2 := G.m6
    have G3 := G.l1
    have G4 := G.l8
    refine ⟨.int (many : Int), rfl, 1, (many : Int), rfl, rfl, _, rfl, ifD (by omega) ⟨_, _, rfl, rfl, _, rfl, iteNS (by omega) ?_⟩⟩
    have hS : SqL K H l ws := SqL.of hl
    refine ⟨.ref l, rfl, l, ws, rfl, .inl hS, 1, _, rfl, rfl, _, rfl, ifD (by omega) ⟨_, _, rfl, rfl, _, rfl, iteNS (by omega) ?_⟩⟩
    -- for number, move in enumerate(moves)
    have nxT : x ≠ tM := fun z => by
      obtain ⟨ps, e, _⟩ := hTab
      rw [z, e] at hx
      cases hx
    have nlT : l ≠ tM := fun z => by
      obtain ⟨ps, e, _⟩ := hTab
      rw [z, e] at hl
      cases hl
    have nxl : x ≠ l := ne_of hx hl (fun z => nomatch z)
    have tupK : ∀ {H'}, Gr tM H H' → ∀ b xs, H b = some (.tup xs) → H' b = some (.tup xs) := fun {H'} g b xs e => g b _ (fun z => by
      obtain ⟨ps, e2, _⟩ := hTab
      rw [z, e2] at e
      cases e) e
    refine ⟨.ref l, rfl, l, ws, rfl, hS, for_it (walk_enum (K := K) (a := l) (xs := ws)) (fun i σ H' => ∃ y3 y4, σ = [some (.ref x), some (.int (many : Int)), some (.ref l), y3, y4] ∧ Gr tM H H' ∧ GxR.TabG H' tM)
      ⟨none, none, rfl, Gr.refl _ _, hTab⟩ (fun i σ H' hi ⟨y3, y4, e, g, t⟩ => SqL.of (g l _ nlT hl)) ?_ ?_⟩
    · rintro i z σ H1 H2 hi ⟨y3, y4, rfl, g1, t1⟩ ⟨Tp, u, v, rfl, nT, rfl, eu, ev⟩
      have g2 : Gr tM H (upd H1 Tp (.tup [u, v])) := g1.new nT
      have t2 : GxR.TabG (upd H1 Tp (.tup [u, v])) tM := by
        obtain ⟨ps, e, t⟩ := t1
        exact ⟨ps, (same_new nT) _ _ e, t⟩
      refine ⟨Tp, [u, v], rfl, SqT.of upd_same, rfl, u, [v], rfl, v, [], rfl, rfl, ?_⟩
      obtain ⟨m, em, hm⟩ := hM.get' ev
      have hgood := G.mv m (List.mem_of_getElem? em)
      have hm2 : MoveAt (upd H1 Tp (.tup [u, v])) v m := hm.same (tupK g2)
      refine ⟨.int (many : Int), rfl, v, rfl, (many : Int), v, m, rfl, hm2, t2, fun H3 g3 t3 => ?_⟩
      rw [isMv_good hgood]
      refine ⟨true, rfl, ?_⟩
      exact ⟨some u, some v, rfl, g2.trans g3, t3⟩
    · rintro σ H1 ⟨y3, y4, rfl, g1, t1⟩
      have hx1 := g1 x _ nxT hx
      have hl1 := g1 l _ nlT hl
      refine ⟨.int (many : Int), rfl, .ref x, rfl, x, C, dx, [], rfl, hx1, T.cl, T.nM, (by show 0 < 1000; decide), ?_⟩
      have hx2 : (upd H1 x (.ins C dx (putF "_many" (.int (many : Int)) []))) x = some (.ins C dx (putF "_many" (.int (many : Int)) [])) := upd_same
      have hl2 : (upd H1 x (.ins C dx (putF "_many" (.int (many : Int)) []))) l = some (.lst ws) := by
        rw [upd_ne (Ne.symm nxl)]
        exact hl1
      refine ⟨.ref l, rfl, l, ws, rfl, .inl (SqL.of hl2), fun a na => ?_⟩
      have nxa : x ≠ a := ne_of_none hx2 na
      refine ⟨.ref x, rfl, x, C, dx, _, rfl, (by rw [upd_ne nxa]; exact hx2), T.cl, T.nV, (by show 1 < 1000; decide), ?_⟩
      have naH1 : H1 a = none := by
        rw [upd_ne (Ne.symm nxa)] at na
        exact na
      have keepT : ∀ b o, b ≠ x → H1 b = some o → (upd (upd (upd H1 x (.ins C dx (putF "_many" (.int (many : Int)) []))) a (.lst ws)) x (.ins C dx (chF (many : Int) a))) b = some o := fun b o nb e => by
        rw [upd_ne nb, upd_ne (ne_of_none e naH1), upd_ne nb]
        exact e
      have ntx : ∀ xs, H1 x ≠ some (.tup xs) := fun xs z => by
        rw [hx1] at z
        cases z
      have naH : H a = none := by
        cases h : H a with
        | none => rfl
        | some o =>
          have nat : a ≠ tM := fun z => by
            obtain ⟨ps, e, _⟩ := t1
            rw [z, e] at naH1
            cases naH1
          rw [g1 a o nat h] at naH1
          cases naH1
      refine q _ ⟨dx, a, ws, upd_same, ?_, hM.same (fun b xs e => ?_), naH⟩ (fun b o nb nt e => keepT b o nb (g1 b o nt e)) ?_
      · rw [upd_ne (Ne.symm nxa)]
        exact upd_same
      · have e1 := tupK g1 b xs e
        refine keepT b _ (fun z => ?_) e1
        rw [z] at e1
        exact ntx xs e1
      · obtain ⟨ps, e, t⟩ := t1
        exact ⟨ps, keepT _ _ (Ne.symm nxT) e, t⟩
/-! ### places, told -/
theorem scPlaces : FnScope ["self"] ["self"] (defScope (inClass cChain 1)) := ⟨rfl, rfl, rfl, by decide +kernel, rfl, by decide +kernel, by decide +kernel⟩
theorem scTold : FnScope ["self"] ["self"] (defScope (inClass cChain 2)) := ⟨rfl, rfl, rfl, by decide +kernel, rfl, by decide +kernel, by decide +kernel⟩
def spPlaces (C : Addr) : Sp := fun vs H Q _ => ∃ (x : Addr) (many : Nat) (ms : List Mv), vs = [.ref x] ∧ ChainAt C H x many ms ∧ Q (.int (many : Int)) H
def spTold (C : Addr) : Sp := fun vs H Q _ => ∃ (x : Addr) (many : Nat) (ms : List Mv), vs = [.ref x] ∧ ChainAt C H x many ms ∧ ∀ (l : Addr) (ws : List V), H l = none → MovesAt (upd H l (.lst ws)) ws ms → Q (.ref l) (upd H l (.lst ws))
theorem ok_places {f : Addr} {fd : FuncData} {k : Nat} (F : Fun K "places" "Chain.places" (inClass cChain 1) f fd) (cl : Cls K C) (nM : NoAttr K C "_many") : FnOk P w K mg base CX0 (k + 1) f fd ["self"] (spPlaces C) := by
  refine F.ok scPlaces (fun vs H Q E h => ?_) (fun cdv A outer s H vs Q E hr h => ?_)
  · obtain ⟨x, many, ms, rfl, _⟩ := h
    rfl
  · obtain ⟨x, many, ms, rfl, ⟨dx, a, ws, h1, h2, h3⟩, q⟩ := h
    exact ⟨_, pss_one (ps_ret (pe_fld (pv 0) rfl)), .ref x, rfl, x, C, dx, _, _, rfl, h1, cl, nM, chF_many _ _, q⟩
theorem ok_told {f : Addr} {fd : FuncData} {k : Nat} (F : Fun K "told" "Chain.told" (inClass cChain 2) f fd) (cl : Cls K C) (nV : NoAttr K C "_moves") (mL : mg "list" = none) : FnOk P w K mg base CX0 (k + 1) f fd ["self"] (spTold C) := by
  refine F.ok scTold (fun vs H Q E h => ?_) (fun cdv A outer s H vs Q E hr h => ?_)
  · obtain ⟨x, many, ms, rfl, _⟩ := h
    rfl
  · obtain ⟨x, many, ms, rfl, ⟨dx, a, ws, h1, h2, h3⟩, q⟩ := h
    exact ⟨_, pss_one (ps_ret (pe_callTy call_list_of (by rfl) mL (by decide +kernel) (pa_cons (pe_fld (pv 0) rfl) pa_nil))), .ref x, rfl, x, C, dx, _, _, rfl, h1, cl, nV, chF_moves _ _, a, ws, rfl, .inl (SqL.of h2), fun l nl => q l ws nl (h3.same (Same.tups (same_new nl)))⟩
end
section
variable {P : Program} {w : World} {K : PySem.W.Frag} {mg : Str → Option Value} {base : Heap}
variable {fM cM tM : Addr} {fdM : FuncData} {C fI : Addr} {fdI : FuncData}
/-! ### _law_made -/
theorem scMade : FnScope ["_law_told"] ["_law_told"] (defScope sMade) := ⟨rfl, rfl, rfl, by decide +kernel, rfl, by decide +kernel, by decide +kernel⟩
def spMade (C T : Addr) : Sp := fun vs H Q _ => ∃ (t m : Addr) (many : Nat) (ws : List V) (ms : List Mv), vs = [.ref t] ∧ ToldAt H t m many ws ms ∧ Good many ms ∧ GxR.TabG H T ∧ ∀ H' x, ChainAt C H' x many ms → H x = none → Gr T H H' → GxR.TabG H' T → Q (.ref x) H'
theorem ok_made {f : Addr} {fd : FuncData} (F : Fun K "_law_made" "_law_made" sMade f fd) (T : ChTxt K mg fM cM tM fdM C fI fdI) (TB : GxR.TabB base mg cM tM) : FnOk P w K mg base CX0 4 f fd ["_law_told"] (spMade C tM) := by
  have GI : FnOk P w K mg base CX0 2 fI fdI ["self", "many", "moves"] (spInitG C tM) := ok_initG T TB
  refine F.ok scMade (fun vs H Q E h => ?_) (fun cdv A outer s H vs Q E hr h => ?_)
  · obtain ⟨t, m, many, ws, ms, rfl, _⟩ := h
    rfl
  · obtain ⟨t, m, many, ws, ms, rfl, ⟨h1, h2, h3⟩, G, ⟨ps, hT, htr⟩, q⟩ := h
    refine ⟨_, pss_one (ps_ret (pe_make T.mC GI hr (by rfl) T.gC T.bI .nil pass0 (pa_cons (pe_ix ix_tup (pv 0) pe_int (fun _ _ => rfl)) (pa_cons (pe_callTy call_list_of (by rfl) T.mL (by decide +kernel) (pa_cons (pe_ix ix_tup (pv 0) pe_int (fun _ _ => rfl)) pa_nil)) pa_nil)))), ?_⟩
    refine ⟨.ref t, rfl, t, _, 0, _, rfl, rfl, SqT.of h1, atI_nat (j := 0) rfl, .ref t, rfl, t, _, 1, _, rfl, rfl, SqT.of h1, atI_nat (j := 1) rfl, m, ws, rfl, .inl (SqL.of h2), fun l nl x dx nx ndx nxd => ?_⟩
    have s1 : Same H (upd H l (.lst ws)) := same_new nl
    have s2 : Same (upd H l (.lst ws)) (upd (upd H l (.lst ws)) dx (.own x)) := same_new ndx
    have nx' : (upd (upd H l (.lst ws)) dx (.own x)) x = none := by
      rw [upd_ne (Ne.symm nxd)]
      exact nx
    have s3 := same_new (o := .ins C dx []) nx'
    have s := (s1.trans s2).trans s3
    refine ⟨x, dx, l, many, ws, ms, rfl, upd_same, (s2.trans s3) _ _ upd_same, h3.same (Same.tups s), G, ⟨ps, s _ _ hT, htr⟩, fun H' hc g t' => ⟨rfl, ?_⟩⟩
    exact q H' x hc.at (s1.free nx) (fun b o nb e => g b o (ne_of_none (s1 _ _ e) nx) nb (s _ _ e)) t'
end
/-- a def of the module, named -/
structure Df (K : PySem.W.Frag) (mg : Str → Option Value) (x : Str) (st : Stmt) (ps : List Str) (f : Addr) (fd : FuncData) : Prop where
  F : Fun K x x st f fd
  b : Binds K fd ps []
  g : mg x = some (.ref f)
def spLaw (K : PySem.W.Frag) (T : Addr) : Sp := fun vs H Q _ => ∃ (a : Addr) (ns : List Int), vs = [.ref a] ∧ SqL K H a (ns.map V.int) ∧ ns.length ≤ 63 ∧ GxR.TabG H T ∧ ∀ H', Q (.bl true) H'
theorem Same.put {H H1 : Hp} {p : Addr} {o : HO} (s : Same H H1) (n : H p = none) : Same H (upd H1 p o) := fun b u e => by
  rw [upd_ne (ne_of_none e n)]
  exact s b u e
theorem ToldAt.same {H H' : Hp} {t m : Addr} {many : Nat} {ws : List V} {ms : List Mv} (s : Same H H') (h : ToldAt H t m many ws ms) : ToldAt H' t m many ws ms := ⟨s _ _ h.1, s _ _ h.2.1, h.2.2.same (Same.tups s)⟩
theorem ToldAt.gr {K : PySem.W.Frag} {d l : Addr} {ns : List Int} {H H' : Hp} {t m : Addr} {many : Nat} {ws : List V} {ms : List Mv} (hd : Dc K l ns H d) (g : Gr d H H') (h : ToldAt H t m many ws ms) : ToldAt H' t m many ws ms :=
  ⟨g.tups hd _ _ h.1, g _ _ (hd.ne_of h.2.1 (moves_no_dl h.2.2)) h.2.1, h.2.2.same (g.tups hd)⟩
/-- a table stands while the dice turns -/
theorem tab_gr {K : PySem.W.Frag} {d l : Addr} {ns : List Int} {H H' : Hp} {T : Addr} (hd : Dc K l ns H d) (g : Gr d H H') (h : GxR.TabG H T) : GxR.TabG H' T := by
  obtain ⟨ps, e, t⟩ := h
  exact ⟨ps, g _ _ (hd.ne_of e fun _ _ _ _ z => nomatch z) e, t⟩
theorem tab_same {H H' : Hp} {T : Addr} (s : Same H H') (h : GxR.TabG H T) : GxR.TabG H' T := by
  obtain ⟨ps, e, t⟩ := h
  exact ⟨ps, s _ _ e, t⟩
/-- what is no table stands while the table grows -/
theorem Gr.tab {T p : Addr} {H H' : Hp} {o : HO} (hT : GxR.TabG H T) (g : Gr T H H') (n : ∀ qs, o ≠ .tbl qs) (h : H p = some o) : H' p = some o := g p o (fun z => by
  obtain ⟨ps, e, _⟩ := hT
  rw [z, e] at h
  exact n ps (Option.some.inj h).symm) h
theorem ToldAt.tab {T t m : Addr} {H H' : Hp} {many : Nat} {ws : List V} {ms : List Mv} (hT : GxR.TabG H T) (g : Gr T H H') (h : ToldAt H t m many ws ms) : ToldAt H' t m many ws ms :=
  ⟨g.tab hT (fun _ z => nomatch z) h.1, g.tab hT (fun _ z => nomatch z) h.2.1, h.2.2.same fun _ _ e => g.tab hT (fun _ z => nomatch z) e⟩
theorem Dc.tabT {K : PySem.W.Frag} {T d l : Addr} {ns : List Int} {H H' : Hp} (hT : GxR.TabG H T) (g : Gr T H H') (h : Dc K l ns H d) : Dc K l ns H' d := by
  obtain ⟨s0, k, big, h1, h2, h3⟩ := h
  refine ⟨s0, k, big, g.tab hT (fun _ z => nomatch z) h1, ?_, h3⟩
  rcases h2 with (h | ⟨o, h⟩) | h
  · exact .inl (.inl (g.tab hT (fun _ z => nomatch z) h))
  · exact .inl (.inr ⟨o, g.tab hT (fun _ z => nomatch z) h⟩)
  · exact .inr h
theorem Gr.put {d : Addr} {H H1 : Hp} {p : Addr} {o : HO} (a : Gr d H H1) (h : H p = none) : Gr d H (upd H1 p o) := fun b u n e => by
  rw [upd_ne (ne_of_none e h)]
  exact a b u n e
theorem Gr.free {d : Addr} {H H1 : Hp} {p : Addr} (a : Gr d H H1) (n : H1 p = none) (h : p ≠ d) : H p = none := by
  cases e : H p with
  | none => rfl
  | some o =>
    rw [a p o h e] at n
    cases n
theorem paired_drop {α β : Type} {F : α → β → Prop} : ∀ {l₁ : List α} {l₂ : List β} (n : Nat), Paired F l₁ l₂ → Paired F (l₁.drop n) (l₂.drop n)
  | _, _, 0, h => h
  | _, _, _ + 1, .nil => .nil
  | _, _, n + 1, .cons _ t => paired_drop n t
theorem paired_take {α β : Type} {F : α → β → Prop} : ∀ {l₁ : List α} {l₂ : List β} (n : Nat), Paired F l₁ l₂ → Paired F (l₁.take n) (l₂.take n)
  | _, _, 0, _ => .nil
  | _, _, _ + 1, .nil => .nil
  | _, _, n + 1, .cons h t => .cons h (paired_take n t)
theorem paired_app {α β : Type} {F : α → β → Prop} : ∀ {l₁ : List α} {l₂ : List β} {k₁ : List α} {k₂ : List β}, Paired F l₁ l₂ → Paired F k₁ k₂ → Paired F (l₁ ++ k₁) (l₂ ++ k₂)
  | _, _, _, _, .nil, h => h
  | _, _, _, _, .cons q t, h => .cons q (paired_app t h)
theorem paired_rep {α β : Type} {F : α → β → Prop} {a : α} {b : β} (h : F a b) : ∀ n, Paired F (List.replicate n a) (List.replicate n b)
  | 0 => .nil
  | n + 1 => .cons h (paired_rep h n)
theorem filter_snoc {l : List Int} {i : Nat} {x : Int} {F : Int → Bool} (h : l[i]? = some x) : (l.take (i + 1)).filter F = (l.take i).filter F ++ (if F x = true then [x] else []) := by
  rw [List.take_add_one, h, List.filter_append]
  cases hk : F x with
  | true => simp [hk]
  | false => simp [hk]
theorem paired_get {α β : Type} {F : α → β → Prop} : ∀ {l₁ : List α} {l₂ : List β} {i : Nat} {b : β}, Paired F l₁ l₂ → l₂[i]? = some b → ∃ a, l₁[i]? = some a ∧ F a b
  | _, _, _, _, .nil, e => by simp at e
  | _, _, 0, _, .cons h _, e => by
    simp at e
    subst e
    exact ⟨_, rfl, h⟩
  | _, _, i + 1, b, .cons _ t, e => by
    obtain ⟨a, h1, h2⟩ := paired_get (i := i) (b := b) t (by simpa using e)
    exact ⟨a, by simpa using h1, h2⟩
theorem paired_end {α β : Type} {F : α → β → Prop} {a : α} {b : β} (h : F a b) : ∀ {l₁ : List α} {l₂ : List β}, Paired F l₁ l₂ → Paired F (l₁ ++ [a]) (l₂ ++ [b])
  | _, _, .nil => .cons h .nil
  | _, _, .cons q t => .cons q (paired_end h t)
theorem take_snoc {α : Type} {l : List α} {i : Nat} {x : α} (h : l[i]? = some x) : l.take (i + 1) = l.take i ++ [x] := by
  rw [List.take_add_one, h]
  rfl
theorem small1k {n : Nat} (h : n ≤ 1001) : n < sizeLine := Nat.lt_of_le_of_lt h (by decide)
section
variable {P : Program} {w : World} {K : PySem.W.Frag} {mg : Str → Option Value} {base : Heap} {C : Addr}
/-- range(n) as a value -/
theorem cr_range1 {X : Cx} : CallR X (.type "range") (fun vs H Q => ∃ n, vs = [V.int n] ∧ ∀ p, H p = none → Q (.ref p) (upd H p (.rng 0 n))) := by
  intro pins s σ H vs us Q I r ⟨n, ev, q⟩
  subst ev
  cases r with
  | cons rn rr =>
    cases rr
    obtain ⟨t, rfl⟩ := rn
    refine call_range_1 ⟨.ref s.heap.objs.size, upd H s.heap.objs.size (.rng 0 n), I.laid (t' := s.toks + 1 + 1) (fun b o e => Heap.get?_push_of_some _ e) (Nat.le_refl _) ?_, rfl, q _ (I.hok.fresh (Nat.le_refl _))⟩
    exact ⟨s.toks, t, s.toks + 1, Heap.get?_push_size _ rfl⟩
/-! ### steps_of -/
structure ChM (K : PySem.W.Frag) (C fP fT : Addr) (fdP fdT : FuncData) : Prop where
  FP : Fun K "places" "Chain.places" (inClass cChain 1) fP fdP
  bP : Binds K fdP ["self"] []
  hP : Meth K C "places" fP
  FT : Fun K "told" "Chain.told" (inClass cChain 2) fT fdT
  bT : Binds K fdT ["self"] []
  hT : Meth K C "told" fT
  cl : Cls K C
  nM : NoAttr K C "_many"
  nV : NoAttr K C "_moves"
theorem ch_no {many : Int} {a : Addr} : (chF many a).lookup ("places" : Str) = none := chF_no _ _ (by decide +kernel) (by decide +kernel)
theorem ch_noT {many : Int} {a : Addr} : (chF many a).lookup ("told" : Str) = none := chF_no _ _ (by decide +kernel) (by decide +kernel)
theorem rg_ends (n : Nat) : rgV 0 (n : Int) = ((List.range n).map fun (i : Nat) => (i : Int)).map V.int := by
  unfold rgV
  rw [List.map_map]
  have e : ((n : Int) - 0).toNat = n := by omega
  rw [e]
  refine List.map_congr_left fun i _ => ?_
  show V.int (0 + (i : Int)) = V.int (i : Int)
  rw [Int.zero_add]
end
/-! ### data that are compared -/
def Sh (n : Nat) (d : PyData) : Prop := d.canLay0 = true ∧ d.depth ≤ n
theorem canAll : ∀ {ds : List PyData}, (∀ d ∈ ds, d.canLay0 = true) → PyData.canLayAll0 ds = true
  | [], _ => rfl
  | d :: ds, h => by
    show (d.canLay0 && PyData.canLayAll0 ds) = true
    rw [h d List.mem_cons_self, canAll fun z hz => h z (List.mem_cons_of_mem _ hz)]
    rfl
theorem depAll {n : Nat} : ∀ {ds : List PyData}, (∀ d ∈ ds, d.depth ≤ n) → PyData.depthAll ds ≤ n
  | [], _ => Nat.zero_le _
  | d :: ds, h => by
    show max d.depth (PyData.depthAll ds) ≤ n
    exact Nat.max_le.mpr ⟨h d List.mem_cons_self, depAll fun z hz => h z (List.mem_cons_of_mem _ hz)⟩
theorem Sh.int {n : Nat} (i : Int) : Sh n (.int i) := ⟨rfl, Nat.zero_le _⟩
theorem Sh.bool {n : Nat} (b : Bool) : Sh n (.bool b) := ⟨rfl, Nat.zero_le _⟩
theorem Sh.none {n : Nat} : Sh n .none := ⟨rfl, Nat.zero_le _⟩
theorem Sh.tuple {n : Nat} {ds : List PyData} (h : ∀ d ∈ ds, Sh n d) : Sh (n + 1) (.tuple ds) := ⟨canAll fun d hd => (h d hd).1, Nat.succ_le_succ (depAll fun d hd => (h d hd).2)⟩
theorem Sh.list {n : Nat} {ds : List PyData} (h : ∀ d ∈ ds, Sh n d) : Sh (n + 1) (.list ds) := ⟨canAll fun d hd => (h d hd).1, Nat.succ_le_succ (depAll fun d hd => (h d hd).2)⟩
theorem Sh.mono {n m : Nat} {d : PyData} (h : Sh n d) (le : n ≤ m) : Sh m d := ⟨h.1, Nat.le_trans h.2 le⟩
theorem Sh.shaped {n : Nat} {d : PyData} (h : Sh n d) (le : n ≤ 64) : SeqAt.shaped d = true := by
  unfold SeqAt.shaped
  rw [h.1, decide_eq_true (Nat.le_trans h.2 le)]
  rfl
theorem Sh.refl {n : Nat} {d : PyData} (h : Sh n d) : PyData.eqv d d = true := SeqAt.eqv_refl d h.1
theorem Sh.ints {n : Nat} (ns : List Int) : ∀ d ∈ ns.map PyData.int, Sh n d := fun d hd => by
  obtain ⟨i, _, rfl⟩ := List.mem_map.mp hd
  exact .int i
def mvD (m : Mv) : PyData := .tuple [.int m.1, .tuple (m.2.map PyData.int)]
theorem Sh.mv (m : Mv) : Sh 2 (mvD m) := Sh.tuple fun d hd => by
  rcases List.mem_cons.mp hd with rfl | hd
  · exact .int _
  rcases List.mem_cons.mp hd with rfl | hd
  · exact Sh.tuple (Sh.ints _)
  · cases hd
theorem Sh.mvs (ms : List Mv) : Sh 3 (.list (ms.map mvD)) := Sh.list fun d hd => by
  obtain ⟨m, _, rfl⟩ := List.mem_map.mp hd
  exact .mv m
theorem dp_ints (K : PySem.W.Frag) (H : Hp) : ∀ ns : List Int, DpAll K H (ns.map V.int) (ns.map PyData.int)
  | [] => .nil
  | n :: ns => .cons (.int n) (dp_ints K H ns)
theorem dp_lst {K : PySem.W.Frag} {H : Hp} {a : Addr} {ns : List Int} (h : H a = some (.lst (ns.map V.int))) : Dp K H (.ref a) (.list (ns.map PyData.int)) := .lst (SqL.of h) (dp_ints K H ns)
theorem dp_tup {K : PySem.W.Frag} {H : Hp} {a : Addr} {ns : List Int} (h : H a = some (.tup (ns.map V.int))) : Dp K H (.ref a) (.tuple (ns.map PyData.int)) := .tup (SqT.of h) (dp_ints K H ns)
theorem dp_mv {K : PySem.W.Frag} {H : Hp} {v : V} {m : Mv} (h : MoveAt H v m) : Dp K H v (mvD m) := by
  obtain ⟨a, q, rfl, ha, hq⟩ := h
  exact .tup (SqT.of ha) (.cons (.int _) (.cons (dp_tup hq) .nil))
theorem dp_mvAll {K : PySem.W.Frag} {H : Hp} : ∀ {ws : List V} {ms : List Mv}, MovesAt H ws ms → DpAll K H ws (ms.map mvD)
  | _, _, .nil => .nil
  | _, _, .cons h t => .cons (dp_mv h) (dp_mvAll t)
theorem dp_mvs {K : PySem.W.Frag} {H : Hp} {a : Addr} {ws : List V} {ms : List Mv} (h : H a = some (.lst ws)) (hM : MovesAt H ws ms) : Dp K H (.ref a) (.list (ms.map mvD)) := .lst (SqL.of h) (dp_mvAll hM)
theorem hu64 {A : Around} {k : Nat} (hr : Room k A) : A.units + 64 < cLine := by
  have := hr.un
  omega
/-- d != d is False, d == d is True -/
theorem ne_same {K : PySem.W.Frag} {x y : V} {d : PyData} {n : Nat} {H : Hp} {Q : VK} (hx : Dp K H x d) (hy : Dp K H y d) (h : Sh n d) (le : n ≤ 64) (q : Q (.bl false) H) : rNeD K x y H Q := by
  refine ⟨d, d, hx, hy, h.shaped le, h.shaped le, ?_⟩
  rw [h.refl]
  exact q
theorem eq_same {K : PySem.W.Frag} {x y : V} {d : PyData} {n : Nat} {H : Hp} {Q : VK} (hx : Dp K H x d) (hy : Dp K H y d) (h : Sh n d) (le : n ≤ 64) (q : Q (.bl true) H) : rEqD K x y H Q := by
  refine ⟨d, d, hx, hy, h.shaped le, h.shaped le, ?_⟩
  rw [h.refl]
  exact q
/-! ### sorted(set(a list of ints)): a rule of our own -/
section
variable {prog : Program} {w : World} {A : Around} {E : Value → Shared → Prop} {s : Shared}
/-- a set as it is when it has just been made -/
def bareSet (w : World) : Obj :=
  { cls := .type "set", dict := none, data := .set #[] 0 (.fresh 0 0 (!w.params.followText "set-order")) }
set_option maxHeartbeats 3200000 in
open PySem PyProof.Rows in
/-- the set at S takes what a list gives -/
theorem set_takes {l : Addr} {its : Array Value} {ns : List Int} {R : Result → Shared → Prop} (S : Addr) (hh : A.handled = none) (hS : s.heap.get? S = some (bareSet w)) (hl : s.heap.IsList l its) (neq : l ≠ S) (hi : IntsAre its.toList ns) (small : ns.length + 1 < scanBound)
    (hR : ∀ (g : Heap) (tk c : Nat), SetR w g S (fun j => decide (j ∈ ns)) c → c ≤ ns.length → (∀ b o, b ≠ S → s.heap.get? b = some o → g.get? b = some o) → R (.ok (.ret .none)) { s with heap := g, toks := tk }) :
    wpAny (model prog w) A.in1 (Builtin.«set.__init__» ⟨[.ref S, .ref l], []⟩)
      (fun fin s' => match fin with | .done f => R (.ok f) s' | .again c' => c'.quiet = true ∧ codeAny (model prog w) A c' R s') (fun e s' => R (.error e) s') s := by
  have sz : its.size = ns.length := by
    rw [← Array.length_toList]
    exact IntsAre.length hi
  have ltl : l < s.heap.objs.size := let ⟨_, g, _⟩ := hl; Heap.lt_size g
  have ltS : S < s.heap.objs.size := Heap.lt_size hS
  have hl' := hl
  obtain ⟨⟨k1, k2, k3, k4⟩, g, k5, k6, k7⟩ := hl'
  simp only at k5 k7
  subst k5
  subst k7
  have tS := F.sub_list_set
  have tF := F.sub_list_frozenset
  have tD : (Value.type "list" == Value.type "dict") = false := by decide
  have hi3 : A.in1.in1.handled = none := by
    simp [hh]
  unfold Builtin.«set.__init__» noKeywords
  unfold Builtin.Frozenset.updateFrom
  generalize hq : pyIter = q
  wp_walk
  subst hq
  refine wpAny_pyIter_list hl ?_
  refine wpAny_bind (wpAny_runValue ?_)
  generalize hI : s.heap.objs.size = I at *
  have offS : S ∉ [I, l] := by
    intro h
    rcases List.mem_cons.mp h with e | e
    · exact absurd e (Nat.ne_of_lt ltS)
    · exact neq (List.mem_singleton.mp e).symm
  have offL : l ≠ I := Nat.ne_of_lt ltl
  have vals : ∀ (i : Nat) (v : Value), its[i]? = some v → ∃ k t, ns[i]? = some k ∧ v = .int k t := by
    intro i v hv
    have lt : i < ns.length := by
      rw [← sz]
      exact (Array.getElem?_eq_some_iff.mp hv).1
    obtain ⟨t, e⟩ := IntsAre.int_at hi i v (by rw [Array.getElem?_toList]; exact hv)
    refine ⟨ns[i], t, List.getElem?_eq_getElem lt, ?_⟩
    rw [e, List.getD_eq_getElem?_getD, List.getElem?_eq_getElem lt]
    rfl
  have W := (Walks.list (prog := prog) (w := w) (A := A.in1.in1) hi3 I l offL its).toS
  have fresh1 : ∀ b o, s.heap.get? b = some o → (s.heap.push { cls := .type "list_iterator", data := .fields #[.ref l, .int 0 0] }).get? b = some o := fun b o e => Heap.get?_push_of_some _ e
  have new1 : (s.heap.push { cls := .type "list_iterator", data := .fields #[.ref l, .int 0 0] }).get? I = some { cls := .type "list_iterator", data := .fields #[.ref l, .int 0 0] } := by
    rw [← hI]
    exact Heap.get?_push_size _ rfl
  refine set_update_ints W S offS ns sz small vals its.size 0 _ (Nat.sub_zero _) (Nat.zero_le _) ⟨⟨_, new1, rfl, rfl⟩, ⟨_, fresh1 _ _ g, rfl, _, rfl⟩⟩ ⟨0, Nat.le_refl _, setR_new_at (fresh1 _ _ hS)⟩ fun s' c mv hc hs => ?_
  refine wpAny_pure (wpAny_pure ?_)
  rw [Moved.eq_with mv]
  refine hR s'.heap s'.toks c hs (by rw [← sz]; exact hc) fun b o nb e => mv.heap b o (fun z => ?_) (fresh1 b o e)
  rcases List.mem_cons.mp z with z | z
  · exact nb z
  · have : b < I := by
      rw [← hI]
      exact Heap.lt_size e
    exact absurd (List.mem_singleton.mp z) (Nat.ne_of_lt this)
/-- callType_codes, where the check of __init__'s arguments is proved by itself -/
theorem callType_checked {T nid iid : String} {Bi : Builtin} {args : List Value} {Q Q₁ : Value → Shared → Prop} (ft : TypeCalled T nid iid) (ct : checkTypeCall T ⟨args, []⟩ = pure ()) (en : PySem.entryFor PySem.table iid = some Bi)
    (mk : codeAny (model prog w) A.in1 (.call (.builtin nid) ⟨.type T :: args, []⟩) (wants Q₁ E) s)
    (nx : ∀ obj t, Q₁ obj t → t.TypeIs obj T ∧ (∀ (M : Model) (B : Around) (F : Value → Shared → Prop) (Z : Unit → Shared → Prop), Z () t → wpAny M B (checkBuiltinCall iid ⟨obj :: args, []⟩) Z F t) ∧
      wpAny (model prog w) A.in1.in1 (Bi ⟨obj :: args, []⟩)
        (fun fin u => match fin with | .done f => wants (fun r v => r = .none ∧ Q obj v) E (.ok f) u | .again c => c.quiet = true ∧ codeAny (model prog w) A.in1 c (wants (fun r v => r = .none ∧ Q obj v) E) u)
        (fun e u => wants (fun r v => r = .none ∧ Q obj v) E (.error e) u) t) :
    wpAny (model prog w) A (call (.type T) args) Q E s := by
  have ⟨c0, t0, mr⟩ := ft.mro
  have md := ft.made
  have sb := ft.sub
  refine wpAny_call (codeAny_of_tree ?_)
  show wpAny _ _ (callAny (.type T) _) _ _ _
  refine wpAny_pure ⟨PySem.Code.quiet_builtin _ (by decide +kernel), codeAny_builtin F.entry_type_call ?_⟩
  rw [Around.under_plain (weight_type_call_type T args []) rfl]
  have n1 := ft.notType
  have n2 := ft.canCreate
  repeat (any_goals (first | assumption | wp_step))
  refine codeAny_mono mk fun r t ht => ?_
  match r, ht with
  | .error e, ht => exact ht
  | .ok (.ret obj), ht =>
    obtain ⟨hT, ck, run⟩ := nx _ _ ht
    have li := ft.init.lookup
    have bi := ft.init.bind obj
    repeat (any_goals (first | assumption | wp_step))
    refine codeAny_mono (codeAny_call_builtin ft.init.plain en (ck _ _ _ _ run)) fun r2 t2 h2 => ?_
    match r2, h2 with
    | .error e, h2 => exact h2
    | .ok (.ret r), h2 =>
      obtain ⟨rfl, hq⟩ := h2
      repeat (any_goals (first | assumption | wp_step))
open PyProof.Rows in
theorem call_setL {l : Addr} {its : Array Value} (ns : List Int) {Q : Value → Shared → Prop} (hh : A.handled = none) (hl : s.heap.IsList l its) (hi : IntsAre its.toList ns) (small : ns.length + 1 < scanBound)
    (h : ∀ (g : Heap) (tk c : Nat), SetR w g s.heap.objs.size (fun j => decide (j ∈ ns)) c → c ≤ ns.length → (∀ b o, s.heap.get? b = some o → g.get? b = some o) → Q (.ref s.heap.objs.size) { s with heap := g, toks := tk }) :
    wpAny (model prog w) A (call (.type "set") [.ref l]) Q E s := by
  have ltl : l < s.heap.objs.size := let ⟨_, g, _⟩ := hl; Heap.lt_size g
  refine callType_checked (Q₁ := fun obj t => obj = .ref s.heap.objs.size ∧ t = { s with heap := s.heap.push (bareSet w) }) F.called_set (F.typeCall_set_1 _) F.entry_set_init (code_set_led1 _ ⟨rfl, rfl⟩) fun obj t ht => ?_
  obtain ⟨rfl, rfl⟩ := ht
  have hS : (s.heap.push (bareSet w)).get? s.heap.objs.size = some (bareSet w) := Heap.get?_push_size _ rfl
  refine ⟨⟨_, hS, rfl⟩, fun M B F Z hz => check_set_init_1 ⟨_, hS, rfl⟩ hz, ?_⟩
  refine set_takes (A := A.in1) (s := { s with heap := s.heap.push (bareSet w) }) s.heap.objs.size (by simp [hh]) hS (hl.push _) (Nat.ne_of_lt ltl) hi small fun g tk c hs hc kp => ⟨rfl, h g tk c hs hc fun b o e => kp b o (Nat.ne_of_lt (Heap.lt_size e)) (Heap.get?_push_of_some _ e)⟩
/-- sorted(set(e)), e a list of ints: a new list that rises -/
def tSSet (K : PySem.W.Frag) (ta : TE) : TE := fun σ H Q => ta σ H fun x H1 => ∃ (l : Addr) (ns : List Int), x = V.ref l ∧ SqL K H1 l (ns.map V.int) ∧ ns.length < 64 ∧
  ∀ (p : Addr) (xs : List Int) (c : Nat), xs.Pairwise (· < ·) → (∀ k : Int, k ∈ xs ↔ k ∈ ns) → xs.length = c → c ≤ ns.length → H1 p = none → Q (.ref p) (upd H1 p (.lst (xs.map V.int)))
open RZ in
theorem pe_sset {X : Cx} {a : Expr} {ta : TE} {p p2 q pos : Pos} (hg : Gl X "sorted") (hm : X.mg "sorted" = none) (hg2 : Gl X "set") (hm2 : X.mg "set" = none) (ha : PE X a ta) (hc : X.calm = true := by rfl)
    (na : starEach [a] X.env = (false, eval a X.env) :: starEach [] X.env := by rfl) (nb : starEach [.Call (.Name "set" p2) [a] [] q] X.env = (false, eval (.Call (.Name "set" p2) [a] [] q) X.env) :: starEach [] X.env := by rfl) :
    PE X (.Call (.Name "sorted" p) [.Call (.Name "set" p2) [a] [] q] [] pos) (tSSet X.K ta) := by
  refine ⟨fun pins s σ H Q I h => Call_ (ld_blt I hg hm PyProof.Rows.boot_sorted (PyProof.Rows.callWith_builtin1 (PyProof.Rows.args_cons (Call_ (ld_blt I hg2 hm2 PyProof.Rows.boot_set
    (PyProof.Rows.callWith_type1 (PyProof.Rows.args_cons (thn (ha.run pins s σ H _ I h) fun v s1 hq => PyProof.Rows.args_nil ?_) na) na rfl))) nb) nb rfl))⟩
  obtain ⟨x, H1, I1, r1, l, ns, ex, hq, hl, q1⟩ := hq
  subst ex
  have e0 : v = Value.ref l := r1
  subst e0
  obtain ⟨its, r, pl, hz⟩ := I1.list hq
  have hit : PyProof.Rows.IntsAre its.toArray.toList ns := by simpa using intsAre_vals r
  refine call_setL ns (I1.ok.hd hc) pl.isList hit (by unfold scanBound; omega) fun g tk c hs hcn kp => PyProof.Rows.args_nil ?_
  have I2 : Inv X pins σ H1 { s1 with heap := g, toks := tk } := I1.kept kp
  refine sorted_set hs (I2.ok.hd hc) (by omega) fun s2 p out c2 xs k gs os hp hg' hix hsx hm' hl' => ?_
  have hn : H1 p = none := I2.hok.fresh hp
  have len : (xs.map V.int).length ≤ sizeLine := by
    rw [List.length_map, hl']
    exact Nat.le_of_lt (small1k (by omega))
  have J : Inv X pins σ (upd H1 p (.lst (xs.map V.int))) { s1 with heap := s2.heap, gens := s2.gens, drawn := s2.drawn, toks := s2.toks } :=
    Inv.call (s := { s1 with heap := g, toks := tk }) I2 (ch := []) (Un.laid k hp hn) (I2.hok.laid k hp ⟨len, out.toList, c2, vals_of_ints hix, hg'⟩) (by rw [gs]; exact I2.bare) (fun _ z => nomatch z)
  have e : s2 = { s1 with heap := s2.heap, gens := s2.gens, drawn := s2.drawn, toks := s2.toks } := by
    have o2 : s2.os = s1.os := os
    rw [← o2]
  rw [e]
  exact ⟨.ref p, _, J, rfl, q1 p xs c hsx (fun z => (hm' z).trans (by simp)) hl' hcn hn⟩
end
/-! ### len(set(a list of ints)): a rule of our own, whatever stands twice in it -/
def dist (ns : List Int) : List Int := PyProof.Rows.firstMet (fun i => ns.getD i 0) ns.length
def one (ns : List Int) : Bool := decide (V.int (((dist ns).length : Nat) : Int) = V.int 1)
open RZ in
def tLenSetN (K : PySem.W.Frag) (ta : TE) : TE := fun σ H Q => ta σ H fun x H1 => ∃ (l : Addr) (ns : List Int), x = V.ref l ∧ SqL K H1 l (ns.map V.int) ∧ ns.length < 64 ∧ Q (.int (((dist ns).length : Nat) : Int)) H1
open RZ in
theorem pe_lenSetN {X : Cx} {a : Expr} {ta : TE} {p p2 q pos : Pos} (hg : Gl X "len") (hm : X.mg "len" = none) (hg2 : Gl X "set") (hm2 : X.mg "set" = none) (ha : PE X a ta) (hc : X.calm = true := by rfl)
    (na : starEach [a] X.env = (false, eval a X.env) :: starEach [] X.env := by rfl) : PE X (.Call (.Name "len" p) [.Call (.Name "set" p2) [a] [] q] [] pos) (tLenSetN X.K ta) := by
  refine ⟨fun pins s σ H Q I h => Call_ (ld_blt I hg hm PySem.boot_len (PyProof.Rows.callWith_builtin1 (PyProof.Rows.args_cons (Call_ (ld_blt I hg2 hm2 PyProof.Rows.boot_set
    (PyProof.Rows.callWith_type1 (PyProof.Rows.args_cons (thn (ha.run pins s σ H _ I h) fun v s1 hq => PyProof.Rows.args_nil ?_) na) na rfl))) rfl) rfl rfl))⟩
  obtain ⟨x, H1, I1, r1, l, ns, ex, hq, hl, q1⟩ := hq
  subst ex
  have e0 : v = Value.ref l := r1
  subst e0
  obtain ⟨its, r, pl, hz⟩ := I1.list hq
  have sz : its.toArray.size = ns.length := by
    have e := r.length
    rw [List.length_map] at e
    rw [List.size_toArray, e]
  refine call_set_list (I1.ok.hd hc) pl.isList (by simpa using intsAre_vals r) (by rw [sz]; unfold scanBound; omega) fun h' tk hS hk => PyProof.Rows.args_nil ?_
  rw [sz] at hS
  have hle := PyProof.Rows.firstMet_length_le (fun i => ns.getD i 0) ns.length
  obtain ⟨o, es, ep, t, ho, hex, hd, _, _, _, hf, hn⟩ := hS
  have J : Inv X pins σ H1 { s1 with heap := h', toks := tk } := I1.kept fun b o e => hk b o (Heap.lt_size e) e
  refine call_len_set ho hex hd hf (by rw [hn] <;> omega) ⟨.int (((dist ns).length : Nat) : Int), H1, J.tok _, ⟨_, by rw [hn]; rfl⟩, q1⟩
/-! ### list(reversed(a list)): a rule of our own -/
section
variable {prog : Program} {w : World} {A : Around} {E : Value → Shared → Prop} {s : Shared}
open RT in
/-- the list at S, just made, takes what the iterator gives -/
theorem fill_rev {R : Result → Shared → Prop} {S it l : Addr} {c₀ : Nat} {items : Array Value} (hh : A.handled = none) (hit : s.heap.IsRevIter it l ((items.size : Int) - 1)) (hl : s.heap.IsList l items) (hne : l ≠ it) (hSi : S ≠ it) (hSl : S ≠ l) (hn : items.size ≤ sizeLine)
    (hS : s.heap.get? S = some { cls := .type "list", data := .seq #[] c₀ })
    (hR : ∀ (h' : Heap) (tk : Nat) (acc : Array Value) (c' : Nat), (∀ b o, b ≠ it → b ≠ S → s.heap.get? b = some o → h'.get? b = some o) → h'.get? S = some { cls := .type "list", data := .seq acc c' } →
      ItemsOf (fun i v => items[items.size - 1 - i]? = some v) acc items.size → R (.ok (.ret .none)) { s with heap := h', toks := tk }) :
    wpAny (model prog w) A.in1 (Builtin.List.listExtendWith (.ref S) (.ref it) .none)
      (fun fin s' => match fin with | .done f => R (.ok f) s' | .again c' => c'.quiet = true ∧ codeAny (model prog w) A c' R s') (fun e s' => R (.error e) s') s := by
  have W := (Walks.listRev (prog := prog) (w := w) (A := A.in1) hh it l hne items).toS
  have off : S ∉ [it, l] := fun h => by
    rcases List.mem_cons.mp h with e | e
    · exact hSi e
    · exact hSl (by simpa using e)
  have ty : s.TypeIs (.ref it) "list_reverseiterator" := Heap.IsRevIter.typeIs hit
  have apart : Builtin.List.listSameRef (.ref S) (.ref it) = false := by simp [Builtin.List.listSameRef, hSi]
  have e0 : ((items.size : Nat) : Int) - 1 - ((0 : Nat) : Int) = (items.size : Int) - 1 := by omega
  unfold Builtin.List.listExtendWith
  refine wpAny_bind (wpAny_typeOf ty ?_)
  rw [if_neg (by rw [apart]; decide)]
  refine wpAny_bind (wpAny_pyIter_revIter hit (wpAny_bind (wpAny_holding ?_)))
  unfold Builtin.List.listLengthHint
  refine wpAny_bind (wpAny_specialOf ty nolen_lri ?_)
  show wpAny _ A.in1 (specialOf (Value.ref it) (Str.ofString "__length_hint__") >>= _) _ _ _
  refine wpAny_bind (wpAny_specialOf ty hint_lri ?_)
  generalize hq : ("list_reverseiterator.__length_hint__" : String) = q0
  wp_delta
  rw [show splitId q0 = some ("list_reverseiterator", "__length_hint__") from by subst hq; decide +kernel]
  subst hq
  refine wpAny_bind (wpAny_isInstance (b := true) ty (by rw [isSubtype_type]; kernel_rfl) (wpAny_pure ?_))
  rw [if_neg (by decide)]
  refine wpAny_pure ⟨plainId_quiet F.plain_extend_loop _, codeAny_extend_loopS W hn _ off _ items.size 0 _ _ _ rfl (Nat.zero_le _) ⟨Nat.zero_le _, by rw [e0]; exact hit, hl⟩ hS (ItemsOf.nil _) fun s' acc' c' hm hS' hacc => ?_⟩
  rw [Moved.eq_with hm]
  refine hR s'.heap s'.toks acc' c' (fun b o nb nS e => hm.heap b o (fun hmem => ?_) e) hS' hacc
  rcases List.mem_cons.mp hmem with z | z
  · exact nS z
  · exact nb (List.mem_singleton.mp z)
theorem call_listRev {it l : Addr} {items : Array Value} {Q : Value → Shared → Prop} (hh : A.handled = none) (hit : s.heap.IsRevIter it l ((items.size : Int) - 1)) (hl : s.heap.IsList l items) (hne : l ≠ it) (hn : items.size ≤ sizeLine)
    (hQ : ∀ (h' : Heap) (tk : Nat) (acc : Array Value) (c' : Nat), (∀ b o, b ≠ it → s.heap.get? b = some o → h'.get? b = some o) → h'.get? s.heap.objs.size = some { cls := .type "list", data := .seq acc c' } →
      ItemsOf (fun i v => items[items.size - 1 - i]? = some v) acc items.size → Q (.ref s.heap.objs.size) { s with heap := h', toks := tk }) : wpAny (model prog w) A (call (.type "list") [.ref it]) Q E s := by
  have lti : it < s.heap.objs.size := let ⟨_, g, _⟩ := hit; Heap.lt_size g
  have ltl : l < s.heap.objs.size := let ⟨_, g, _⟩ := hl; Heap.lt_size g
  have hit1 : (s.heap.push { cls := .type "list", data := .seq #[] }).IsRevIter it l ((items.size : Int) - 1) := hit.at fun o e => Heap.get?_push_of_some _ e
  have hl1 : (s.heap.push { cls := .type "list", data := .seq #[] }).IsList l items := hl.push _
  refine callType_codes (Q₁ := fun obj s₁ => obj = .ref s.heap.objs.size ∧ s₁ = { s with heap := s.heap.push { cls := .type "list", data := .seq #[] } }) F.called_list (F.typeCall_list_1 _) F.entry_list_init (code_list_new _ ⟨rfl, rfl⟩) fun obj s₁ h₁ => ?_
  obtain ⟨rfl, rfl⟩ := h₁
  have hS : (s.heap.push { cls := .type "list", data := .seq #[] }).get? s.heap.objs.size = some { cls := .type "list", data := .seq #[] } := Heap.get?_push_size _ rfl
  refine ⟨⟨_, hS, rfl⟩, F.args_list_init_2 _ _, ?_⟩
  show wpAny _ _ (do let old ← Builtin.List.listItems (.ref s.heap.objs.size); Builtin.List.listUpdate (.ref s.heap.objs.size) (fun _ => #[]); letGo old.toList.reverse; Builtin.List.listExtendWith (.ref s.heap.objs.size) (.ref it) .none) _ _ _
  refine wpAny_bind ?_
  unfold Builtin.List.listItems
  refine wpAny_bind (wpAny_seqItems hS rfl (wpAny_pure ?_))
  show wpAny _ _ (updateSeq s.heap.objs.size (fun _ => #[]) >>= fun _ => letGo (#[] : Array Value).toList.reverse >>= fun _ => Builtin.List.listExtendWith (.ref s.heap.objs.size) (.ref it) .none) _ _ _
  refine wpAny_bind (wpAny_updateSeq hS rfl (wpAny_bind (wpAny_letGo ?_)))
  have hS2 := Heap.get?_update_self (Obj.mapSeq (fun _ => (#[] : Array Value))) hS rfl
  have oth : ∀ b o, b ≠ s.heap.objs.size → (s.heap.push { cls := .type "list", data := .seq #[] }).get? b = some o → ((s.heap.push { cls := .type "list", data := .seq #[] }).update s.heap.objs.size (Obj.mapSeq (fun _ => (#[] : Array Value)))).get? b = some o :=
    fun b o hb e => (Heap.get?_update_other _ _ (Ne.symm hb)).trans e
  refine fill_rev hh (hit1.at fun o e => oth _ _ (Nat.ne_of_lt lti) e) ?_ hne (Nat.ne_of_gt lti) (Nat.ne_of_gt ltl) hn hS2 fun h' tk acc c' hk hS' hacc => ⟨rfl, hQ h' tk acc c' (fun b o nb e => hk b o nb (Nat.ne_of_lt (Heap.lt_size e)) (oth b o (Nat.ne_of_lt (Heap.lt_size e)) (Heap.get?_push_of_some _ e))) hS' hacc⟩
  obtain ⟨o, g, r⟩ := hl1
  exact ⟨o, oth _ _ (Nat.ne_of_lt ltl) g, r⟩
end
open RT in
/-- list(reversed(e)), e a list: a new list -/
def tLstRev (K : PySem.W.Frag) (te : TE) : TE := fun σ H Q => te σ H fun v H1 => ∃ (a : Addr) (xs : List V), v = .ref a ∧ SqL K H1 a xs ∧ ∀ q, H1 q = none → Q (.ref q) (upd H1 q (.lst xs.reverse))
open RT in
theorem pe_lstRev {X : Cx} {e : Expr} {te : TE} {p p2 pos pos2 : Pos} (hc : X.calm = true) (hg : Gl X "list") (hm : X.mg "list" = none) (hg2 : Gl X "reversed") (hm2 : X.mg "reversed" = none) (he : PE X e te)
    (hs : starEach [e] X.env = (false, eval e X.env) :: starEach [] X.env := by rfl) (hs2 : starEach [.Call (.Name "reversed" p2) [e] [] pos2] X.env = (false, eval (.Call (.Name "reversed" p2) [e] [] pos2) X.env) :: starEach [] X.env := by rfl) :
    PE X (.Call (.Name "list" p) [.Call (.Name "reversed" p2) [e] [] pos2] [] pos) (tLstRev X.K te) := by
  refine ⟨fun pins s σ H Q I h => Call_ (ld_blt I hg hm boot_list (PyProof.Rows.callWith_type1 (args_cons (Call_ (ld_blt I hg2 hm2 PyProof.Rows.boot_reversed (PyProof.Rows.callWith_type1 (args_cons (thn (he.run pins s σ H _ I h) fun u s1 hq => args_nil ?_) hs) hs rfl))) hs2) hs2 rfl))⟩
  obtain ⟨v, H1, I1, r1, a, xs, ev, hq, q⟩ := hq
  subst ev
  have e0 : u = Value.ref a := r1
  subst e0
  obtain ⟨its, rv, p', hz⟩ := I1.list hq
  have hl := p'.isList
  obtain ⟨ol, hol, _⟩ := id hl
  have hne : a ≠ s1.heap.objs.size := Nat.ne_of_lt (Heap.lt_size hol)
  have hn : its.toArray.size ≤ sizeLine := by rw [List.size_toArray, ← rv.length]; exact hz
  have kp : ∀ b o, s1.heap.get? b = some o → (s1.heap.push (revObj a ((its.toArray.size : Int) - 1))).get? b = some o := fun b o e => Heap.get?_push_of_some _ e
  refine call_reversed_list hl (args_nil ?_)
  obtain ⟨f0, f1, f2, f3, f4, f5⟩ := I1.fpOk (H' := H1) (b := s1.heap.objs.size) (Nat.le_refl _) (I1.hok.fresh (Nat.le_refl _))
  have I2 : Inv X pins σ H1 { s1 with heap := s1.heap.push (revObj a ((its.toArray.size : Int) - 1)) } := I1.kept (t' := s1.toks) kp
  have sz : (s1.heap.push (revObj a ((its.toArray.size : Int) - 1))).objs.size = s1.heap.objs.size + 1 := Heap.size_push ..
  refine call_listRev (s := { s1 with heap := s1.heap.push (revObj a ((its.toArray.size : Int) - 1)) }) (I1.ok.hd hc) ⟨_, Heap.get?_push_size _ rfl, rfl, rfl⟩ (hl.push _) hne hn fun h' tk acc c' hk hS hi => ?_
  have nw : H1 (s1.heap.push (revObj a ((its.toArray.size : Int) - 1))).objs.size = none := I2.hok.fresh (Nat.le_refl _)
  have hS' : h'.get? (s1.heap.push (revObj a ((its.toArray.size : Int) - 1))).objs.size = some { cls := .type "list", data := .seq acc c' } := hS
  have le : s1.heap.objs.size ≤ (s1.heap.push (revObj a ((its.toArray.size : Int) - 1))).objs.size := by
    rw [sz]
    exact Nat.le_succ _
  have new : ObjOk X.prog X.w (upd H1 (s1.heap.push (revObj a ((its.toArray.size : Int) - 1))).objs.size (.lst xs.reverse)) h' (s1.heap.push (revObj a ((its.toArray.size : Int) - 1))).objs.size (.lst xs.reverse) :=
    ⟨by rw [List.length_reverse]; exact hz, acc.toList, c', vals_rev rv hi, by rw [Array.toArray_toList]; exact hS'⟩
  have J := I1.turnedNew (t' := tk) (ch := [s1.heap.objs.size]) (fun b o hb e => hk b o (fun z => hb (by simp [z])) (kp b o e)) (fun b hb => by
    have z : b = s1.heap.objs.size := by simpa using hb
    rw [z]
    exact ⟨f0, f1, f2, f3, f4, f5⟩) le new
  exact ⟨.ref _, _, J, rfl, q _ nw⟩
theorem Same.seqt {K : PySem.W.Frag} {H H' : Hp} {a : Addr} {xs : List V} (s : Same H H') (h : SqT K H a xs) : SqT K H' a xs := by
  rcases h with (h | ⟨o, h⟩) | h
  · exact .inl (.inl (s _ _ h))
  · exact .inl (.inr ⟨o, s _ _ h⟩)
  · exact .inr h
/-! ### t + u, t[i:j] of tracked tuples, whatever they are -/
theorem catA_of {K : PySem.W.Frag} {H : Hp} {a b : Addr} {xs ys : List V} {Q : VK} (ha : H a = some (.tup xs)) (hb : H b = some (.tup ys)) (hz : xs.length + ys.length ≤ sizeLine) (h : ∀ p H', Same H H' → H' p = some (.tup (xs ++ ys)) → Q (.ref p) H') : rCatA K (.ref a) (.ref b) H Q := by
  refine ⟨a, b, xs, ys, rfl, rfl, SqT.of ha, SqT.of hb, hz, fun e => ?_, fun _ e => ?_, fun _ _ p np => h p _ (same_new np) upd_same⟩
  · subst e
    exact h b H (Same.refl _) hb
  · subst e
    exact h a H (Same.refl _) (by rw [List.append_nil]; exact ha)
theorem slA_of {K : PySem.W.Frag} {H : Hp} {a : Addr} {xs : List V} {lo hi : Option Int} {Q : VK} (ha : H a = some (.tup xs)) (h : ∀ p H', Same H H' → H' p = some (.tup (cutV xs lo hi)) → Q (.ref p) H') : rSlA K (.ref a) lo hi H Q := by
  refine ⟨a, xs, rfl, SqT.of ha, fun e => ?_, fun _ p np => h p _ (same_new np) upd_same⟩
  refine h a H (Same.refl _) ?_
  unfold cutV
  rw [e.1, e.2, List.drop_zero, Nat.sub_zero, List.take_length]
  exact ha
theorem slA_no {K : PySem.W.Frag} {σ : L2.St} {H : Hp} {a : Addr} {xs : List V} {lo : Option Int} {Q : VK} (ha : H a = some (.tup xs)) (h : ∀ p H', Same H H' → H' p = some (.tup (cutV xs lo none)) → Q (.ref p) H') : tNoPart σ H fun u H3 => rSlA K (.ref a) lo u H3 Q := slA_of ha h
theorem cut_from (xs : List V) (k : Nat) (hk : k ≤ xs.length) : cutV xs (some (k : Int)) none = xs.drop k := by
  unfold cutV
  rw [HT.sIx_nat, HT.sIx_none, Nat.min_eq_left hk]
  exact List.take_of_length_le (by rw [List.length_drop]; exact Nat.le_refl _)
theorem cut_to (xs : List V) (k : Nat) (hk : k ≤ xs.length) : cutV xs none (some (k : Int)) = xs.take k := by
  unfold cutV
  rw [HT.sIx_nat, HT.sIx_none, Nat.min_eq_left hk, Nat.sub_zero, List.drop_zero]
theorem le1k {n : Nat} (h : n ≤ 1000) : n ≤ sizeLine := Nat.le_trans h (by decide)
theorem lt1k {n : Nat} (h : n ≤ 1000) : n < sizeLine := Nat.lt_of_le_of_lt h (by decide)
/-! ### a set comprehension of ints: a rule of our own -/
/-- what one turn with item v asks: the target, the tests, the element, and then the set D with it -/
def oneTurn (w : World) (D : Addr) (gt : TG) (tst : TT) (elm : TE) (gone : List Nat) (σ : L2.St) (v : V) (Ha : Hp) (nxt : Hp → Prop) : Prop :=
  gt v (wipe σ gone) Ha fun σb Hb => wipe σb gone = wipe σ gone ∧ tst σb Hb fun yes Hc =>
    if yes = true then elm σb Hc fun z Hd => ∃ (k : Int) (M : Int → Bool) (c : Nat), z = .int k ∧ Hd D = some (SetO w D M c) ∧ c + 1 < scanBound ∧
      nxt (upd Hd D (SetO w D (fun j => M j || decide (j = k)) (if M k = true then c else c + 1)))
    else nxt Hc
def tScI (w : World) (src : TI) (gt : TG) (tst : TT) (elm : TE) (gone : List Nat) : TE := fun σ H Q =>
  src σ H fun J Ha => ∀ D, Ha D = none → ∃ Z : Nat → Nat → Hp → Prop, (∃ m, Z 0 m (upd Ha D (SetO w D (fun _ => false) 0))) ∧
    ∀ i m Hb, Z i m Hb → (J.stop i Hb ∧ Q (.ref D) Hb) ∨
      (J.go i Hb ∧ ∃ nxt : Hp → Prop, (∀ Hc, nxt Hc → ∃ m', m' < m ∧ Z (i + 1) m' Hc) ∧ ∀ v Hc, J.yld i Hb v Hc → oneTurn w D gt tst elm gone σ v Hc nxt)
section
variable {X : Cx}
theorem pe_scI {elt tg iter : Expr} {ifs : List Expr} {scope : Scope} {own : List (PySem.Str × Nat)} {pos : Pos} {src : TI} {gt : TG} {tst : TT} {elm : TE}
    (calm : X.calm = true) (nd : X.N.Nodup) (hsrc : PI X tg iter src) (blk : BlkOk X.N X.env.scope scope own)
    (hgt : ∀ (s0 : Shared) (H0 : Hp) (B : Addr) (cls : List (PySem.Str × Addr)) (held : List Addr), PG (X.blk s0 H0 scope (compEnvC scope cls B X.env) held) tg gt)
    (htst : ∀ (s0 : Shared) (H0 : Hp) (B : Addr) (cls : List (PySem.Str × Addr)) (held : List Addr), PTs (X.blk s0 H0 scope (compEnvC scope cls B X.env) held) ifs tst)
    (helm : ∀ (s0 : Shared) (H0 : Hp) (B : Addr) (cls : List (PySem.Str × Addr)) (held : List Addr), PE (X.blk s0 H0 scope (compEnvC scope cls B X.env) held) elt elm)
    (fold : ∀ z, foldedSetIterable iter X.env z = pure z := by intro _; rfl) :
    PE X (.SetComp elt [⟨tg, iter, ifs, 0⟩] scope pos) (tScI X.w src gt tst elm (own.map (·.2))) := by
  constructor
  intro pins s σ H Q Iv want
  rw [PpSet.eval_SetComp]
  have caps : ∀ y ∈ scope.names, y.2 = .free → ∃ c, X.env.cells.lookup y.1 = some c := by
    intro y my fy
    cases blk.free y my fy with
    | inl k => exact Iv.ok.has _ (.inl k)
    | inr k => exact Iv.ok.has _ (.inr k)
  refine wpAny_comprehension_free (use := none) rfl fold (closure_ok caps) blk.kind (fun y my ey => by rw [blk.uniq y my, ey]) ?_
  refine thn (hsrc.run pins s σ H _ Iv want) fun u0 sA gotIt => thn gotIt fun u1 sB two => ?_
  obtain ⟨itr, held, turns, J, HB, eu, IB, TW, atZero, clear, rest⟩ := two
  subst eu
  refine PpSet.newSet_ok (newEnv_comp ?_)
  -- D is where the set will stand
  obtain ⟨D, eD⟩ : ∃ D, D = sB.heap.objs.size := ⟨_, rfl⟩
  rw [← eD]
  have freeD : HB D = none := IB.hok.fresh (by rw [eD]; exact Nat.le_refl _)
  obtain ⟨Z, ⟨mz, z0⟩, go1⟩ := rest D freeD
  obtain ⟨bare, ebare⟩ : ∃ bare : Obj, bare = { cls := .type "set", dict := none, data := .set #[] 0 (.fresh 0 0 (!X.w.params.followText "set-order")) } := ⟨_, rfl⟩
  rw [← ebare]
  obtain ⟨sC, eC⟩ : ∃ sC : Shared, sC = { sB with heap := sB.heap.push bare } := ⟨_, rfl⟩
  have hC : sC.heap = sB.heap.push bare := by rw [eC]
  have setNew : SetR X.w sC.heap D (fun _ => false) 0 := by
    rw [hC, eD]
    refine SetR.congr (setR_new_at (ns := []) ?_) (fun _ => rfl)
    rw [ebare]
    exact Heap.get?_push_size _ rfl
  have IC : Inv X pins σ (upd HB D (SetO X.w D (fun _ => false) 0)) sC := by
    rw [eC]
    refine IB.laid (t' := sB.toks) (fun b o e => Heap.get?_push_of_some _ e) (by rw [eD]; exact Nat.le_refl _) ?_
    have e1 : ({ sB with heap := sB.heap.push bare } : Shared).heap = sC.heap := by rw [eC]
    show ObjOk _ _ _ (sB.heap.push bare) D _
    rw [← hC]
    exact setO_new setNew
  have below : ∀ b ∈ held, b < sB.heap.objs.size := by
    intro b hb
    obtain ⟨o, e, _⟩ := TW.obj _ _ atZero b hb
    exact Heap.lt_size e
  have clearC : ∀ b ∈ held, FpOk X pins (upd HB D (SetO X.w D (fun _ => false) 0)) b ∧ b < sC.heap.objs.size := by
    intro b hb
    have lt := below b hb
    refine ⟨⟨?_, (clear b hb).2⟩, ?_⟩
    · rw [upd_ne (by rw [eD]; exact Nat.ne_of_lt lt)]
      exact (clear b hb).1
    · rw [hC, Heap.size_push]
      exact Nat.lt_succ_of_lt lt
  have atC : turns 0 sC.heap := TW.keep _ _ _ atZero fun b _ o e => by
    rw [hC]
    exact Heap.get?_push_of_some _ e
  have IE := block_start IC blk nd clearC
  obtain ⟨HC, eHC⟩ : ∃ HC, HC = upd HB D (SetO X.w D (fun _ => false) 0) := ⟨_, rfl⟩
  rw [← eHC] at IC IE clearC z0
  obtain ⟨cells, ecells⟩ : ∃ cells, cells = cellsFrom (sC.heap.objs.size + 1) scope.names (cloFrom X.env.cells scope.names []) := ⟨_, rfl⟩
  obtain ⟨ce, ece⟩ : ∃ ce, ce = compEnvC scope cells sC.heap.objs.size X.env := ⟨_, rfl⟩
  have jg := hgt sC HC sC.heap.objs.size cells held
  have jt := htst sC HC sC.heap.objs.size cells held
  have je := helm sC HC sC.heap.objs.size cells held
  rw [← ece] at jg jt je
  obtain ⟨sE, eE⟩ : ∃ sE : Shared, sE = { sC with heap := pushCells (sC.heap.push { cls := .type "dict", data := .dict #[] }) scope.names } := ⟨_, rfl⟩
  rw [← ecells, ← ece, ← eE] at IE
  have lce : ce.locals = sC.heap.objs.size := by rw [ece]; rfl
  have none0 : ∀ b ∈ held, HC b = none := fun b hb => (clearC b hb).1.1
  have atE : turns 0 sE.heap := TW.keep _ _ _ atC fun b _ o e => by
    rw [eE]
    exact pushCells_keeps _ _ _ _ (Heap.get?_push_of_some _ e)
  rw [← eC, ← ecells]
  show codeAny _ _ (.compStart (.SetComp elt [⟨tg, iter, ifs, 0⟩] scope pos) 0 (.ref itr) (.ref D) (compEnvC scope cells sC.heap.objs.size X.env)) _ _
  rw [← ece]
  have still : ∀ {σ' : L2.St} {H' : Hp} {s' : Shared}, Inv (X.blk sC HC scope ce held) [] σ' H' s' → (∀ b ∈ held, H' b = none) → ∀ b ∈ held, FpOk (X.blk sC HC scope ce held) [] H' b := by
    intro σ' H' s' I' n0 b hb
    exact ⟨n0 b hb, (I'.ok.exf b hb).1, I'.ok.exfs b hb, .inl hb, fun x c e => (I'.ok.exf b hb).2 x c e, fun p hp => absurd (show p ∈ ([] : List (Addr × Obj)) ++ [] from hp) (by simp)⟩
  let Here : Nat → Shared → Prop := fun n s' => ∃ i H', Inv (X.blk sC HC scope ce held) [] (wipe σ (own.map (·.2))) H' s' ∧ turns i s'.heap ∧ (∀ b ∈ held, H' b = none) ∧ Z i n H'
  have loop : codeAny (model X.prog X.w) X.A (.compLoop (.SetComp elt [⟨tg, iter, ifs, 0⟩] scope pos) 0 (.ref itr) (.ref D) ce) (compPost (model X.prog X.w) X.A X.xe none (EP X pins σ Q) (.ref D) sC.heap.objs.size) sE := by
    refine PpSet.compLoopS_any Here ?_ mz ⟨0, HC, IE, atE, none0, z0⟩
    rintro n s5 ⟨i, H5, I5, at5, n5, z5⟩
    cases go1 i n H5 z5 with
    | inl stops =>
      obtain ⟨stop, fin⟩ := stops
      refine thnF (TW.done (X.blk sC HC scope ce held) rfl rfl rfl calm i [] s5 _ H5 (fun _ _ => False) I5 (still I5 n5) at5 stop) fun r s6 both => ?_
      obtain ⟨er, I6⟩ := both
      subst er
      have I7 : Inv X pins σ H5 s6 := IC.call' (ch := held) I6.os I6.base I6.hok I6.bare fun b hb => ⟨(clearC b hb).1.2.2.2.1, (clearC b hb).1.2.1, (clearC b hb).1.2.2.2.2.1, (clearC b hb).1.2.2.2.2.2⟩
      have frC : H5 sC.heap.objs.size = none := by
        have q : H5 ce.locals = none := I6.free
        rw [lce] at q
        exact q
      obtain ⟨m, mns, _⟩ := I6.loc
      have mns' : s6.heap.Ns ce.locals m := mns
      rw [lce] at mns'
      refine ⟨m, mns', fun h2 same => ?_⟩
      obtain ⟨k0, k1, k2, k3, k4, k5⟩ := IC.fpOk (Nat.le_refl _) frC
      exact ⟨.ref D, H5, I7.turned (t' := s6.toks) (fun b o hb e => (same.2 b hb).trans e) k0 k1 k3 k4 k5, rfl, fin⟩
    | inr goes =>
      obtain ⟨go, nxt, down, step⟩ := goes
      refine thnF (TW.item (X.blk sC HC scope ce held) rfl rfl rfl calm i [] s5 _ H5 (fun _ _ => False) I5 (still I5 n5) at5 go) fun r s6 both => ?_
      obtain ⟨u, er, more⟩ := both
      subst er
      refine thnF more fun _ s7 drawn => ?_
      obtain ⟨x, H7, I7, r7, y7, at7, n7⟩ := drawn
      have I7p := I7.pinned (still I7 n7) (TW.obj _ _ at7)
      refine thnF (jg.run _ s7 _ H7 x u _ I7p r7 (step x H7 y7)) fun _ s8 g8 => ?_
      obtain ⟨σ8, H8, I8, w8, q8⟩ := g8
      refine thnF (jt.run _ s8 σ8 H8 _ I8 q8) fun yes s9 g9 => ?_
      obtain ⟨H9, I9, q9⟩ := g9
      have next : ∀ {s' : Shared} {H' : Hp}, Inv (X.blk sC HC scope ce held) ([] ++ pinsAt held s7.heap) σ8 H' s' → nxt H' → ∃ m, m < n ∧ Here m s' := by
        intro s' H' I' nx
        obtain ⟨m', lt, z'⟩ := down H' nx
        have pinned : ∀ b ∈ held, ∀ o, s7.heap.get? b = some o → s'.heap.get? b = some o ∧ H' b = none := by
          intro b hb o e
          have q := I'.pin (b, o) (List.mem_append_right _ (List.mem_append_right _ (mem_pinsAt hb e)))
          exact ⟨q.1, q.2.1⟩
        have lens : (wipe σ (own.map (·.2))).length = σ8.length := by rw [← w8, wipe_length]
        refine ⟨m', lt, i + 1, H', (I'.unpinned (pins := [])).weak lens (fun j v e => ?_), TW.keep _ _ _ at7 (fun b hb o e => (pinned b hb o e).1), fun b hb => ?_, z'⟩
        · rw [← w8] at e
          exact (wipe_some e).1
        · obtain ⟨o, e, _⟩ := TW.obj _ _ at7 b hb
          exact (pinned b hb o e).2
      cases yes with
      | false =>
        simp only [Bool.false_eq_true, if_false] at q9 ⊢
        exact next I9 q9
      | true =>
        simp only [if_true] at q9 ⊢
        refine thnF (je.run _ s9 σ8 H9 _ I9 q9) fun z s10 g10 => ?_
        obtain ⟨yv, H10, I10, r10, k, M, c, ey, hD10, room, nx⟩ := g10
        subst ey
        refine thnF (mt_sadd (X := X.blk sC HC scope ce held) _ s10 σ8 H10 (.ref D) [.int k] (.ref D) [z] (fun v H' => v = .non ∧ nxt H') I10 rfl (.cons r10 .nil) ⟨D, k, M, c, rfl, rfl, hD10, room, rfl, nx⟩) fun v s11 g11 => ?_
        obtain ⟨v', H11, I11, _, _, nx'⟩ := g11
        exact next I11 nx'
  have start := PpSet.codeAny_compStart_set loop (TW.self X.A 0 _ _ _ atE loop)
  rw [eE] at start
  exact start
end
/-! ### {t: v}: a dict of one pair, its key a tuple of ints and texts: a rule of our own -/
def tDisp1T (trs : List (TE × TE)) : TE := fun σ H Q => ∀ p, H p = none → tPairs trs σ (upd H p (.dT [])) fun ps H2 =>
  H2 p = some (.dT []) ∧ ∃ (b : Addr) (k : List Key) (v : V), ps = [(.ref b, v)] ∧ H2 b = some (.tup (k.map kV)) ∧ Q (.ref p) (upd H2 p (.dT [(k, v)]))
theorem pe_disp1T {X : Cx} {pos : Pos} {ke ve : Expr} {trs : List (TE × TE)} (hu : X.A.units + 1 < cLine) (h : PPs X pos [some ke] [ve] trs) : PE X (.Dict [some ke] [ve] pos) (tDisp1T trs) := by
  constructor
  intro pins s σ H Q I q
  have fresh := I.hok.fresh (Nat.le_refl s.heap.objs.size)
  have I1 := I.laid (a := s.heap.objs.size) (o := .dT []) (h' := s.heap.push { cls := .type "dict", data := .dict #[] }) (t' := s.toks) (fun _ _ e => Heap.get?_push_of_some _ e) (Nat.le_refl _) (dt_empty s.heap I.big)
  have run := h.run pins _ σ _ _ I1 (q _ fresh)
  rw [arm_eval_Dict, zip_pairTrees [some ke] [ve] X.env pos rfl rfl, dictDisplay_pairs _ (by simp [pairTrees]) (by simp [pairTrees])]
  refine wpAny_bind (wpAny_standAt (wpAny_bind (wpAny_subDictH (knd := tupleKind (mixKind X.prog X.w)) (Q := fun d s' => wpAny (model X.prog X.w) X.A (pure (Value.ref d)) (EP X pins σ Q) X.xe s') (by show X.A.units < cLine; omega) (by simp [pairTrees]) ?_)))
  refine thn run fun ws s2 res => ?_
  obtain ⟨ps, H2, I2, rel, e, b, k, v, eps, hb, q2⟩ := res
  subst eps
  cases rel with
  | cons r1 r2 =>
    cases r2
    rename_i kw
    obtain ⟨ku, vu⟩ := kw
    obtain ⟨rk, rv⟩ := r1
    have ek : ku = Value.ref b := rk
    subst ek
    obtain ⟨z, hd, xs, rel0, dd⟩ := dt_of I2.hok e
    cases rel0
    refine ⟨[(k, b, vu)], ⟨rfl, rfl, key_of I2.hok hb, trivial⟩, dd, fun h' tk dd' hs => wpAny_pure ?_⟩
    obtain ⟨o, es, ep, ho, h2, h3, h4, _, h5⟩ := dd'
    refine ⟨.ref s.heap.objs.size, _, d_write (ob := .dT [(k, v)]) I2 (by rw [e]; exact True.intro) hs ⟨o, ho⟩ ⟨Nat.le_of_lt (by decide : (1 : Nat) < sizeLine), hd, [(k, b, vu)], .cons ⟨rfl, ?_, rv⟩ .nil, o, es, ep, ho, h2, h3, h4, h5⟩, rfl, q2⟩
    rw [upd_ne (ne_of hb e (fun z => nomatch z))]
    exact hb
/-! ### groups of places: the mathematics -/
def goodG (many : Nat) (g : List Int) : Prop := g.Pairwise (· < ·) ∧ ∀ x ∈ g, 0 ≤ x ∧ x < (many : Int)
theorem rise_lenG : ∀ {g : List Int} {lo hi : Int}, g.Pairwise (· < ·) → (∀ x ∈ g, lo ≤ x ∧ x < hi) → (g.length : Int) ≤ max 0 (hi - lo)
  | [], lo, hi, _, _ => by
    show ((0 : Nat) : Int) ≤ max 0 (hi - lo)
    omega
  | x :: g, lo, hi, hp, hb => by
    obtain ⟨h1, h2⟩ := List.pairwise_cons.mp hp
    obtain ⟨b1, b2⟩ := hb x List.mem_cons_self
    have ih := rise_lenG (lo := x + 1) (hi := hi) h2 fun y hy => ⟨by have := h1 y hy; omega, (hb y (List.mem_cons_of_mem _ hy)).2⟩
    rw [List.length_cons]
    omega
theorem goodG.len {many : Nat} {g : List Int} (h : goodG many g) : g.length ≤ many := by
  have := rise_lenG h.1 h.2
  omega
def ids (many : Nat) : List Int := (List.range many).map fun (i : Nat) => (i : Int)
theorem ids_pair (many : Nat) : (ids many).Pairwise (· < ·) := by
  unfold ids
  rw [List.pairwise_map]
  refine List.Pairwise.imp ?_ List.pairwise_lt_range
  intro a b h
  omega
theorem mem_ids {many : Nat} {k : Int} : k ∈ ids many ↔ 0 ≤ k ∧ k < (many : Int) := by
  unfold ids
  rw [List.mem_map]
  constructor
  · rintro ⟨i, hi, rfl⟩
    have := List.mem_range.mp hi
    omega
  · rintro ⟨h0, h1⟩
    exact ⟨k.toNat, List.mem_range.mpr (by omega), by omega⟩
theorem ids_good (many : Nat) : goodG many (ids many) := ⟨ids_pair many, fun _ h => mem_ids.mp h⟩
def ledG (many : Nat) (row g : List Int) : List Int := (ids many).filter fun k => decide (k ∈ g.map (goK row))
theorem ledG_good (many : Nat) (row g : List Int) : goodG many (ledG many row g) := by
  refine ⟨List.Pairwise.filter _ (ids_pair many), fun x hx => ?_⟩
  exact mem_ids.mp (List.mem_filter.mp hx).1
theorem goK_in' {many : Nat} {f : List Int} {p : Int} (h : GoodRow many f) (h0 : 0 ≤ p) (h1 : p < (many : Int)) : 0 ≤ goK f p ∧ goK f p < (many : Int) := by
  have hl : p.toNat < f.length := by rw [h.1]; omega
  unfold goK
  rw [List.getD_eq_getElem?_getD, List.getElem?_eq_getElem hl]
  exact h.2 _ (List.getElem_mem hl)
theorem mem_ledG {many : Nat} {row g : List Int} {k : Int} (hr : GoodRow many row) (hg : ∀ x ∈ g, 0 ≤ x ∧ x < (many : Int)) : k ∈ ledG many row g ↔ ∃ x ∈ g, goK row x = k := by
  unfold ledG
  rw [List.mem_filter, mem_ids]
  constructor
  · rintro ⟨_, h⟩
    exact List.mem_map.mp (of_decide_eq_true h)
  · rintro ⟨x, hx, rfl⟩
    exact ⟨goK_in' hr (hg x hx).1 (hg x hx).2, decide_eq_true (List.mem_map.mpr ⟨x, hx, rfl⟩)⟩
theorem at_goK {row : List Int} {p : Int} (h0 : 0 ≤ p) (h : p.toNat < row.length) : (row.map V.int)[p.toNat]? = some (.int (goK row p)) := by
  rw [List.getElem?_map, List.getElem?_eq_getElem h]
  unfold goK
  rw [List.getD_eq_getElem?_getD, List.getElem?_eq_getElem h]
  rfl
/-! ### walks back: the mathematics -/
def rowsOf (ms : List Mv) (ns : List Int) : List (List Int) := ns.map fun n => (ms.getD n.toNat (0, [])).2
def endsK (many : Nat) (rows : List (List Int)) : Nat → List Int
  | 0 => (List.range many).map fun (i : Nat) => (i : Int)
  | k + 1 => (rows.getD k []).map (goK (endsK many rows k))
theorem endsK_good {many : Nat} {rows : List (List Int)} (h : ∀ r ∈ rows, GoodRow many r) : ∀ k, k ≤ rows.length → GoodRow many (endsK many rows k)
  | 0, _ => by
    refine ⟨by unfold endsK; rw [List.length_map, List.length_range], fun x hx => ?_⟩
    unfold endsK at hx
    obtain ⟨i, hi, rfl⟩ := List.mem_map.mp hx
    have := List.mem_range.mp hi
    omega
  | k + 1, hk => by
    have ih := endsK_good h k (by omega)
    have g : rows.getD k [] = rows[k] := by rw [List.getD_eq_getElem?_getD, List.getElem?_eq_getElem (by omega)]; rfl
    obtain ⟨h1, h2⟩ := h rows[k] (List.getElem_mem (by omega))
    unfold endsK
    rw [g]
    refine ⟨by rw [List.length_map, h1], fun x hx => ?_⟩
    obtain ⟨p, hp, rfl⟩ := List.mem_map.mp hx
    obtain ⟨a, b⟩ := h2 p hp
    have hl : p.toNat < (endsK many rows k).length := by rw [ih.1]; omega
    unfold goK
    rw [List.getD_eq_getElem?_getD, List.getElem?_eq_getElem hl]
    exact ih.2 _ (List.getElem_mem hl)
/-- the first count of steps by which all are one -/
def FirstOne (many : Nat) (rows : List (List Int)) (k : Nat) : Prop := k ≤ rows.length ∧ one (endsK many rows k) = true ∧ ∀ j, j < k → one (endsK many rows j) = false
def NoOne (many : Nat) (rows : List (List Int)) : Prop := ∀ j, j ≤ rows.length → one (endsK many rows j) = false
def DrawnAt (H : Hp) (v : V) (many : Nat) (rows : List (List Int)) : Prop :=
  (∃ (k : Nat) (t : Addr), FirstOne many rows k ∧ v = .ref t ∧ H t = some (.tup [.int (goK (endsK many rows k) 0), .int (k : Int)])) ∨ (NoOne many rows ∧ v = .non)
def NumsOk (ms : List Mv) (ns : List Int) : Prop := ns.length ≤ 1000 ∧ ∀ n ∈ ns, 0 ≤ n ∧ n < (ms.length : Int)
theorem rowsOf_good {many : Nat} {ms : List Mv} {ns : List Int} (G : Good many ms) (h : NumsOk ms ns) : ∀ r ∈ rowsOf ms ns, GoodRow many r := by
  intro r hr
  obtain ⟨n, hn, rfl⟩ := List.mem_map.mp hr
  obtain ⟨a, b⟩ := h.2 n hn
  have hl : n.toNat < ms.length := by omega
  rw [List.getD_eq_getElem?_getD, List.getElem?_eq_getElem hl]
  exact (G.mv _ (List.getElem_mem hl)).2.2
/-- rows that stand as tuples -/
def StepsAt (H : Hp) (S : Addr) (rows : List (List Int)) : Prop := ∃ qs : List Addr, H S = some (.lst (qs.map V.ref)) ∧ Paired (fun q row => H q = some (.tup (row.map V.int))) qs rows
theorem StepsAt.same {H H' : Hp} {S : Addr} {rows : List (List Int)} (s : Same H H') (h : StepsAt H S rows) : StepsAt H' S rows := by
  obtain ⟨qs, e, p⟩ := h
  exact ⟨qs, s _ _ e, L2.Paired.mapP p fun _ _ q => s _ _ q⟩
/-! ### rising lists, and whether all are one: the mathematics -/
def Rise (xs ns : List Int) : Prop := xs.Pairwise (· < ·) ∧ ∀ k, k ∈ xs ↔ k ∈ ns
theorem Rise.same {xs ys ns : List Int} (a : Rise xs ns) (b : Rise ys ns) : xs = ys := rise_same a.1 b.1 fun k => (a.2 k).trans (b.2 k).symm
theorem all_at (ns : List Int) : (List.range ns.length).map (fun i => ns.getD i 0) = ns := by
  apply List.ext_getElem?
  intro i
  rw [List.getElem?_map]
  by_cases h : i < ns.length
  · rw [List.getElem?_range h, List.getElem?_eq_getElem h]
    show some (ns.getD i 0) = _
    rw [List.getD_eq_getElem?_getD, List.getElem?_eq_getElem h]
    rfl
  · rw [List.getElem?_eq_none_iff.mpr (by rw [List.length_range]; omega), List.getElem?_eq_none_iff.mpr (by omega)]
    rfl
theorem mem_dist {ns : List Int} {k : Int} : k ∈ dist ns ↔ k ∈ ns := by
  have e := PyProof.Rows.firstMet_any (fun i => ns.getD i 0) ns.length k
  rw [all_at] at e
  have a : ∀ (l : List Int), (l.any (· == k) = true ↔ k ∈ l) := fun l => by simp
  rw [← a, ← a]
  exact iff_of_eq (congrArg (· = true) e)
theorem nodup_met (val : Nat → Int) : ∀ i, (PyProof.Rows.firstMet val i).Nodup
  | 0 => List.nodup_nil
  | i + 1 => by
    rw [PyProof.Rows.firstMet_succ]
    unfold PyProof.Rows.step_dedup
    have ih := nodup_met val i
    split
    · exact ih
    · rename_i h
      refine List.nodup_append.mpr ⟨ih, by simp, fun a ha b hb => ?_⟩
      rw [List.mem_singleton.mp hb]
      intro e
      subst e
      exact h (by simp [ha])
theorem one_iff {ns : List Int} : one ns = true ↔ ∃ v, v ∈ ns ∧ ∀ x ∈ ns, x = v := by
  unfold one
  rw [decide_eq_true_iff]
  constructor
  · intro h
    have h1 : (dist ns).length = 1 := by
      have e : (((dist ns).length : Nat) : Int) = 1 := V.int.inj h
      omega
    obtain ⟨v, ev⟩ := List.length_eq_one_iff.mp h1
    refine ⟨v, mem_dist.mp (by rw [ev]; exact List.mem_singleton_self v), fun x hx => ?_⟩
    have := mem_dist.mpr hx
    rw [ev] at this
    exact List.mem_singleton.mp this
  · rintro ⟨v, hv, all⟩
    have nd : (dist ns).Nodup := nodup_met _ _
    have m1 := mem_dist.mpr hv
    have m2 : ∀ x ∈ dist ns, x = v := fun x hx => all x (mem_dist.mp hx)
    match hd : dist ns with
    | [] => rw [hd] at m1; simp at m1
    | [a] => rfl
    | a :: b :: t =>
      rw [hd] at nd m2
      have ea := m2 a List.mem_cons_self
      have eb := m2 b (List.mem_cons_of_mem _ List.mem_cons_self)
      have := (List.nodup_cons.mp nd).1
      rw [ea, eb] at this
      exact absurd List.mem_cons_self this
theorem rise_one {xs ns : List Int} (r : Rise xs ns) (h : one ns = true) : ∃ v, xs = [v] ∧ v ∈ ns ∧ ∀ x ∈ ns, x = v := by
  obtain ⟨v, hv, all⟩ := one_iff.mp h
  refine ⟨v, rise_same r.1 (List.pairwise_singleton _ _) fun k => ⟨fun hk => ?_, fun hk => ?_⟩, hv, all⟩
  · exact List.mem_singleton.mpr (all k ((r.2 k).mp hk))
  · rw [List.mem_singleton.mp hk]
    exact (r.2 v).mpr hv
theorem rise_len {xs ns : List Int} (r : Rise xs ns) (ne : ns ≠ []) (h : ¬ 1 < xs.length) : one ns = true := by
  obtain ⟨v, hv⟩ := List.exists_mem_of_ne_nil _ ne
  have m := (r.2 v).mpr hv
  have h1 : xs.length = 1 := by
    have := List.length_pos_of_mem m
    omega
  obtain ⟨u, e⟩ := List.length_eq_one_iff.mp h1
  refine one_iff.mpr ⟨u, (r.2 u).mp (by rw [e]; exact List.mem_singleton_self u), fun x hx => ?_⟩
  have := (r.2 x).mpr hx
  rw [e] at this
  exact List.mem_singleton.mp this
/-- all are one by value v -/
theorem one_goK {many : Nat} {E : List Int} (g : GoodRow many E) (m1 : 1 ≤ many) (h : one E = true) : ∀ x ∈ E, x = goK E 0 := by
  obtain ⟨v, hv, all⟩ := one_iff.mp h
  have h0 : 0 < E.length := by rw [g.1]; omega
  have e : goK E 0 = E[0] := by
    unfold goK
    rw [List.getD_eq_getElem?_getD, show (0 : Int).toNat = 0 from rfl, List.getElem?_eq_getElem h0]
    rfl
  intro x hx
  rw [e, all x hx, all E[0] (List.getElem_mem h0)]
/-- walks that begin still farther back end at the same place -/
theorem one_on {many : Nat} {rows : List (List Int)} (h : ∀ r ∈ rows, GoodRow many r) (m1 : 1 ≤ many) {j : Nat} (ho : one (endsK many rows j) = true) (hj : j ≤ rows.length) : ∀ k, j ≤ k → k ≤ rows.length → one (endsK many rows k) = true ∧ goK (endsK many rows k) 0 = goK (endsK many rows j) 0
  | 0, h1, _ => by
    have : j = 0 := by omega
    subst this
    exact ⟨ho, rfl⟩
  | k + 1, h1, h2 => by
    by_cases e : j = k + 1
    · subst e
      exact ⟨ho, rfl⟩
    · obtain ⟨ih, ev⟩ := one_on h m1 ho hj k (by omega) (by omega)
      have gk := endsK_good h k (by omega)
      have gk1 := endsK_good h (k + 1) h2
      have all := one_goK gk m1 ih
      have g : rows.getD k [] = rows[k] := by
        rw [List.getD_eq_getElem?_getD, List.getElem?_eq_getElem (by omega)]
        rfl
      obtain ⟨r1, r2⟩ := h rows[k] (List.getElem_mem (by omega))
      have mem : ∀ x ∈ endsK many rows (k + 1), x = goK (endsK many rows k) 0 := by
        intro x hx
        unfold endsK at hx
        rw [g] at hx
        obtain ⟨p, hp, rfl⟩ := List.mem_map.mp hx
        obtain ⟨a, b⟩ := r2 p hp
        have hl : p.toNat < (endsK many rows k).length := by rw [gk.1]; omega
        refine all _ ?_
        unfold goK
        rw [List.getD_eq_getElem?_getD, List.getElem?_eq_getElem hl]
        exact List.getElem_mem hl
      have h0 : 0 < (endsK many rows (k + 1)).length := by rw [gk1.1]; omega
      have o1 : one (endsK many rows (k + 1)) = true := one_iff.mpr ⟨_, by
        have := mem _ (List.getElem_mem h0)
        rw [← this]
        exact List.getElem_mem h0, mem⟩
      refine ⟨o1, ?_⟩
      rw [← ev, ← mem (goK (endsK many rows (k + 1)) 0) ?_]
      unfold goK
      rw [List.getD_eq_getElem?_getD, show (0 : Int).toNat = 0 from rfl, List.getElem?_eq_getElem h0]
      exact List.getElem_mem h0
/-- rows behind don't matter -/
theorem ends_more {many : Nat} {rows rows' : List (List Int)} : ∀ k, k ≤ rows.length → endsK many (rows ++ rows') k = endsK many rows k
  | 0, _ => rfl
  | k + 1, hk => by
    show ((rows ++ rows').getD k []).map (goK (endsK many (rows ++ rows') k)) = (rows.getD k []).map (goK (endsK many rows k))
    rw [ends_more k (by omega), List.getD_eq_getElem?_getD, List.getElem?_append_left (by omega), ← List.getD_eq_getElem?_getD]
/-- what tries tells -/
def Tried (E : Nat → List Int) (len : Nat) (tr : List (Nat × List Int)) : Prop :=
  (∀ i x, tr[i]? = some x → x.1 = 2 ^ i ∧ 2 ^ i ≤ len ∧ Rise x.2 (E (2 ^ i))) ∧ (∀ i, i + 1 < tr.length → one (E (2 ^ i)) = false) ∧ (len < 2 ^ tr.length ∨ ∃ i, tr.length = i + 1 ∧ one (E (2 ^ i)) = true)
theorem tried_le {E : Nat → List Int} {len : Nat} {a b : List (Nat × List Int)} (ha : Tried E len a) (hb : Tried E len b) : ¬ a.length < b.length := by
  intro h
  obtain ⟨a1, a2, a3⟩ := ha
  obtain ⟨b1, b2, b3⟩ := hb
  rcases a3 with c | ⟨i, ei, o⟩
  · have := (b1 a.length _ (List.getElem?_eq_getElem h)).2.1
    omega
  · have := b2 i (by omega)
    rw [o] at this
    cases this
theorem tried_same {E : Nat → List Int} {len : Nat} {a b : List (Nat × List Int)} (ha : Tried E len a) (hb : Tried E len b) : a = b := by
  have h1 := tried_le ha hb
  have h2 := tried_le hb ha
  have hl : a.length = b.length := by omega
  apply List.ext_getElem hl
  intro i hi hi'
  have x := ha.1 i _ (List.getElem?_eq_getElem hi)
  have y := hb.1 i _ (List.getElem?_eq_getElem hi')
  exact Prod.ext (x.1.trans y.1.symm) (x.2.2.same y.2.2)
/-! ### _law_ends, _law_drawn: the mathematics -/
def rowN (ms : List Mv) (n : Int) : List Int := (ms.getD n.toNat (0, [])).2
def foldE (many : Nat) (ms : List Mv) (ns : List Int) : List Int := ns.foldl (fun L n => L.map (goK (rowN ms n))) ((List.range many).map fun (i : Nat) => (i : Int))
theorem foldE_snoc {many i : Nat} {ms : List Mv} {ns : List Int} {n : Int} (h : ns[i]? = some n) : foldE many ms (ns.take (i + 1)) = (foldE many ms (ns.take i)).map (goK (rowN ms n)) := by
  unfold foldE
  rw [take_snoc h, List.foldl_append]
  rfl
theorem goK_in {many : Nat} {f : List Int} {p : Int} (h : GoodRow many f) (h0 : 0 ≤ p) (h1 : p < (many : Int)) : 0 ≤ goK f p ∧ goK f p < (many : Int) := by
  have hl : p.toNat < f.length := by rw [h.1]; omega
  unfold goK
  rw [List.getD_eq_getElem?_getD, List.getElem?_eq_getElem hl]
  exact h.2 _ (List.getElem_mem hl)
theorem map_good {many : Nat} {f L : List Int} (hf : GoodRow many f) (hL : GoodRow many L) : GoodRow many (L.map (goK f)) := by
  refine ⟨by rw [List.length_map, hL.1], fun x hx => ?_⟩
  obtain ⟨p, hp, rfl⟩ := List.mem_map.mp hx
  exact goK_in hf (hL.2 p hp).1 (hL.2 p hp).2
theorem rowN_good {many : Nat} {ms : List Mv} {n : Int} (G : Good many ms) (h0 : 0 ≤ n) (h1 : n < (ms.length : Int)) : GoodRow many (rowN ms n) := by
  have hl : n.toNat < ms.length := by omega
  unfold rowN
  rw [List.getD_eq_getElem?_getD, List.getElem?_eq_getElem hl]
  exact (G.mv _ (List.getElem_mem hl)).2.2
theorem range_good (many : Nat) : GoodRow many ((List.range many).map fun (i : Nat) => (i : Int)) := by
  refine ⟨by rw [List.length_map, List.length_range], fun x hx => ?_⟩
  obtain ⟨i, hi, rfl⟩ := List.mem_map.mp hx
  have := List.mem_range.mp hi
  omega
theorem foldE_good {many : Nat} {ms : List Mv} (G : Good many ms) : ∀ {ns L : List Int}, (∀ n ∈ ns, 0 ≤ n ∧ n < (ms.length : Int)) → GoodRow many L → GoodRow many (ns.foldl (fun L n => L.map (goK (rowN ms n))) L)
  | [], _, _, h => h
  | n :: ns, L, hn, hL => by
    rw [List.foldl_cons]
    exact foldE_good G (fun z hz => hn z (List.mem_cons_of_mem _ hz)) (map_good (rowN_good G (hn n List.mem_cons_self).1 (hn n List.mem_cons_self).2) hL)
/-- goK of the identity row -/
theorem goK_id {many : Nat} {p : Int} (h0 : 0 ≤ p) (h1 : p < (many : Int)) : goK ((List.range many).map fun (i : Nat) => (i : Int)) p = p := by
  unfold goK
  rw [List.getD_eq_getElem?_getD, List.getElem?_map, List.getElem?_range (by omega)]
  show ((p.toNat : Nat) : Int) = p
  omega
theorem goK_map {many : Nat} {f g : List Int} {p : Int} (hg : GoodRow many g) (h0 : 0 ≤ p) (h1 : p < (many : Int)) : goK (g.map (goK f)) p = goK f (goK g p) := by
  have hl : p.toNat < g.length := by rw [hg.1]; omega
  unfold goK
  rw [List.getD_eq_getElem?_getD, List.getElem?_map, List.getD_eq_getElem?_getD (l := g), List.getElem?_eq_getElem hl]
  rfl
theorem rows_at {ms : List Mv} {ns : List Int} {k : Nat} {n : Int} (h : ns[k]? = some n) : (rowsOf ms ns).getD k [] = rowN ms n := by
  unfold rowsOf
  rw [List.getD_eq_getElem?_getD, List.getElem?_map, h]
  rfl
/-- walks that begin k steps back, walked from there -/
theorem fold_ends {many : Nat} {ms : List Mv} {ns : List Int} (G : Good many ms) (hN : NumsOk ms ns) : ∀ (k : Nat), k ≤ ns.length → ∀ L : List Int, GoodRow many L →
    ((ns.take k).reverse).foldl (fun L n => L.map (goK (rowN ms n))) L = L.map (goK (endsK many (rowsOf ms ns) k))
  | 0, _, L, hL => by
    show L = L.map (goK (endsK many (rowsOf ms ns) 0))
    have : L.map (goK (endsK many (rowsOf ms ns) 0)) = L.map id := List.map_congr_left fun p hp => goK_id (hL.2 p hp).1 (hL.2 p hp).2
    rw [this, List.map_id]
  | k + 1, hk, L, hL => by
    have hkl : k < ns.length := by omega
    have e := List.getElem?_eq_getElem hkl
    obtain ⟨n0, n1⟩ := hN.2 ns[k] (List.getElem_mem hkl)
    have gr := rowN_good G n0 n1
    have gE : GoodRow many (endsK many (rowsOf ms ns) k) := endsK_good (rowsOf_good G hN) k (by unfold rowsOf; rw [List.length_map]; omega)
    rw [take_snoc e, List.reverse_append, List.reverse_cons, List.reverse_nil, List.nil_append, List.singleton_append, List.foldl_cons, fold_ends G hN k (by omega) _ (map_good gr hL), List.map_map]
    refine List.map_congr_left fun p hp => ?_
    show goK (endsK many (rowsOf ms ns) k) (goK (rowN ms ns[k]) p) = goK (((rowsOf ms ns).getD k []).map (goK (endsK many (rowsOf ms ns) k))) p
    rw [rows_at e, goK_map gr (hL.2 p hp).1 (hL.2 p hp).2]
theorem foldE_back {many : Nat} {ms : List Mv} {ns : List Int} (G : Good many ms) (hN : NumsOk ms ns) (k : Nat) (hk : k ≤ ns.length) : foldE many ms ((ns.take k).reverse) = endsK many (rowsOf ms ns) k := by
  have gE : GoodRow many (endsK many (rowsOf ms ns) k) := endsK_good (rowsOf_good G hN) k (by unfold rowsOf; rw [List.length_map]; exact hk)
  unfold foldE
  rw [fold_ends G hN k hk _ (range_good many), List.map_map]
  apply List.ext_getElem?
  intro i
  rw [List.getElem?_map]
  by_cases hi : i < many
  · rw [List.getElem?_range hi, List.getElem?_eq_getElem (by rw [gE.1]; exact hi)]
    show some (goK (endsK many (rowsOf ms ns) k) (i : Int)) = _
    unfold goK
    rw [Int.toNat_natCast, List.getD_eq_getElem?_getD, List.getElem?_eq_getElem (by rw [gE.1]; exact hi)]
    rfl
  · rw [List.getElem?_eq_none_iff.mpr (by rw [List.length_range]; omega), List.getElem?_eq_none_iff.mpr (by rw [gE.1]; omega)]
    rfl
section
variable {P : Program} {w : World} {K : PySem.W.Frag} {mg : Str → Option Value} {base : Heap}
def nEn : List Str := ["_law_told", "_law_numbers_here", "_law_found", "_law_number", "_law_place"]
theorem scEn : FnScope ["_law_told", "_law_numbers_here", "_law_found", "_law_number", "_law_place"] ["_law_told", "_law_numbers_here"] (defScope sLawEnds) := ⟨rfl, rfl, rfl, by decide +kernel, rfl, by decide +kernel, by decide +kernel⟩
def spEn : Sp := fun vs H Q _ => ∃ (t m l : Addr) (many : Nat) (ws : List V) (ms : List Mv) (ns : List Int), vs = [.ref t, .ref l] ∧ ToldAt H t m many ws ms ∧ Good many ms ∧ H l = some (.lst (ns.map V.int)) ∧ NumsOk ms ns ∧
  ∀ e H', Same H H' → H' e = some (.lst ((foldE many ms ns).map V.int)) → Q (.ref e) H'
theorem ok_ends {f : Addr} {fd : FuncData} {k : Nat} (F : Fun K "_law_ends" "_law_ends" sLawEnds f fd) (mr : mg "range" = none) (mL : mg "list" = none) : FnOk P w K mg base CX0 (k + 1) f fd ["_law_told", "_law_numbers_here"] spEn := by
  refine F.ok scEn (fun vs H Q E h => ?_) (fun cdv A outer s H vs Q E hr h => ?_)
  · obtain ⟨t, m, l, many, ws, ms, ns, rfl, _⟩ := h
    rfl
  · obtain ⟨t, m, l, many, ws, ms, ns, rfl, ⟨ht, hm, hM⟩, G, hl, hN, q⟩ := h
    refine ⟨_, pss_cons (ps_set (i := 2) scEn.nd rfl (.inl rfl) (pe_listRg rfl (by rfl) mL (prg_1 (by rfl) mr (pe_ix ix_tup (pv 0) pe_int (fun _ _ => rfl)))))
      (pss_cons (ps_for PassesOwn.never rfl (pi_list (pv 1)) (pg_name (i := 3) scEn.nd rfl (.inr rfl))
        (pss_one (ps_setLc (i := 2) (own := [("_law_place", 4)]) (g := gName 4) (tt := tYes) (te := tOp (rIxT K) (tOp (rIxT K) (tOp (rIxL K) (tOp (rIxT K) (tVar 0) (tC (.int 1))) (tVar 3)) (tC (.int 1))) (tVar 4)) rfl scEn.nd rfl rfl (sw_true rfl rfl rfl (by decide +kernel)) (pi_list (pv 2)) (blkOk_by (N := nEn) (sc := defScope sLawEnds) (by decide +kernel))
          (fun _ _ _ _ _ => pg_name (i := 4) scEn.nd rfl (.inl rfl)) (fun _ _ _ _ _ => pts_nil)
          (fun _ _ _ _ _ => by exact (pe_ix ix_tup (pe_ix ix_tup (pe_ix ix_list (pe_ix ix_tup (pv 0) pe_int (fun _ _ => rfl)) (pv 3) (fun _ _ => rfl)) pe_int (fun _ _ => rfl)) (pv 4) (fun _ _ => rfl))))))
      (pss_one (ps_ret (pv 2)))), ?_⟩
    have m6 := G.m6
    have lenW := hM.length
    refine ⟨.ref t, rfl, t, _, 0, _, rfl, rfl, SqT.of ht, atI_nat (j := 0) rfl, _, rfl, RgOk.of_le (by omega) (by omega) (by omega) (by omega), fun e0 ne0 => ?_⟩
    rw [rg_ends]
    have s1 : Same H (upd H e0 (.lst (((List.range many).map fun (i : Nat) => (i : Int)).map V.int))) := same_new ne0
    refine ⟨.ref l, rfl, l, rfl, ⟨_, SqL.of (s1 _ _ hl)⟩, for_list (K := K) (a := l) (xs := ns.map V.int) (fun i σ H' => ∃ e y3, σ = [some (.ref t), some (.ref l), some (.ref e), y3, none] ∧ Same H H' ∧ H' e = some (.lst ((foldE many ms (ns.take i)).map V.int)))
      ⟨e0, none, rfl, s1, by rw [List.take_zero]; exact upd_same⟩ (fun i σ H' _ ⟨_, _, _, s, _⟩ => SqL.of (s _ _ hl)) ?_ ?_⟩
    · rintro i v σ H1 hv ⟨e, y3, rfl, s2, he⟩
      rw [List.getElem?_map] at hv
      obtain ⟨n, hn, rfl⟩ := Option.map_eq_some_iff.mp hv
      obtain ⟨n0, n1⟩ := hN.2 n (List.mem_of_getElem? hn)
      have hnm : n.toNat < ms.length := by omega
      obtain ⟨mv, emv, ⟨ta, tb, rfl, hta, htb⟩⟩ := hM.get (List.getElem?_eq_getElem hnm)
      have eR : rowN ms n = ms[n.toNat].2 := by
        unfold rowN
        rw [List.getD_eq_getElem?_getD, List.getElem?_eq_getElem hnm]
        rfl
      have gR := rowN_good G n0 n1
      have gL : GoodRow many (foldE many ms (ns.take i)) := foldE_good G (fun z hz => hN.2 z (List.mem_of_mem_take hz)) (range_good many)
      refine ⟨.ref e, rfl, e, rfl, ⟨_, SqL.of he⟩, fun D nD => ?_⟩
      refine lc_list (K := K) (a := e) (xs := (foldE many ms (ns.take i)).map V.int) (fun j H' => Same H1 H' ∧ H' D = some (.lst ((((foldE many ms (ns.take i)).map (goK (rowN ms n))).take j).map V.int)))
        ⟨same_new nD, by rw [List.take_zero]; exact upd_same⟩ (fun j H' _ h => SqL.of (h.1 _ _ he)) ?_ ?_
      · rintro j u H2 hu ⟨s3, hD⟩
        rw [List.getElem?_map] at hu
        obtain ⟨p, hp, rfl⟩ := Option.map_eq_some_iff.mp hu
        obtain ⟨p0, p1⟩ := gL.2 p (List.mem_of_getElem? hp)
        have hj : j < many := by
          obtain ⟨q1, _⟩ := List.getElem?_eq_some_iff.mp hp
          rw [gL.1] at q1
          exact q1
        have s23 := s2.trans s3
        have hpl : p.toNat < ms[n.toNat].2.length := by rw [← eR, gR.1]; omega
        have gp : (ms[n.toNat].2.map V.int)[p.toNat]? = some (.int (goK (rowN ms n) p)) := by
          rw [List.getElem?_map, List.getElem?_eq_getElem hpl]
          unfold goK
          rw [eR, List.getD_eq_getElem?_getD, List.getElem?_eq_getElem hpl]
          rfl
        refine ⟨rfl, .ref t, rfl, t, _, 1, _, rfl, rfl, SqT.of (s23 _ _ ht), atI_nat (j := 1) rfl, .int n, rfl, m, _, n, _, rfl, rfl, SqL.of (s23 _ _ hm), at_of (show n = ((n.toNat : Nat) : Int) by omega) emv, ta, _, 1, _, rfl, rfl, SqT.of (s23 _ _ hta), atI_nat (j := 1) rfl, ?_⟩
        refine ⟨.int p, rfl, tb, _, p, _, rfl, rfl, SqT.of (s23 _ _ htb), at_of (show p = ((p.toNat : Nat) : Int) by omega) gp, _, hD, ?_, fun b o eb => by rw [upd_ne (ne_of_none eb nD)]; exact s3 _ _ eb, ?_⟩
        · rw [List.length_map, List.length_take]
          exact small8 (Nat.le_trans (Nat.min_le_left _ _) (by omega))
        · rw [upd_same, take_snoc (x := goK (rowN ms n) p) (by rw [List.getElem?_map, hp]; rfl), List.map_append]
          rfl
      · rintro H2 ⟨s3, hD⟩
        rw [List.length_map, List.take_of_length_le (by rw [List.length_map]; exact Nat.le_refl _), ← foldE_snoc hn] at hD
        exact ⟨D, some (.int n), rfl, s2.trans s3, hD⟩
    · rintro σ H1 ⟨e, y3, rfl, s2, he⟩
      rw [List.length_map, List.take_length] at he
      exact ⟨.ref e, rfl, q e H1 s2 he⟩
end
section
variable {P : Program} {w : World} {K : PySem.W.Frag} {mg : Str → Option Value} {base : Heap}
theorem scLd : FnScope ["_law_told", "_law_numbers_here", "_law_far", "_law_ends_here"] ["_law_told", "_law_numbers_here"] (defScope sLawDrawn) := ⟨rfl, rfl, rfl, by decide +kernel, rfl, by decide +kernel, by decide +kernel⟩
def spLd : Sp := fun vs H Q _ => ∃ (t m l : Addr) (many : Nat) (ws : List V) (ms : List Mv) (ns : List Int), vs = [.ref t, .ref l] ∧ ToldAt H t m many ws ms ∧ Good many ms ∧ H l = some (.lst (ns.map V.int)) ∧ NumsOk ms ns ∧
  ∀ v H', Same H H' → DrawnAt H' v many (rowsOf ms ns) → Q v H'
theorem cut_toN (xs : List V) (n : Nat) : cutV xs none (some ((n : Nat) : Int)) = xs.take n := by
  unfold cutV
  rw [HT.sIx_none, HT.sIx_nat, List.drop_zero, Nat.sub_zero]
  by_cases h : n ≤ xs.length
  · rw [Nat.min_eq_left h]
  · rw [Nat.min_eq_right (by omega), List.take_of_length_le (Nat.le_refl _), List.take_of_length_le (by omega)]
theorem ok_ldrawn {f fE : Addr} {fd fdE : FuncData} (F : Fun K "_law_drawn" "_law_drawn" sLawDrawn f fd) (FE : Fun K "_law_ends" "_law_ends" sLawEnds fE fdE) (bE : Binds K fdE ["_law_told", "_law_numbers_here"] []) (gE : mg "_law_ends" = some (.ref fE))
    (mr : mg "range" = none) (mL : mg "list" = none) (ml : mg "len" = none) (mS : mg "set" = none) (mR : mg "reversed" = none) : FnOk P w K mg base CX0 2 f fd ["_law_told", "_law_numbers_here"] spLd := by
  have GE : FnOk P w K mg base CX0 1 fE fdE ["_law_told", "_law_numbers_here"] spEn := ok_ends FE mr mL
  refine F.ok scLd (fun vs H Q E h => ?_) (fun cdv A outer s H vs Q E hr h => ?_)
  · obtain ⟨t, m, l, many, ws, ms, ns, rfl, _⟩ := h
    rfl
  · obtain ⟨t, m, l, many, ws, ms, ns, rfl, hT, G, hl, hN, q⟩ := h
    refine ⟨_, pss_cons (ps_for PassesOwn.never rfl (pi_range1 (by rfl) mr (pa_cons (pe_op op_add (pe_callB call_len_seq (by rfl) ml PySem.boot_len (pa_cons (pv 1) pa_nil)) pe_int) pa_nil)) (pg_name (i := 2) scLd.nd rfl (.inl rfl))
        (pss_cons (ps_set (i := 3) scLd.nd rfl (.inl rfl) (pe_call GE hr (by rfl) gE FE.kp bE .nil pass0 (pa_cons (pv 0) (pa_cons (pe_lstRev rfl (by rfl) mL (by rfl) mR (pe_slice sl_list (pv 1) po_none (po_some (pv 2)))) pa_nil))))
        (pss_one (ps_if (pt_cmpR op_eq (pe_lenSetN (by rfl) ml (by rfl) mS (pv 3)) pe_int (nomark _)) (pss_one (ps_ret (pe_tup (pa_cons (pe_ix ix_list (pv 3) pe_int (fun _ _ => rfl)) (pa_cons (pv 2) pa_nil))))) pss_nil))))
      (pss_one (ps_ret pe_non)), ?_⟩
    have m6 := G.m6
    have m1 := G.m1
    have n1000 := hN.1
    have lenR : (rowsOf ms ns).length = ns.length := by
      unfold rowsOf
      rw [List.length_map]
    have gE' := endsK_good (rowsOf_good G hN)
    refine ⟨.ref l, rfl, l, _, rfl, .inl (SqL.of hl), _, _, rfl, rfl, _, rfl, by omega, by rw [List.length_map]; omega, ?_⟩
    have en : ((((ns.map V.int).length : Nat) : Int) + 1).toNat = ns.length + 1 := by rw [List.length_map]; omega
    refine for_range (lo := 0) (n := ((((ns.map V.int).length : Nat) : Int) + 1).toNat) (fun i σ H' => ∃ y2 y3, σ = [some (.ref t), some (.ref l), y2, y3] ∧ Same H H' ∧ ∀ j, j < i → one (endsK many (rowsOf ms ns) j) = false)
      ⟨none, none, rfl, Same.refl _, fun j hj => absurd hj (Nat.not_lt_zero _)⟩ ?_ ?_
    · rintro i σ H1 hi ⟨y2, y3, rfl, s1, hbef⟩
      rw [en] at hi
      have ei : (0 : Int) + ((i : Nat) : Int) = ((i : Nat) : Int) := Int.zero_add _
      refine ⟨.ref t, rfl, .ref l, rfl, .int (0 + ((i : Nat) : Int)), rfl, _, rfl, l, _, rfl, SqL.of (s1 _ _ hl), fun c nc => ?_⟩
      rw [ei, cut_toN, ← List.map_take]
      have s2 : Same H1 (upd H1 c (.lst ((ns.take i).map V.int))) := same_new nc
      refine ⟨c, _, rfl, SqL.of upd_same, fun r nr => ?_⟩
      rw [← List.map_reverse]
      have s3 : Same (upd H1 c (.lst ((ns.take i).map V.int))) (upd (upd H1 c (.lst ((ns.take i).map V.int))) r (.lst ((ns.take i).reverse.map V.int))) := same_new nr
      have s13 := (s1.trans s2).trans s3
      have hN2 : NumsOk ms (ns.take i).reverse := by
        refine ⟨by rw [List.length_reverse, List.length_take]; exact Nat.le_trans (Nat.min_le_right _ _) n1000, fun n hn => hN.2 n (List.mem_of_mem_take (List.mem_reverse.mp hn))⟩
      refine ⟨t, m, r, many, ws, ms, (ns.take i).reverse, rfl, hT.same s13, G, upd_same, hN2, fun e H2 s4 he => ?_⟩
      rw [foldE_back G hN i (by omega)] at he
      obtain ⟨gl, gx⟩ := gE' i (by omega)
      have h64 : (endsK many (rowsOf ms ns) i).length < 64 := by omega
      refine ⟨.ref e, rfl, e, _, rfl, SqL.of he, h64, rfl, _, rfl, ite2 (fun c1 => ?_) (fun c1 => ?_)⟩
      · have g0 : ((endsK many (rowsOf ms ns) i).map V.int)[0]? = some (.int (goK (endsK many (rowsOf ms ns) i) 0)) := by
          have h0 : 0 < (endsK many (rowsOf ms ns) i).length := by omega
          rw [List.getElem?_map, List.getElem?_eq_getElem h0]
          unfold goK
          rw [List.getD_eq_getElem?_getD, show (0 : Int).toNat = 0 from rfl, List.getElem?_eq_getElem h0]
          rfl
        refine ⟨.ref e, rfl, e, _, 0, _, rfl, rfl, SqL.of he, atI_nat (j := 0) g0, .int ((i : Nat) : Int), rfl, (by show 2 ≤ sizeLine; decide), fun t2 nt2 => ?_⟩
        exact q _ _ ((s13.trans s4).trans (same_new nt2)) (.inl ⟨i, t2, ⟨by omega, c1, hbef⟩, rfl, upd_same⟩)
      · refine ⟨some (.int ((i : Nat) : Int)), some (.ref e), rfl, s13.trans s4, fun j hj => ?_⟩
        by_cases hji : j < i
        · exact hbef j hji
        · have ej : j = i := by omega
          rw [ej]
          cases ho : one (endsK many (rowsOf ms ns) i) with
          | false => rfl
          | true => exact absurd ho c1
    · rintro σ H1 ⟨y2, y3, rfl, s1, hbef⟩
      exact q _ _ s1 (.inr ⟨fun j hj => hbef j (by rw [en]; omega), rfl⟩)
end
/-- a set comprehension over a tuple of ints, its element an int -/
theorem scI_tup {w : World} {K : PySem.W.Frag} {a D : Addr} {ns : List Int} {f : Int → Int} {j : Nat} {elm : TE} {σ : L2.St} {H1 : Hp} {gone : List Nat} {Qd : Hp → Prop} (nD : H1 D = none) (hT : SqT K H1 a (ns.map V.int)) (small : ns.length + 1 < scanBound)
    (keep : ∀ n : Int, wipe ((wipe σ gone).set j (some (.int n))) gone = wipe σ gone)
    (turn : ∀ n ∈ ns, ∀ (H' : Hp) (q : VK), Same H1 H' → q (.int (f n)) H' → elm ((wipe σ gone).set j (some (.int n))) H' q)
    (done : ∀ H' M c, Same H1 H' → H' D = some (SetO w D M c) → (∀ k, M k = true ↔ k ∈ ns.map f) → c ≤ ns.length → Qd H') :
    ∃ Z : Nat → Nat → Hp → Prop, (∃ m, Z 0 m (upd H1 D (SetO w D (fun _ => false) 0))) ∧
      ∀ i m Hb, Z i m Hb → ((Itt K a).stop i Hb ∧ Qd Hb) ∨
        ((Itt K a).go i Hb ∧ ∃ nxt : Hp → Prop, (∀ Hc, nxt Hc → ∃ m', m' < m ∧ Z (i + 1) m' Hc) ∧ ∀ v Hc, (Itt K a).yld i Hb v Hc → oneTurn w D (gName j) tYes elm gone σ v Hc nxt) := by
  let At : Nat → Hp → Prop := fun i Hb => Same H1 Hb ∧ ∃ M c, Hb D = some (SetO w D M c) ∧ (∀ k, M k = true ↔ k ∈ (ns.take i).map f) ∧ c ≤ i
  refine ⟨fun i m Hb => m = ns.length - i ∧ i ≤ ns.length ∧ At i Hb, ⟨ns.length, rfl, Nat.zero_le _, same_new nD, _, 0, upd_same, fun k => by simp, Nat.le_refl _⟩, ?_⟩
  rintro i m Hb ⟨rfl, hi, sH, M, c, hD, hM, hc⟩
  have hT' := Same.seqt sH hT
  by_cases lt : i < ns.length
  · refine .inr ⟨⟨_, .int ns[i], hT', by rw [List.getElem?_map, List.getElem?_eq_getElem lt]; rfl⟩, At (i + 1), fun Hc p => ⟨ns.length - (i + 1), by omega, rfl, lt, p⟩, fun v Hc y => ?_⟩
    obtain ⟨e, y⟩ := y
    subst e
    have ev := y _ hT'
    rw [List.getElem?_map, List.getElem?_eq_getElem lt] at ev
    have ev' : v = .int ns[i] := (Option.some.inj ev).symm
    subst ev'
    refine ⟨keep _, turn ns[i] (List.getElem_mem lt) _ _ sH ⟨f ns[i], M, c, rfl, hD, by omega, ?_⟩⟩
    refine ⟨fun b o e => by rw [upd_ne (ne_of_none e nD)]; exact sH b o e, _, _, upd_same, fun k => ?_, ?_⟩
    · rw [Bool.or_eq_true, hM k, decide_eq_true_iff, take_snoc (List.getElem?_eq_getElem lt), List.map_append, List.mem_append]
      constructor
      · rintro (h | h)
        · exact .inl h
        · exact .inr (by rw [h]; simp)
      · rintro (h | h)
        · exact .inl h
        · exact .inr (by simpa using h)
    · split <;> omega
  · have e : i = ns.length := by omega
    subst e
    refine .inl ⟨⟨_, hT', by rw [List.length_map]; exact Nat.le_refl _⟩, done Hb M c sH hD (fun k => by rw [hM k, List.take_length]) hc⟩
section
variable {P : Program} {w : World} {K : PySem.W.Frag} {mg : Str → Option Value} {base : Heap}
/-! ### led_to -/
theorem scLed : FnScope ["whither", "group", "place"] ["whither", "group"] (defScope sLedTo) := ⟨rfl, rfl, rfl, by decide +kernel, rfl, by decide +kernel, by decide +kernel⟩
def spLed : Sp := fun vs H Q _ => ∃ (wa ga : Addr) (many : Nat) (row g : List Int), vs = [.ref wa, .ref ga] ∧ H wa = some (.tup (row.map V.int)) ∧ H ga = some (.tup (g.map V.int)) ∧ many ≤ 6 ∧ GoodRow many row ∧ goodG many g ∧
  ∀ p H', Same H H' → H p = none → H' p = some (.tup ((ledG many row g).map V.int)) → Q (.ref p) H'
theorem ok_led {f : Addr} {fd : FuncData} {k : Nat} (F : Fun K "led_to" "led_to" sLedTo f fd) (mt : mg "tuple" = none) (ms : mg "sorted" = none) : FnOk P w K mg base CX0 (k + 1) f fd ["whither", "group"] spLed := by
  refine F.ok scLed (fun vs H Q E h => ?_) (fun cdv A outer s H vs Q E hr h => ?_)
  · obtain ⟨wa, ga, many, row, g, rfl, _⟩ := h
    rfl
  · obtain ⟨wa, ga, many, row, g, rfl, hw, hg, m6, hrow, gg, q⟩ := h
    refine ⟨_, pss_one (ps_ret (pe_callTy call_tuple_of (by rfl) mt (by decide +kernel) (pa_cons (pe_callB (cr_sortedSet rfl) (by rfl) ms (by decide +kernel) (pa_cons
      (pe_scI (own := [("place", 2)]) (gt := gName 2) (tst := tYes) (elm := tOp (rIxT K) (tVar 0) (tVar 2)) rfl scLed.nd (pi_tup (pv 1)) (blkOk_by (N := ["whither", "group", "place"]) (sc := defScope sLedTo) (by decide +kernel)) (fun _ _ _ _ _ => pg_name (i := 2) scLed.nd rfl (.inl rfl)) (fun _ _ _ _ _ => pts_nil) (fun _ _ _ _ _ => by exact (pe_ix ix_tup (pv 0) (pv 2) (fun _ _ => rfl)))) pa_nil)) pa_nil))), ?_⟩
    have len := gg.len
    refine ⟨.ref ga, rfl, ga, rfl, ⟨_, SqT.of hg⟩, fun D nD => ?_⟩
    refine scI_tup (w := w) (ns := g) (f := goK row) (j := 2) nD (SqT.of hg) (by unfold scanBound; omega) (fun n => rfl) (fun n hn H' q' sH hq => ?_) (fun H' M c sH hD hM hc => ?_)
    · obtain ⟨n0, n1⟩ := gg.2 n hn
      refine ⟨.ref wa, rfl, .int n, rfl, wa, _, n, _, rfl, rfl, SqT.of (sH _ _ hw), at_of (show n = ((n.toNat : Nat) : Int) by omega) (at_goK n0 (by rw [hrow.1]; omega)), hq⟩
    · refine ⟨D, M, c, rfl, hD, by omega, fun ns p hp hmem hlen np => ?_⟩
      refine ⟨p, _, rfl, .inl ⟨SqL.of upd_same, fun t nt => ?_⟩⟩
      have e : ns = ledG many row g := by
        refine rise_same hp (ledG_good many row g).1 fun k => ?_
        rw [hmem k, hM k, mem_ledG hrow gg.2, List.mem_map]
      rw [e] at nt ⊢
      have s2 := sH.trans (same_new (o := .lst ((ledG many row g).map V.int)) np)
      exact q t _ (s2.trans (same_new nt)) (s2.free nt) upd_same
end
/-! ### all groups to which rows lead: the mathematics -/
abbrev GR := List Int × List Int
def keysG (l : List GR) : List (List Int) := l.map (·.1)
def addG (l : List GR) (g r : List Int) : List GR := if g ∈ keysG l then l else l ++ [(g, r)]
def rowM (ms : List Mv) (n : Nat) : List Int := (ms.getD n (0, [])).2
def visitN (many : Nat) (ms : List Mv) (g r : List Int) (l : List GR) : Nat → List GR
  | 0 => l
  | k + 1 => addG (visitN many ms g r l k) (ledG many (rowM ms k) g) (r ++ [(k : Int)])
def stepN (many : Nat) (ms : List Mv) (l : List GR) (d : Nat) : List GR := match l[d]? with
  | none => l
  | some p => visitN many ms p.1 p.2 l ms.length
def bfsN (many : Nat) (ms : List Mv) (b : List Int) : Nat → List GR
  | 0 => [(b, [])]
  | d + 1 => stepN many ms (bfsN many ms b d) d
def gf (many : Nat) (ms : List Mv) (b : List Int) : List GR := bfsN many ms b 64
/-- what stood stands, at its place -/
def Pre (l l' : List GR) : Prop := ∃ t, l' = l ++ t
theorem Pre.refl (l : List GR) : Pre l l := ⟨[], (List.append_nil l).symm⟩
theorem Pre.trans {a b c : List GR} (h : Pre a b) (k : Pre b c) : Pre a c := by
  obtain ⟨t, rfl⟩ := h
  obtain ⟨u, rfl⟩ := k
  exact ⟨t ++ u, by rw [List.append_assoc]⟩
theorem Pre.at {a b : List GR} (h : Pre a b) {i : Nat} {p : GR} (e : a[i]? = some p) : b[i]? = some p := by
  obtain ⟨t, rfl⟩ := h
  obtain ⟨lt, _⟩ := List.getElem?_eq_some_iff.mp e
  rw [List.getElem?_append_left lt]
  exact e
theorem Pre.len {a b : List GR} (h : Pre a b) : a.length ≤ b.length := by
  obtain ⟨t, rfl⟩ := h
  rw [List.length_append]
  omega
theorem Pre.keys {a b : List GR} (h : Pre a b) {g : List Int} (m : g ∈ keysG a) : g ∈ keysG b := by
  obtain ⟨t, rfl⟩ := h
  unfold keysG at *
  rw [List.map_append]
  exact List.mem_append.mpr (.inl m)
theorem addG_pre (l : List GR) (g r : List Int) : Pre l (addG l g r) := by
  unfold addG
  split
  · exact Pre.refl l
  · exact ⟨_, rfl⟩
theorem addG_mem (l : List GR) (g r : List Int) : g ∈ keysG (addG l g r) := by
  unfold addG
  split
  · assumption
  · unfold keysG
    rw [List.map_append]
    exact List.mem_append.mpr (.inr List.mem_cons_self)
theorem visitN_pre (many : Nat) (ms : List Mv) (g r : List Int) (l : List GR) : ∀ k, Pre l (visitN many ms g r l k)
  | 0 => Pre.refl l
  | k + 1 => (visitN_pre many ms g r l k).trans (addG_pre _ _ _)
theorem stepN_pre (many : Nat) (ms : List Mv) (l : List GR) (d : Nat) : Pre l (stepN many ms l d) := by
  unfold stepN
  split
  · exact Pre.refl l
  · exact visitN_pre _ _ _ _ _ _
theorem bfsN_pre (many : Nat) (ms : List Mv) (b : List Int) (d : Nat) : ∀ e, Pre (bfsN many ms b d) (bfsN many ms b (d + e))
  | 0 => Pre.refl _
  | e + 1 => (bfsN_pre many ms b d e).trans (stepN_pre _ _ _ _)
/-- a property of all that is found -/
theorem addG_all {F : GR → Prop} {l : List GR} {g r : List Int} (h : ∀ p ∈ l, F p) (n : F (g, r)) : ∀ p ∈ addG l g r, F p := by
  unfold addG
  split
  · exact h
  · intro p hp
    rcases List.mem_append.mp hp with hp | hp
    · exact h p hp
    · rw [List.mem_singleton.mp hp]
      exact n
theorem visitN_all {F : GR → Prop} {many : Nat} {ms : List Mv} {g r : List Int} {l : List GR} (h : ∀ p ∈ l, F p) (n : ∀ k, k < ms.length → F (ledG many (rowM ms k) g, r ++ [(k : Int)])) : ∀ k, k ≤ ms.length → ∀ p ∈ visitN many ms g r l k, F p
  | 0, _ => h
  | k + 1, hk => addG_all (visitN_all h n k (by omega)) (n k (by omega))
theorem bfsN_all {F : GR → Prop} {many : Nat} {ms : List Mv} {b : List Int} (h0 : F (b, [])) (n : ∀ p k, F p → k < ms.length → F (ledG many (rowM ms k) p.1, p.2 ++ [(k : Int)])) : ∀ d, ∀ p ∈ bfsN many ms b d, F p
  | 0 => fun p hp => by rw [List.mem_singleton.mp hp]; exact h0
  | d + 1 => by
    have ih := bfsN_all h0 n d
    show ∀ p ∈ stepN many ms (bfsN many ms b d) d, F p
    unfold stepN
    split
    · exact ih
    · rename_i q hq
      exact visitN_all ih (fun k hk => n q k (ih q (List.mem_of_getElem? hq)) hk) _ (Nat.le_refl _)
theorem addG_nodup {l : List GR} {g r : List Int} (h : (keysG l).Nodup) : (keysG (addG l g r)).Nodup := by
  unfold addG
  split
  · exact h
  · rename_i n
    unfold keysG at *
    rw [List.map_append]
    refine List.nodup_append.mpr ⟨h, by simp, fun a ha c hc => ?_⟩
    rw [List.mem_singleton.mp hc]
    intro e
    subst e
    exact n ha
theorem visitN_nodup {many : Nat} {ms : List Mv} {g r : List Int} {l : List GR} (h : (keysG l).Nodup) : ∀ k, (keysG (visitN many ms g r l k)).Nodup
  | 0 => h
  | k + 1 => addG_nodup (visitN_nodup h k)
theorem bfsN_nodup (many : Nat) (ms : List Mv) (b : List Int) : ∀ d, (keysG (bfsN many ms b d)).Nodup
  | 0 => by simp [bfsN, keysG]
  | d + 1 => by
    have ih := bfsN_nodup many ms b d
    show (keysG (stepN many ms (bfsN many ms b d) d)).Nodup
    unfold stepN
    split
    · exact ih
    · exact visitN_nodup ih _
theorem bfsN_good {many : Nat} {ms : List Mv} {b : List Int} (hb : goodG many b) (d : Nat) : ∀ p ∈ bfsN many ms b d, goodG many p.1 :=
  bfsN_all (F := fun p => goodG many p.1) hb (fun _ _ _ _ => ledG_good _ _ _) d
/-! how many there may be -/
def subs : List Int → List (List Int)
  | [] => [[]]
  | x :: xs => subs xs ++ (subs xs).map (x :: ·)
theorem subs_len : ∀ xs : List Int, (subs xs).length = 2 ^ xs.length
  | [] => rfl
  | x :: xs => by
    show (subs xs ++ (subs xs).map (x :: ·)).length = _
    rw [List.length_append, List.length_map, subs_len xs, List.length_cons, Nat.pow_succ]
    omega
theorem mem_subs : ∀ {xs g : List Int}, xs.Pairwise (· < ·) → g.Pairwise (· < ·) → (∀ k ∈ g, k ∈ xs) → g ∈ subs xs
  | [], g, _, _, h => by
    cases g with
    | nil => exact List.mem_cons_self
    | cons a r => exact absurd (h a List.mem_cons_self) (by simp)
  | x :: xs, g, hx, hg, h => by
    obtain ⟨x1, x2⟩ := List.pairwise_cons.mp hx
    show g ∈ subs xs ++ (subs xs).map (x :: ·)
    cases g with
    | nil => exact List.mem_append.mpr (.inl (mem_subs x2 .nil fun k hk => nomatch hk))
    | cons a r =>
      obtain ⟨a1, a2⟩ := List.pairwise_cons.mp hg
      by_cases e : a = x
      · subst e
        refine List.mem_append.mpr (.inr (List.mem_map.mpr ⟨r, mem_subs x2 a2 fun k hk => ?_, rfl⟩))
        rcases List.mem_cons.mp (h k (List.mem_cons_of_mem _ hk)) with z | z
        · have := a1 k hk
          omega
        · exact z
      · refine List.mem_append.mpr (.inl (mem_subs x2 hg fun k hk => ?_))
        have ha : a ∈ xs := (List.mem_cons.mp (h a List.mem_cons_self)).resolve_left e
        rcases List.mem_cons.mp (h k hk) with z | z
        · have := x1 a ha
          rcases List.mem_cons.mp hk with w | w
          · exact absurd (w.symm.trans z) e
          · have := a1 k w
            omega
        · exact z
theorem pigeon {α : Type} [DecidableEq α] : ∀ {l m : List α}, l.Nodup → (∀ x ∈ l, x ∈ m) → l.length ≤ m.length
  | [], _, _, _ => Nat.zero_le _
  | x :: l, m, hn, h => by
    obtain ⟨n1, n2⟩ := List.nodup_cons.mp hn
    have hx := h x List.mem_cons_self
    have ih := pigeon (m := m.erase x) n2 fun y hy => (List.mem_erase_of_ne (fun e => n1 (by rw [← e]; exact hy))).mpr (h y (List.mem_cons_of_mem _ hy))
    rw [List.length_erase_of_mem hx] at ih
    have : 0 < m.length := List.length_pos_of_mem hx
    rw [List.length_cons]
    omega
theorem bfsN_len {many : Nat} {ms : List Mv} {b : List Int} (hb : goodG many b) (m6 : many ≤ 6) (d : Nat) : (bfsN many ms b d).length ≤ 64 := by
  have h := pigeon (m := subs (ids many)) (bfsN_nodup many ms b d) fun g hg => by
    obtain ⟨p, hp, rfl⟩ := List.mem_map.mp hg
    obtain ⟨g1, g2⟩ := bfsN_good hb d p hp
    exact mem_subs (ids_pair many) g1 fun k hk => mem_ids.mpr (g2 k hk)
  rw [subs_len] at h
  unfold keysG at h
  rw [List.length_map] at h
  have e : (ids many).length = many := by
    unfold ids
    rw [List.length_map, List.length_range]
  rw [e] at h
  exact Nat.le_trans h (Nat.pow_le_pow_right (n := 2) (by decide) m6)
/-- once all are done there is no more -/
theorem bfsN_end {many : Nat} {ms : List Mv} {b : List Int} {d : Nat} (h : (bfsN many ms b d).length ≤ d) : ∀ e, bfsN many ms b (d + e) = bfsN many ms b d
  | 0 => rfl
  | e + 1 => by
    have ih := bfsN_end h e
    show stepN many ms (bfsN many ms b (d + e)) (d + e) = _
    rw [ih]
    unfold stepN
    rw [List.getElem?_eq_none_iff.mpr (by omega)]
theorem bfsN_gf {many : Nat} {ms : List Mv} {b : List Int} {d : Nat} (h : (bfsN many ms b d).length ≤ d) (d64 : d ≤ 64) : bfsN many ms b d = gf many ms b := by
  have := bfsN_end h (64 - d)
  rw [show d + (64 - d) = 64 by omega] at this
  exact this.symm
theorem visitN_mem {many : Nat} {ms : List Mv} {g r : List Int} {l : List GR} : ∀ {k n : Nat}, n < k → ledG many (rowM ms n) g ∈ keysG (visitN many ms g r l k)
  | k + 1, n, h => by
    by_cases e : n = k
    · subst e
      exact addG_mem _ _ _
    · exact (addG_pre _ _ _).keys (visitN_mem (k := k) (by omega))
theorem bfsN_done {many : Nat} {ms : List Mv} {b : List Int} : ∀ (d : Nat) {i : Nat} {p : GR}, i < d → (bfsN many ms b d)[i]? = some p → ∀ n, n < ms.length → ledG many (rowM ms n) p.1 ∈ keysG (bfsN many ms b d)
  | d + 1, i, p, hi, e, n, hn => by
    have pre := bfsN_pre many ms b d 1
    by_cases c : i < (bfsN many ms b d).length
    · have e0 : (bfsN many ms b d)[i]? = some p := by
        have := pre.at (List.getElem?_eq_getElem c)
        rw [this] at e
        cases e
        exact List.getElem?_eq_getElem c
      by_cases c2 : i < d
      · exact pre.keys (bfsN_done d c2 e0 n hn)
      · have ed : i = d := by omega
        subst ed
        show _ ∈ keysG (stepN many ms (bfsN many ms b i) i)
        unfold stepN
        rw [e0]
        exact visitN_mem hn
    · exfalso
      have h : (bfsN many ms b d).length ≤ d := by omega
      have := bfsN_end h 1
      rw [this, List.getElem?_eq_none_iff.mpr (by omega)] at e
      cases e
theorem gf_len {many : Nat} {ms : List Mv} {b : List Int} (hb : goodG many b) (m6 : many ≤ 6) : (gf many ms b).length ≤ 64 := bfsN_len hb m6 64
/-- all is closed under moves -/
theorem gf_closed {many : Nat} {ms : List Mv} {b : List Int} (hb : goodG many b) (m6 : many ≤ 6) {g : List Int} (hg : g ∈ keysG (gf many ms b)) {n : Nat} (hn : n < ms.length) : ledG many (rowM ms n) g ∈ keysG (gf many ms b) := by
  obtain ⟨p, hp, rfl⟩ := List.mem_map.mp hg
  obtain ⟨i, hi, e⟩ := List.getElem_of_mem hp
  have := gf_len (ms := ms) hb m6
  exact bfsN_done 64 (i := i) (p := p) (by omega) (by rw [← e]; exact List.getElem?_eq_getElem hi) n hn
theorem gf_begin {many : Nat} {ms : List Mv} {b : List Int} : (gf many ms b)[0]? = some (b, []) := by
  have := (bfsN_pre many ms b 0 64).at (i := 0) (p := (b, [])) rfl
  rw [Nat.zero_add] at this
  exact this
theorem bfsN_rowlen {many : Nat} {ms : List Mv} {b : List Int} : ∀ d, ∀ p ∈ bfsN many ms b d, p.2.length ≤ d
  | 0 => fun p hp => by rw [List.mem_singleton.mp hp]; exact Nat.le_refl _
  | d + 1 => by
    have ih := bfsN_rowlen (many := many) (ms := ms) (b := b) d
    show ∀ p ∈ stepN many ms (bfsN many ms b d) d, p.2.length ≤ d + 1
    unfold stepN
    split
    · exact fun p hp => Nat.le_succ_of_le (ih p hp)
    · rename_i q hq
      refine visitN_all (F := fun p => p.2.length ≤ d + 1) (fun p hp => Nat.le_succ_of_le (ih p hp)) (fun k _ => ?_) _ (Nat.le_refl _)
      have := ih q (List.mem_of_getElem? hq)
      show (q.2 ++ [(k : Int)]).length ≤ d + 1
      rw [List.length_append]
      show q.2.length + 1 ≤ d + 1
      omega
theorem snocInd {α : Type} {F : List α → Prop} (h0 : F []) (h : ∀ l x, F l → F (l ++ [x])) (l : List α) : F l := by
  have : ∀ n (l : List α), l.length = n → F l := by
    intro n
    induction n with
    | zero =>
      intro l hl
      rw [List.eq_nil_of_length_eq_zero hl]
      exact h0
    | succ n ih =>
      intro l hl
      have ne : l ≠ [] := fun e => by rw [e] at hl; cases hl
      rw [← List.dropLast_concat_getLast ne]
      exact h _ _ (ih _ (by rw [List.length_dropLast]; omega))
  exact this l.length l rfl
/-- where a row leads a group -/
def runG (many : Nat) (ms : List Mv) (b : List Int) (r : List Int) : List Int := r.foldl (fun g n => ledG many (rowM ms n.toNat) g) b
theorem runG_snoc (many : Nat) (ms : List Mv) (b r : List Int) (n : Int) : runG many ms b (r ++ [n]) = ledG many (rowM ms n.toNat) (runG many ms b r) := by
  unfold runG
  rw [List.foldl_append]
  rfl
theorem gf_row {many : Nat} {ms : List Mv} {b : List Int} : ∀ p ∈ gf many ms b, runG many ms b p.2 = p.1 ∧ ∀ n ∈ p.2, 0 ≤ n ∧ n < (ms.length : Int) :=
  bfsN_all (F := fun p => runG many ms b p.2 = p.1 ∧ ∀ n ∈ p.2, 0 ≤ n ∧ n < (ms.length : Int)) ⟨rfl, fun _ h => nomatch h⟩ (fun p k h hk => by
    refine ⟨?_, fun n hn => ?_⟩
    · show runG many ms b (p.2 ++ [(k : Int)]) = _
      rw [runG_snoc, h.1]
      rfl
    · rcases List.mem_append.mp hn with hn | hn
      · exact h.2 n hn
      · rw [List.mem_singleton.mp hn]
        omega) 64
theorem gf_run {many : Nat} {ms : List Mv} {b : List Int} (hb : goodG many b) (m6 : many ≤ 6) : ∀ {r : List Int}, (∀ n ∈ r, 0 ≤ n ∧ n < (ms.length : Int)) → runG many ms b r ∈ keysG (gf many ms b) := by
  intro r
  refine snocInd (F := fun r => (∀ n ∈ r, 0 ≤ n ∧ n < (ms.length : Int)) → runG many ms b r ∈ keysG (gf many ms b)) ?_ ?_ r
  · intro _
    exact List.mem_map.mpr ⟨_, List.mem_of_getElem? gf_begin, rfl⟩
  · intro r n ih h
    rw [runG_snoc]
    have hn := h n (List.mem_append.mpr (.inr List.mem_cons_self))
    exact gf_closed hb m6 (ih fun z hz => h z (List.mem_append.mpr (.inl hz))) (by omega)
/-! ### so much of each: sums over rows of numbers, and what is counted by keys -/
section
/-- a sum over a list -/
def sumL {α : Type} (l : List α) (f : α → Int) : Int := (l.map f).sum
theorem sumL_nil {α : Type} (f : α → Int) : sumL [] f = 0 := rfl
theorem sumL_cons {α : Type} (a : α) (l : List α) (f : α → Int) : sumL (a :: l) f = f a + sumL l f := by unfold sumL; rw [List.map_cons, List.sum_cons]
theorem sumL_app {α : Type} (l k : List α) (f : α → Int) : sumL (l ++ k) f = sumL l f + sumL k f := by unfold sumL; rw [List.map_append, List.sum_append]
theorem sumL_congr {α : Type} {l : List α} {f g : α → Int} (h : ∀ a ∈ l, f a = g a) : sumL l f = sumL l g := by unfold sumL; rw [List.map_congr_left h]
theorem sumL_add {α : Type} (f g : α → Int) : ∀ l : List α, sumL l (fun a => f a + g a) = sumL l f + sumL l g
  | [] => rfl
  | a :: l => by rw [sumL_cons, sumL_cons, sumL_cons, sumL_add f g l]; omega
theorem sumL_mul {α : Type} (k : Int) (f : α → Int) : ∀ l : List α, sumL l (fun a => k * f a) = k * sumL l f
  | [] => (Int.mul_zero k).symm
  | a :: l => by rw [sumL_cons, sumL_cons, sumL_mul k f l, Int.mul_add]
theorem sumL_zero {α : Type} : ∀ l : List α, sumL l (fun _ => 0) = 0
  | [] => rfl
  | a :: l => by rw [sumL_cons, sumL_zero l]; rfl
theorem sumL_none {α : Type} {l : List α} {f : α → Int} (h : ∀ a ∈ l, f a = 0) : sumL l f = 0 := (sumL_congr h).trans (sumL_zero l)
theorem sumL_comm {α β : Type} (f : α → β → Int) (k : List β) : ∀ l : List α, sumL l (fun a => sumL k (f a)) = sumL k (fun b => sumL l fun a => f a b)
  | [] => (sumL_zero k).symm
  | a :: l => by
    rw [sumL_cons, sumL_comm f k l, ← sumL_add]
    exact sumL_congr fun b _ => (sumL_cons a l fun a => f a b).symm
theorem sumL_nn {α : Type} {l : List α} {f : α → Int} (h : ∀ a ∈ l, 0 ≤ f a) : 0 ≤ sumL l f := by
  induction l with
  | nil => exact Int.le_refl _
  | cons a l ih =>
    rw [sumL_cons]
    have := h a List.mem_cons_self
    have := ih fun b hb => h b (List.mem_cons_of_mem _ hb)
    omega
theorem sumL_le {α : Type} {l : List α} {f g : α → Int} (h : ∀ a ∈ l, f a ≤ g a) : sumL l f ≤ sumL l g := by
  induction l with
  | nil => exact Int.le_refl _
  | cons a l ih =>
    rw [sumL_cons, sumL_cons]
    have := h a List.mem_cons_self
    have := ih fun b hb => h b (List.mem_cons_of_mem _ hb)
    omega
theorem sumL_flat {α β : Type} (g : α → List β) (f : β → Int) : ∀ l : List α, sumL (l.flatMap g) f = sumL l fun a => sumL (g a) f
  | [] => rfl
  | a :: l => by rw [List.flatMap_cons, sumL_app, sumL_cons, sumL_flat g f l]
theorem sumL_map {α β : Type} (g : α → β) (f : β → Int) (l : List α) : sumL (l.map g) f = sumL l fun a => f (g a) := by unfold sumL; rw [List.map_map]; rfl
theorem sumL_mulr {α : Type} (k : Int) (f : α → Int) (l : List α) : sumL l (fun a => f a * k) = sumL l f * k := by
  rw [Int.mul_comm, ← sumL_mul]
  exact sumL_congr fun a _ => Int.mul_comm _ _
/-! #### rows of so many numbers -/
variable (ms : List Mv)
def wtN (a : Int) : Int := (ms.getD a.toNat (0, [])).1
def nums : List Int := (List.range ms.length).map fun (i : Nat) => (i : Int)
/-- one number more, at the end -/
def stepA (ψ : List Int → Int) (r : List Int) : Int := sumL (nums ms) fun a => wtN ms a * ψ (r ++ [a])
/-- over all rows of n numbers, each by its weight -/
def rowsS : Nat → (List Int → Int) → Int
  | 0, ψ => ψ []
  | n + 1, ψ => rowsS n (stepA ms ψ)
variable {ms}
theorem mem_nums {a : Int} : a ∈ nums ms ↔ 0 ≤ a ∧ a < (ms.length : Int) := mem_ids (many := ms.length)
theorem rowsS_congr : ∀ {n : Nat} {ψ φ : List Int → Int}, (∀ r, r.length = n → (∀ a ∈ r, 0 ≤ a ∧ a < (ms.length : Int)) → ψ r = φ r) → rowsS ms n ψ = rowsS ms n φ
  | 0, _, _, h => h [] rfl fun _ h => nomatch h
  | n + 1, ψ, φ, h => rowsS_congr (n := n) fun r hl hr => sumL_congr fun a ha => by
    rw [h (r ++ [a]) (by rw [List.length_append, hl]; rfl) fun b hb => ?_]
    rcases List.mem_append.mp hb with hb | hb
    · exact hr b hb
    · rw [List.mem_singleton.mp hb]; exact mem_nums.mp ha
theorem rowsS_add : ∀ (n : Nat) (ψ φ : List Int → Int), rowsS ms n (fun r => ψ r + φ r) = rowsS ms n ψ + rowsS ms n φ
  | 0, _, _ => rfl
  | n + 1, ψ, φ => by
    show rowsS ms n (stepA ms fun r => ψ r + φ r) = rowsS ms n (stepA ms ψ) + rowsS ms n (stepA ms φ)
    rw [← rowsS_add n]
    refine congrArg (rowsS ms n) (funext fun r => ?_)
    unfold stepA
    rw [← sumL_add]
    exact sumL_congr fun a _ => Int.mul_add _ _ _
theorem rowsS_mul (k : Int) : ∀ (n : Nat) (ψ : List Int → Int), rowsS ms n (fun r => k * ψ r) = k * rowsS ms n ψ
  | 0, _ => rfl
  | n + 1, ψ => by
    show rowsS ms n (stepA ms fun r => k * ψ r) = k * rowsS ms n (stepA ms ψ)
    rw [← rowsS_mul k n]
    refine congrArg (rowsS ms n) (funext fun r => ?_)
    unfold stepA
    rw [← sumL_mul]
    exact sumL_congr fun a _ => by grind
theorem rowsS_zero (n : Nat) : rowsS ms n (fun _ => 0) = 0 := by
  have := rowsS_mul (ms := ms) 0 n (fun _ => 0)
  simpa using this
theorem rowsS_sum {α : Type} (n : Nat) (f : α → List Int → Int) : ∀ l : List α, rowsS ms n (fun r => sumL l fun a => f a r) = sumL l fun a => rowsS ms n (f a)
  | [] => rowsS_zero n
  | a :: l => by
    rw [sumL_cons, ← rowsS_sum n f l, ← rowsS_add]
    refine congrArg (rowsS ms n) (funext fun r => sumL_cons _ _ _)
/-- the first number ahead -/
theorem rowsS_front : ∀ (n : Nat) (ψ : List Int → Int), rowsS ms (n + 1) ψ = sumL (nums ms) fun a => wtN ms a * rowsS ms n fun r => ψ (a :: r)
  | 0, _ => rfl
  | n + 1, ψ => by
    show rowsS ms (n + 1) (stepA ms ψ) = _
    rw [rowsS_front n (stepA ms ψ)]
    rfl
/-- turned round -/
theorem rowsS_rev : ∀ (n : Nat) (ψ : List Int → Int), rowsS ms n (fun r => ψ r.reverse) = rowsS ms n ψ
  | 0, _ => rfl
  | n + 1, ψ => by
    rw [rowsS_front n ψ]
    have e : stepA ms (fun r => ψ r.reverse) = fun r => (fun s => sumL (nums ms) fun a => wtN ms a * ψ (a :: s)) r.reverse := funext fun r => by
      unfold stepA
      refine sumL_congr fun a _ => ?_
      show wtN ms a * ψ (r ++ [a]).reverse = _
      rw [List.reverse_append]
      rfl
    show rowsS ms n (stepA ms fun r => ψ r.reverse) = _
    rw [e]
    refine (rowsS_rev n fun s => sumL (nums ms) fun a => wtN ms a * ψ (a :: s)).trans ?_
    rw [rowsS_sum]
    exact sumL_congr fun a _ => rowsS_mul _ _ _
theorem rowsS_nn (hw : ∀ m ∈ ms, 0 ≤ m.1) : ∀ (n : Nat) {ψ : List Int → Int}, (∀ r, 0 ≤ ψ r) → 0 ≤ rowsS ms n ψ
  | 0, _, h => h []
  | n + 1, ψ, h => rowsS_nn hw n fun r => sumL_nn fun a ha => Int.mul_nonneg (by
      unfold wtN
      have := mem_nums.mp ha
      rw [List.getD_eq_getElem?_getD, List.getElem?_eq_getElem (by omega)]
      exact hw _ (List.getElem_mem _)) (h _)
theorem rowsS_le (hw : ∀ m ∈ ms, 0 ≤ m.1) (n : Nat) {ψ φ : List Int → Int} (h : ∀ r, ψ r ≤ φ r) : rowsS ms n ψ ≤ rowsS ms n φ := by
  have h1 := rowsS_nn hw n (ψ := fun r => φ r + (-1) * ψ r) fun r => by have := h r; omega
  rw [rowsS_add, rowsS_mul] at h1
  omega
/-- all moves' numbers, all moves -/
theorem sum_nums (f : Mv → Int) : (sumL (nums ms) fun a => f (ms.getD a.toNat (0, []))) = sumL ms f := by
  have e : (nums ms).map (fun a => ms.getD a.toNat (0, [])) = ms := by
    unfold nums
    rw [List.map_map]
    apply List.ext_getElem?
    intro i
    rw [List.getElem?_map]
    by_cases h : i < ms.length
    · rw [List.getElem?_range h, List.getElem?_eq_getElem h]
      show some (ms.getD ((i : Nat) : Int).toNat (0, [])) = _
      rw [Int.toNat_natCast, List.getD_eq_getElem?_getD, List.getElem?_eq_getElem h]
      rfl
    · rw [List.getElem?_eq_none (by rw [List.length_range]; omega), List.getElem?_eq_none (by omega)]
      rfl
  have h := sumL_map (fun a : Int => ms.getD a.toNat (0, [])) f (nums ms)
  rw [e] at h
  exact h.symm
variable (ms) in
/-- all weights -/
def whole : Int := sumL ms fun m => m.1
theorem stepA_const (k : Int) (r : List Int) : stepA ms (fun _ => k) r = whole ms * k := by
  unfold stepA whole
  rw [sumL_mulr]
  congr 1
  exact sum_nums (fun m => m.1)
theorem rowsS_const : ∀ (n : Nat) (k : Int), rowsS ms n (fun _ => k) = whole ms ^ n * k
  | 0, k => by rw [Int.pow_zero, Int.one_mul]; rfl
  | n + 1, k => by
    show rowsS ms n (stepA ms fun _ => k) = _
    rw [show stepA ms (fun _ => k) = fun _ => whole ms * k from funext fun r => stepA_const k r, rowsS_const n, Int.pow_succ, Int.mul_assoc]
/-! #### what is counted by keys -/
abbrev Cnt := List (List Int × Int)
def addC : Cnt → List Int → Int → Cnt
  | [], g, v => [(g, v)]
  | p :: D, g, v => if p.1 = g then (p.1, p.2 + v) :: D else p :: addC D g v
def valC (D : Cnt) (g : List Int) : Int := ((D.find? fun p => decide (p.1 = g)).map (·.2)).getD 0
def exC (D : Cnt) (φ : List Int → Int) : Int := sumL D fun p => p.2 * φ p.1
theorem exC_add (φ : List Int → Int) (g : List Int) (v : Int) : ∀ D : Cnt, exC (addC D g v) φ = exC D φ + v * φ g
  | [] => by
    show exC [(g, v)] φ = _
    unfold exC
    rw [sumL_cons, sumL_nil]
    show v * φ g + 0 = 0 + v * φ g
    omega
  | p :: D => by
    have ih := exC_add φ g v D
    unfold exC at ih ⊢
    unfold addC
    by_cases h : p.1 = g
    · rw [if_pos h, sumL_cons, sumL_cons, ← h]
      grind
    · rw [if_neg h, sumL_cons, sumL_cons, ih]
      omega
theorem addC_keys {g : List Int} {v : Int} : ∀ {D : Cnt} {k : List Int}, k ∈ (addC D g v).map (·.1) ↔ k = g ∨ k ∈ D.map (·.1)
  | [], k => by
    show k ∈ [g] ↔ _
    simp
  | p :: D, k => by
    unfold addC
    by_cases h : p.1 = g
    · rw [if_pos h, List.map_cons, List.map_cons, List.mem_cons, ← h]
      constructor
      · exact .inr
      · rintro (e | e)
        · exact .inl e
        · exact e
    · rw [if_neg h, List.map_cons, List.map_cons, List.mem_cons, List.mem_cons, addC_keys (D := D)]
      constructor
      · rintro (e | e | e)
        · exact .inr (.inl e)
        · exact .inl e
        · exact .inr (.inr e)
      · rintro (e | e | e)
        · exact .inr (.inl e)
        · exact .inl e
        · exact .inr (.inr e)
theorem addC_nodup {g : List Int} {v : Int} : ∀ {D : Cnt}, (D.map (·.1)).Nodup → ((addC D g v).map (·.1)).Nodup
  | [], _ => by
    show [g].Nodup
    simp
  | p :: D, h => by
    rw [List.map_cons, List.nodup_cons] at h
    unfold addC
    by_cases e : p.1 = g
    · rw [if_pos e, List.map_cons, List.nodup_cons]
      exact h
    · rw [if_neg e, List.map_cons, List.nodup_cons]
      exact ⟨fun z => (addC_keys.mp z).elim e h.1, addC_nodup h.2⟩
theorem valC_ex {g : List Int} : ∀ {D : Cnt}, (D.map (·.1)).Nodup → valC D g = exC D fun k => if k = g then 1 else 0
  | [], _ => rfl
  | p :: D, h => by
    rw [List.map_cons, List.nodup_cons] at h
    have ih := valC_ex (g := g) h.2
    unfold valC exC at ih ⊢
    rw [sumL_cons, List.find?_cons]
    by_cases e : p.1 = g
    · rw [decide_eq_true e]
      show p.2 = p.2 * (if p.1 = g then 1 else 0) + _
      rw [if_pos e, sumL_none fun q hq => ?_]
      · omega
      · show q.2 * (if q.1 = g then 1 else 0) = 0
        rw [if_neg fun z => h.1 (by rw [e, ← z]; exact List.mem_map.mpr ⟨q, hq, rfl⟩), Int.mul_zero]
    · rw [decide_eq_false e]
      show _ = p.2 * (if p.1 = g then 1 else 0) + _
      rw [if_neg e, Int.mul_zero, Int.zero_add]
      exact ih
theorem sum_ex (D : Cnt) : (D.map (·.2)).sum = exC D fun _ => 1 := by
  unfold exC sumL
  congr 1
  exact List.map_congr_left fun p _ => (Int.mul_one _).symm
/-- a step on: each key's weight to where moves lead it -/
def stepC (ms : List Mv) (led : Mv → List Int → List Int) (D : Cnt) : Cnt := D.foldl (fun B p => ms.foldl (fun B m => addC B (led m p.1) (p.2 * m.1)) B) []
theorem foldl_inv {α β : Type} {P : List α → β → Prop} {f : β → α → β} (l : List α) {b : β} (h0 : P [] b) (hs : ∀ pre a b, P pre b → P (pre ++ [a]) (f b a)) : P l (l.foldl f b) := by
  have : ∀ (l pre : List α) (b : β), P pre b → P (pre ++ l) (l.foldl f b) := by
    intro l
    induction l with
    | nil => intro pre b h; rw [List.append_nil]; exact h
    | cons a l ih =>
      intro pre b h
      have := ih (pre ++ [a]) (f b a) (hs pre a b h)
      rw [List.append_assoc] at this
      exact this
  exact this l [] b h0
theorem exC_moves (led : Mv → List Int → List Int) (φ : List Int → Int) (p : List Int × Int) (B : Cnt) : exC (ms.foldl (fun B m => addC B (led m p.1) (p.2 * m.1)) B) φ = exC B φ + p.2 * sumL ms fun m => m.1 * φ (led m p.1) := by
  refine foldl_inv (P := fun pre b => exC b φ = exC B φ + p.2 * sumL pre fun m => m.1 * φ (led m p.1)) ms ?_ fun pre m b h => ?_
  · rw [sumL_nil]; omega
  · rw [exC_add, h, sumL_app, sumL_cons, sumL_nil]
    grind
theorem exC_step (led : Mv → List Int → List Int) (φ : List Int → Int) (D : Cnt) : exC (stepC ms led D) φ = exC D fun g => sumL ms fun m => m.1 * φ (led m g) := by
  unfold stepC
  have := foldl_inv (P := fun pre b => exC b φ = exC pre fun g => sumL ms fun m => m.1 * φ (led m g)) (f := fun B p => ms.foldl (fun B m => addC B (led m p.1) (p.2 * m.1)) B) D (b := []) rfl fun pre p b h => ?_
  · exact this
  · rw [exC_moves, h]
    unfold exC
    rw [sumL_app, sumL_cons, sumL_nil, Int.add_zero]
theorem stepC_nodup (led : Mv → List Int → List Int) (D : Cnt) : ((stepC ms led D).map (·.1)).Nodup := by
  unfold stepC
  refine foldl_inv (P := fun _ (b : Cnt) => (b.map (fun x => x.1)).Nodup) D ?_ fun pre p b h => ?_
  · exact List.nodup_nil
  · exact foldl_inv (P := fun _ (b : Cnt) => (b.map (fun x => x.1)).Nodup) ms h fun pre m b h => addC_nodup h
theorem stepC_keys {P : List Int → Prop} (led : Mv → List Int → List Int) {D : Cnt} (h : ∀ p ∈ D, ∀ m ∈ ms, P (led m p.1)) : ∀ p ∈ stepC ms led D, P p.1 := by
  have key : ∀ b : Cnt, (∀ k ∈ b.map (·.1), P k) → ∀ p ∈ b, P p.1 := fun b hb p hp => hb _ (List.mem_map.mpr ⟨p, hp, rfl⟩)
  have inn : ∀ (p : List Int × Int) (l : List Mv) (b : Cnt), (∀ m ∈ l, P (led m p.1)) → (∀ k ∈ b.map (·.1), P k) → ∀ k ∈ (l.foldl (fun B m => addC B (led m p.1) (p.2 * m.1)) b).map (·.1), P k := by
    intro p l
    induction l with
    | nil => intro b _ hb; exact hb
    | cons m l ih =>
      intro b hl hb
      refine ih _ (fun x hx => hl x (List.mem_cons_of_mem _ hx)) fun k hk => ?_
      rcases addC_keys.mp hk with e | e
      · rw [e]; exact hl m List.mem_cons_self
      · exact hb k e
  have out : ∀ (l : Cnt) (b : Cnt), (∀ p ∈ l, ∀ m ∈ ms, P (led m p.1)) → (∀ k ∈ b.map (·.1), P k) → ∀ k ∈ (l.foldl (fun B p => ms.foldl (fun B m => addC B (led m p.1) (p.2 * m.1)) B) b).map (·.1), P k := by
    intro l
    induction l with
    | nil => intro b _ hb; exact hb
    | cons p l ih =>
      intro b hl hb
      exact ih _ (fun x hx => hl x (List.mem_cons_of_mem _ hx)) (inn p ms b (hl p List.mem_cons_self) hb)
  exact key _ (out D [] h fun k hk => nomatch hk)
/-- so many steps on -/
def cntN (ms : List Mv) (led : Mv → List Int → List Int) (g0 : List Int) : Nat → Cnt
  | 0 => [(g0, 1)]
  | n + 1 => stepC ms led (cntN ms led g0 n)
def imgR (ms : List Mv) (led : Mv → List Int → List Int) (g0 : List Int) (r : List Int) : List Int := r.foldl (fun g a => led (ms.getD a.toNat (0, [])) g) g0
theorem cntN_ex (led : Mv → List Int → List Int) (g0 : List Int) : ∀ (n : Nat) (φ : List Int → Int), exC (cntN ms led g0 n) φ = rowsS ms n fun r => φ (imgR ms led g0 r)
  | 0, φ => by
    show exC [(g0, 1)] φ = φ g0
    unfold exC
    rw [sumL_cons, sumL_nil]
    show 1 * φ g0 + 0 = φ g0
    omega
  | n + 1, φ => by
    show exC (stepC ms led (cntN ms led g0 n)) φ = rowsS ms n (stepA ms fun r => φ (imgR ms led g0 r))
    rw [exC_step, cntN_ex led g0 n]
    refine congrArg (rowsS ms n) (funext fun r => ?_)
    unfold stepA
    rw [← sum_nums]
    refine sumL_congr fun a _ => ?_
    show _ = (ms.getD a.toNat (0, [])).1 * φ (imgR ms led g0 (r ++ [a]))
    unfold imgR
    rw [List.foldl_append]
    rfl
theorem cntN_nodup (led : Mv → List Int → List Int) (g0 : List Int) : ∀ n, ((cntN ms led g0 n).map (·.1)).Nodup
  | 0 => by show [g0].Nodup; simp
  | n + 1 => stepC_nodup led _
theorem cntN_val (led : Mv → List Int → List Int) (g0 : List Int) (n : Nat) (g : List Int) : valC (cntN ms led g0 n) g = rowsS ms n fun r => if imgR ms led g0 r = g then 1 else 0 := by
  rw [valC_ex (cntN_nodup led g0 n), cntN_ex]
theorem cntN_sum (led : Mv → List Int → List Int) (g0 : List Int) (n : Nat) : ((cntN ms led g0 n).map (·.2)).sum = whole ms ^ n := by
  rw [sum_ex, cntN_ex, rowsS_const, Int.mul_one]
end
section
variable {P : Program} {w : World} {K : PySem.W.Frag} {mg : Str → Option Value} {base : Heap} {C : Addr}
/-! ### fraction -/
theorem scFr : FnScope ["top", "bottom", "shared"] ["top", "bottom"] (defScope sFraction) := ⟨rfl, rfl, rfl, by decide +kernel, rfl, by decide +kernel, by decide +kernel⟩
/-- in lowest terms, the bottom above 0 -/
def fracZ (x y : Int) : Int × Int := if y < 0 then frac (-x) (-y) else frac x y
theorem fracZ_pos {x y : Int} (h : 0 < y) : fracZ x y = frac x y := if_neg (by omega)
def spFrZ : Sp := fun vs H Q _ => ∃ (x y : Int), vs = [.int x, .int y] ∧ y ≠ 0 ∧ y.natAbs < 2 ^ 8999 ∧ ∀ t, H t = none → Q (.ref t) (upd H t (.tup [.int (fracZ x y).1, .int (fracZ x y).2]))
theorem gcd_neg (x y : Int) : gcdI (-x) (-y) = gcdI x y := by
  unfold gcdI
  rw [Int.natAbs_neg, Int.natAbs_neg]
theorem fdiv_dvd {a b : Int} (h : b ∣ a) : a.fdiv b = a / b := by
  obtain ⟨c, rfl⟩ := h
  by_cases z : b = 0
  · rw [z]; simp
  · rw [Int.mul_fdiv_cancel_left _ z, Int.mul_ediv_cancel_left _ z]
theorem ok_fractionZ {f : Addr} {fd : FuncData} {k : Nat} (F : Fun K "fraction" "fraction" sFraction f fd) (mgcd : mg "gcd" = some (.builtin "math.gcd")) : FnOk P w K mg base CX0 (k + 1) f fd ["top", "bottom"] spFrZ := by
  refine F.ok scFr (fun vs H Q E h => ?_) (fun cdv A outer s H vs Q E hr h => ?_)
  · obtain ⟨x, y, rfl, _⟩ := h
    rfl
  · obtain ⟨x, y, rfl, h1, h2, q⟩ := h
    refine ⟨_, (pss_cons (ps_set (i := 2) scFr.nd rfl (.inl rfl) (pe_callBfun cr_gcd (by rfl) mgcd (pa_cons (pv 0) (pa_cons (pv 1) pa_nil))))
      (pss_cons (ps_if (pt_cmpR op_lt (pv 1) pe_int (nomark _)) (pss_one (ps_set (i := 2) scFr.nd rfl (.inl rfl) (pe_un un_neg (pv 2)))) pss_nil)
      (pss_one (ps_ret (pe_tup (pa_cons (pe_op op_fdivZ (pv 0) (pv 2)) (pa_cons (pe_op op_fdivZ (pv 1) (pv 2)) pa_nil))))))), ?_⟩
    have g0 : 0 < gcdI x y := by
      unfold gcdI
      have : 0 < Nat.gcd x.natAbs y.natAbs := Nat.gcd_pos_of_pos_right _ (by omega)
      omega
    have gl : (gcdI x y).natAbs < 2 ^ 8999 := by
      refine Nat.lt_of_le_of_lt ?_ h2
      unfold gcdI
      rw [Int.natAbs_natCast]
      exact Nat.le_of_dvd (by omega) (Nat.gcd_dvd_right _ _)
    have gn : (-gcdI x y).natAbs < 2 ^ 8999 := by rw [Int.natAbs_neg]; exact gl
    refine ⟨.int x, rfl, .int y, rfl, x, y, rfl, ?_⟩
    refine ⟨.int y, rfl, y, 0, rfl, rfl, _, rfl, ite2 (fun e => ?_) (fun e => ?_)⟩
    · have e2 : y < 0 := of_decide_eq_true e
      refine ⟨.int (gcdI x y), rfl, gcdI x y, rfl, ?_⟩
      refine ⟨.int x, rfl, .int (-gcdI x y), rfl, x, -gcdI x y, rfl, rfl, div_ok (by omega) gn (by decide) (by decide), .int y, rfl, .int (-gcdI x y), rfl, y, -gcdI x y, rfl, rfl, div_ok (by omega) gn (by decide) (by decide), (by show 2 ≤ sizeLine; decide), fun t nt => ?_⟩
      have e3 : x.fdiv (-gcdI x y) = (fracZ x y).1 := by
        unfold fracZ
        rw [if_pos e2, fdiv_dvd (Int.neg_dvd.mpr (gcdI_dl x y))]
        show _ = (-x) / gcdI (-x) (-y)
        rw [gcd_neg, Int.ediv_neg, Int.neg_ediv_of_dvd (gcdI_dl x y)]
      have e4 : y.fdiv (-gcdI x y) = (fracZ x y).2 := by
        unfold fracZ
        rw [if_pos e2, fdiv_dvd (Int.neg_dvd.mpr (gcdI_dr x y))]
        show _ = (-y) / gcdI (-x) (-y)
        rw [gcd_neg, Int.ediv_neg, Int.neg_ediv_of_dvd (gcdI_dr x y)]
      have := q t nt
      rw [← e3, ← e4] at this
      exact this
    · have e2 : ¬ y < 0 := fun z => e (decide_eq_true z)
      refine ⟨.int x, rfl, .int (gcdI x y), rfl, x, gcdI x y, rfl, rfl, div_ok (by omega) gl (by decide) (by decide), .int y, rfl, .int (gcdI x y), rfl, y, gcdI x y, rfl, rfl, div_ok (by omega) gl (by decide) (by decide), (by show 2 ≤ sizeLine; decide), fun t nt => ?_⟩
      have e3 : x.fdiv (gcdI x y) = (fracZ x y).1 := by
        unfold fracZ
        rw [if_neg e2, fdiv_dvd (gcdI_dl x y)]
        rfl
      have e4 : y.fdiv (gcdI x y) = (fracZ x y).2 := by
        unfold fracZ
        rw [if_neg e2, fdiv_dvd (gcdI_dr x y)]
        rfl
      have := q t nt
      rw [← e3, ← e4] at this
      exact this
/-! ### a dict of what is counted -/
def encC (D : Cnt) : List (List Key × V) := D.map fun p => (p.1.map Sum.inl, V.int p.2)
theorem encC_vals (D : Cnt) : (encC D).map (·.2) = (D.map (·.2)).map V.int := by
  unfold encC
  rw [List.map_map, List.map_map]
  rfl
theorem encC_len (D : Cnt) : (encC D).length = D.length := by unfold encC; rw [List.length_map]
theorem keyI_inj : ∀ {g k : List Int}, g.map (Sum.inl (β := Str)) = k.map Sum.inl → g = k
  | [], [], _ => rfl
  | [], _ :: _, h => nomatch h
  | _ :: _, [], h => nomatch h
  | a :: g, b :: k, h => by
    rw [List.map_cons, List.map_cons] at h
    injection h with h1 h2
    injection h1 with h1
    rw [h1, keyI_inj h2]
theorem encC_get (g : List Int) : ∀ D : Cnt, (valV (encC D) (g.map Sum.inl)).getD (.int 0) = .int (valC D g)
  | [] => rfl
  | p :: D => by
    have ih := encC_get g D
    by_cases h : p.1 = g
    · have e : (valV (encC (p :: D)) (g.map Sum.inl)) = some (.int p.2) := valV_pos (p := (p.1.map Sum.inl, V.int p.2)) (by rw [h])
      rw [e]
      unfold valC
      rw [List.find?_cons, decide_eq_true h]
      rfl
    · have e : (valV (encC (p :: D)) (g.map Sum.inl)) = valV (encC D) (g.map Sum.inl) := valV_neg (p := (p.1.map Sum.inl, V.int p.2)) fun z => h (keyI_inj z)
      rw [e, ih]
      unfold valC
      rw [List.find?_cons, decide_eq_false h]
theorem valC_cons_ne {p : List Int × Int} {D : Cnt} {g : List Int} (h : ¬ p.1 = g) : valC (p :: D) g = valC D g := by
  unfold valC
  rw [List.find?_cons, decide_eq_false h]
theorem map_same {D : Cnt} {g : List Int} {y : V} (h : g ∉ D.map (·.1)) : (encC D).map (fun kv => if kv.1 = g.map Sum.inl then (kv.1, y) else kv) = encC D := by
  unfold encC
  rw [List.map_map]
  refine List.map_congr_left fun p hp => ?_
  show (if p.1.map Sum.inl = g.map Sum.inl then _ else _) = _
  rw [if_neg fun z => h (by rw [← keyI_inj z]; exact List.mem_map.mpr ⟨p, hp, rfl⟩)]
theorem encC_put {g : List Int} {v : Int} : ∀ {D : Cnt}, (D.map (·.1)).Nodup → putK (encC D) (g.map Sum.inl) (.int (valC D g + v)) = encC (addC D g v)
  | [], _ => by
    show putK [] _ _ = encC [(g, v)]
    have : valC [] g + v = v := by show (0 : Int) + v = v; omega
    rw [this]
    rfl
  | p :: D, h => by
    rw [List.map_cons, List.nodup_cons] at h
    by_cases e : p.1 = g
    · have pe : p.1.map (Sum.inl (β := Str)) = g.map Sum.inl := by rw [e]
      unfold addC
      rw [if_pos e]
      unfold putK
      have a : ((encC (p :: D)).any fun kv => decide (kv.1 = g.map Sum.inl)) = true := by
        show (decide (p.1.map Sum.inl = g.map Sum.inl) || _) = true
        rw [decide_eq_true pe]
        rfl
      rw [if_pos a]
      show (if p.1.map Sum.inl = g.map Sum.inl then _ else _) :: (encC D).map _ = _
      rw [map_same (by rw [← e]; exact h.1), if_pos pe]
      have : valC (p :: D) g = p.2 := by
        unfold valC
        rw [List.find?_cons, decide_eq_true e]
        rfl
      rw [this]
      rfl
    · have ih := encC_put (g := g) (v := v) h.2
      have ne : ¬ p.1.map (Sum.inl (β := Str)) = g.map Sum.inl := fun z => e (keyI_inj z)
      rw [valC_cons_ne e]
      unfold addC
      rw [if_neg e]
      show _ = (p.1.map Sum.inl, V.int p.2) :: encC (addC D g v)
      rw [← ih]
      unfold putK
      have a : ((encC (p :: D)).any fun kv => decide (kv.1 = g.map Sum.inl)) = ((encC D).any fun kv => decide (kv.1 = g.map Sum.inl)) := by
        show (decide (p.1.map Sum.inl = g.map Sum.inl) || _) = _
        rw [decide_eq_false ne]
        rfl
      rw [a]
      by_cases b : ((encC D).any fun kv => decide (kv.1 = g.map Sum.inl)) = true
      · rw [if_pos b, if_pos b]
        show (if p.1.map Sum.inl = g.map Sum.inl then _ else _) :: _ = _
        rw [if_neg ne]
        rfl
      · rw [if_neg b, if_neg b]
        rfl
end
section
variable {P : Program} {w : World} {K : PySem.W.Frag} {mg : Str → Option Value} {base : Heap} {C : Addr}
/-! ### _behind_a_step -/
def ledM (many : Nat) (m : Mv) (g : List Int) : List Int := ledG many m.2 g
theorem scBs : FnScope ["moves", "weights", "behind", "group", "weight", "more", "whither", "led"] ["moves", "weights"] (defScope sBehindAStep) := ⟨rfl, rfl, rfl, by decide +kernel, rfl, by decide +kernel, by decide +kernel⟩
/-- keys that are groups, each once -/
def CntG (many : Nat) (D : Cnt) : Prop := (D.map (·.1)).Nodup ∧ ∀ p ∈ D, goodG many p.1
theorem CntG.len {many : Nat} {D : Cnt} (h : CntG many D) (m6 : many ≤ 6) : D.length ≤ 64 := by
  have hp := pigeon (m := subs (ids many)) h.1 fun g hg => by
    obtain ⟨p, hp, rfl⟩ := List.mem_map.mp hg
    obtain ⟨g1, g2⟩ := h.2 p hp
    exact mem_subs (ids_pair many) g1 fun k hk => mem_ids.mpr (g2 k hk)
  rw [subs_len, List.length_map] at hp
  have e : (ids many).length = many := by
    unfold ids
    rw [List.length_map, List.length_range]
  rw [e] at hp
  exact Nat.le_trans hp (Nat.pow_le_pow_right (n := 2) (by decide) m6)
theorem CntG.nil (many : Nat) : CntG many [] := ⟨List.nodup_nil, fun _ h => nomatch h⟩
theorem CntG.add {many : Nat} {D : Cnt} (h : CntG many D) {g : List Int} (hg : goodG many g) (v : Int) : CntG many (addC D g v) := by
  refine ⟨addC_nodup h.1, fun p hp => ?_⟩
  rcases addC_keys.mp (List.mem_map.mpr ⟨p, hp, rfl⟩) with e | e
  · rw [e]; exact hg
  · obtain ⟨q, hq, e⟩ := List.mem_map.mp e
    rw [← e]
    exact h.2 q hq
theorem foldl_snoc {α β : Type} {f : β → α → β} {b : β} {l : List α} {i : Nat} {a : α} (h : l[i]? = some a) : (l.take (i + 1)).foldl f b = f ((l.take i).foldl f b) a := by
  rw [take_snoc h, List.foldl_append]
  rfl
theorem encC_at {D : Cnt} {i : Nat} {k : List Key} {v : V} (h : (encC D)[i]? = some (k, v)) : ∃ p, D[i]? = some p ∧ k = p.1.map Sum.inl ∧ v = .int p.2 := by
  unfold encC at h
  rw [List.getElem?_map] at h
  obtain ⟨p, hp, e⟩ := Option.map_eq_some_iff.mp h
  cases e
  exact ⟨p, hp, rfl, rfl⟩
theorem walk_itemsT {d : Addr} {o : Obj} {kvs : List (List Key × V)} : L2.Walk (ItiT d o kvs) kvs.length (fun H => H d = some (.frz o (.dT kvs)))
    (fun i H x H' => ∃ (T q : Addr) (k : List Key) (v : V), kvs[i]? = some (k, v) ∧ x = .ref T ∧ H T = none ∧ H q = some (.tup (k.map kV)) ∧ H' = upd H T (.tup [.ref q, v])) :=
  ⟨fun _ _ hi q => ⟨q, hi⟩, fun _ q => ⟨q, Nat.le_refl _⟩, fun _ _ _ _ _ _ y => y⟩
theorem key_intsC (g : List Int) : (g.map (Sum.inl (β := Str))).map kV = g.map V.int := by
  rw [List.map_map]
  rfl
def spBs : Sp := fun vs H Q _ => ∃ (m d : Addr) (many : Nat) (ws : List V) (ms : List Mv) (D : Cnt), vs = [.ref m, .ref d] ∧ H m = some (.lst ws) ∧ MovesAt H ws ms ∧ Good many ms ∧ H d = some (.dT (encC D)) ∧ CntG many D ∧
  ∀ b H', Gr d H H' → H b = none → H' b = some (.dT (encC (stepC ms (ledM many) D))) → Q (.ref b) H'
theorem ok_bs {f fL : Addr} {fd fdL : FuncData} (F : Fun K "_behind_a_step" "_behind_a_step" sBehindAStep f fd) (DL : Df K mg "led_to" sLedTo ["whither", "group"] fL fdL) (mt : mg "tuple" = none) (ms' : mg "sorted" = none) : FnOk P w K mg base CX0 2 f fd ["moves", "weights"] spBs := by
  have GL : FnOk P w K mg base CX0 1 fL fdL ["whither", "group"] spLed := ok_led DL.F mt ms'
  refine F.ok scBs (fun vs H Q E h => ?_) (fun cdv A outer s H vs Q E hr h => ?_)
  · obtain ⟨m, d, many, ws, ms, D, rfl, _⟩ := h
    rfl
  · obtain ⟨m, d, many, ws, ms, D, rfl, hm, hM, G, hd, hc, q⟩ := h
    have r1 : Room 1 _ := hr
    have hu1 := hu_of hr
    refine ⟨_, (pss_cons (ps_set (i := 2) scBs.nd rfl (.inl rfl) pe_dnewT)
      (pss_cons (ps_for PassesOwn.never rfl (pi_itemsT (pe_frz (pv 1))) (pg_tup rfl (pgs_cons (pg_name (i := 3) scBs.nd rfl (.inl rfl)) (pgs_cons (pg_name (i := 4) scBs.nd rfl (.inl rfl)) pgs_nil))) (pss_one (ps_for PassesOwn.never rfl (pi_list (pv 0)) (pg_tup rfl (pgs_cons (pg_name (i := 5) scBs.nd rfl (.inl rfl)) (pgs_cons (pg_name (i := 6) scBs.nd rfl (.inl rfl)) pgs_nil))) (pss_cons (ps_set (i := 7) scBs.nd rfl (.inl rfl) (pe_call GL r1 (by rfl) DL.g DL.F.kp DL.b .nil pass0 (pa_cons (pv 6) (pa_cons (pv 3) pa_nil))))
      (pss_one (ps_dput (hu1) (pv 2) (pv 7) (pe_op op_add (pe_dget2 hu1 (pv 2) (pv 7) pe_int ⟨by rfl, by rfl, by rfl, by rfl⟩) (pe_op op_mul (pv 4) (pv 5))) rfl))))))
      (pss_one (ps_ret (pv 2))))), ?_⟩
    have m6 := G.m6
    have lD := hc.len m6
    refine fun B nB => ?_
    have s1 := same_new (o := .dT []) nB
    have hB1 : (upd H B (.dT [])) B = some (.dT (encC [])) := upd_same
    have hd1 := s1 _ _ hd
    have ndB : d ≠ B := ne_of_none hd nB
    have hm1 := s1 _ _ hm
    have hM1 : MovesAt (upd H B (.dT [])) ws ms := hM.same (Same.tups s1)
    show tSeq _ _ _ _ (upd H B (.dT []))
    generalize upd H B (.dT []) = H1 at s1 hB1 hd1 hm1 hM1 ⊢
    refine ⟨.ref d, rfl, d, _, rfl, hd1, True.intro, fun od => ⟨d, od, encC D, rfl, upd_same, ?_⟩⟩
    have kF : ∀ b o, b ≠ d → H1 b = some o → (upd H1 d (.frz od (.dT (encC D)))) b = some o := fun b o nb e => by rw [upd_ne nb]; exact e
    have hdF : (upd H1 d (.frz od (.dT (encC D)))) d = some (.frz od (.dT (encC D))) := upd_same
    have nmd : m ≠ d := fun z => by rw [z, hd] at hm; cases hm
    have hmF := kF _ _ nmd hm1
    have hMF : MovesAt (upd H1 d (.frz od (.dT (encC D)))) ws ms := hM1.same fun b xs e => kF _ _ (fun z => by rw [z, hd1] at e; cases e) e
    have hBF := kF _ _ ndB.symm hB1
    have gF : Gr d H (upd H1 d (.frz od (.dT (encC D)))) := fun b o nb e => kF _ _ nb (s1 _ _ e)
    generalize upd H1 d (.frz od (.dT (encC D))) = HF at kF hdF hmF hMF hBF gF ⊢
    have nmB : m ≠ B := fun z => by rw [z] at hm; rw [hm] at nB; cases nB
    let outer : Cnt → List Int × Int → Cnt := fun X p => ms.foldl (fun X m => addC X (ledM many m p.1) (p.2 * m.1)) X
    refine for_it walk_itemsT (fun i σ H' => ∃ y3 y4 y5 y6 y7, σ = [some (.ref m), some (.ref d), some (.ref B), y3, y4, y5, y6, y7] ∧ (∀ b o, b ≠ B → HF b = some o → H' b = some o) ∧ H' B = some (.dT (encC ((D.take i).foldl outer []))) ∧ CntG many ((D.take i).foldl outer []))
      ⟨none, none, none, none, none, rfl, fun _ _ _ e => e, by rw [List.take_zero]; exact hBF, by rw [List.take_zero]; exact CntG.nil many⟩ (fun i σ H' _ ⟨_, _, _, _, _, _, k, _⟩ => k _ _ ndB hdF) ?_ ?_
    · rintro i x σ H2 H2' hi ⟨y3, y4, y5, y6, y7, rfl, k2, hB2, hc2⟩ ⟨T, qa, k, v, ekv, rfl, nT, hqa, rfl⟩
      obtain ⟨p, hp, rfl, rfl⟩ := encC_at ekv
      have gp := hc.2 p (List.mem_of_getElem? hp)
      have hq : H2 qa = some (.tup (p.1.map V.int)) := by rw [hqa, key_intsC]
      have sT := same_new (o := .tup [.ref qa, .int p.2]) nT
      refine ⟨T, [.ref qa, .int p.2], rfl, SqT.of upd_same, rfl, .ref qa, [.int p.2], rfl, .int p.2, [], rfl, rfl, ?_⟩
      have k3 : ∀ b o, b ≠ B → HF b = some o → (upd H2 T (.tup [.ref qa, .int p.2])) b = some o := fun b o nb e => sT _ _ (k2 b o nb e)
      have hB3 := sT _ _ hB2
      have hq3 := sT _ _ hq
      generalize upd H2 T (.tup [.ref qa, .int p.2]) = H3 at k3 hB3 hq3 ⊢
      have nqB : qa ≠ B := fun z => by rw [z, hB3] at hq3; cases hq3
      refine ⟨.ref m, rfl, m, rfl, ⟨_, SqL.of (k3 _ _ nmB hmF)⟩, ?_⟩
      refine for_list (K := K) (a := m) (xs := ws) (fun j σ H' => ∃ y5 y6 y7, σ = [some (.ref m), some (.ref d), some (.ref B), some (.ref qa), some (.int p.2), y5, y6, y7] ∧ (∀ b o, b ≠ B → H3 b = some o → H' b = some o) ∧
          H' B = some (.dT (encC ((ms.take j).foldl (fun X m => addC X (ledM many m p.1) (p.2 * m.1)) ((D.take i).foldl outer [])))) ∧ CntG many ((ms.take j).foldl (fun X m => addC X (ledM many m p.1) (p.2 * m.1)) ((D.take i).foldl outer [])))
        ⟨y5, y6, y7, rfl, fun _ _ _ e => e, by rw [List.take_zero]; exact hB3, by rw [List.take_zero]; exact hc2⟩ (fun j σ H' _ ⟨_, _, _, _, k, _⟩ => SqL.of (k _ _ nmB (k3 _ _ nmB hmF))) ?_ ?_
      · rintro j v σ H4 hv ⟨y5, y6, y7, rfl, k4, hB4, hc4⟩
        obtain ⟨mv, emv, ta, tb, rfl, hta, htb⟩ := hMF.get' hv
        have gm := G.mv mv (List.mem_of_getElem? emv)
        have nta : ta ≠ B := fun z => by rw [z, hBF] at hta; cases hta
        have ntb : tb ≠ B := fun z => by rw [z, hBF] at htb; cases htb
        have hta4 := k4 _ _ nta (k3 _ _ nta hta)
        have htb4 := k4 _ _ ntb (k3 _ _ ntb htb)
        have hq4 := k4 _ _ nqB hq3
        refine ⟨ta, _, rfl, SqT.of hta4, rfl, _, _, rfl, _, _, rfl, rfl, ?_⟩
        refine ⟨.ref tb, rfl, .ref qa, rfl, tb, qa, many, mv.2, p.1, rfl, htb4, hq4, m6, gm.2.2, gp, fun L H5 s5 nL hL => ?_⟩
        have hB5 := s5 _ _ hB4
        have hk5 : H5 L = some (.tup ((((ledM many mv p.1).map (Sum.inl (β := Str)))).map kV)) := by rw [key_intsC]; exact hL
        refine ⟨.ref B, rfl, B, rfl, .inr ⟨_, .inl hB5⟩, .ref L, rfl, _, DGet.t hB5 hk5, ?_⟩
        rw [encC_get]
        have g99 := gm.2.1
        have g1 := gm.1
        refine ⟨.int p.2, rfl, .int mv.1, rfl, p.2, mv.1, rfl, rfl, .inr ⟨by omega, by omega⟩, _, _, rfl, rfl, ?_⟩
        have l64 := hc4.len m6
        refine ⟨.ref B, rfl, .ref L, rfl, B, _, rfl, DPut.t hB5 hk5 (lt1k (by rw [encC_len]; omega)), ?_⟩
        refine ⟨_, _, _, rfl, fun b o nb e => by rw [upd_ne nb]; exact s5 _ _ (k4 b o nb e), ?_, ?_⟩
        · rw [upd_same, foldl_snoc emv]
          exact congrArg (fun z => some (HO.dT z)) (encC_put hc4.1)
        · rw [foldl_snoc emv]
          exact hc4.add (ledG_good many mv.2 p.1) _
      · rintro σ H4 ⟨y5, y6, y7, rfl, k4, hB4, hc4⟩
        rw [hM.length, List.take_length] at hB4 hc4
        refine ⟨_, _, _, _, _, rfl, fun b o nb e => k4 b o nb (k3 b o nb e), ?_, ?_⟩
        · rw [foldl_snoc hp]
          exact hB4
        · rw [foldl_snoc hp]
          exact hc4
    · rintro σ H2 ⟨y3, y4, y5, y6, y7, rfl, k2, hB2, hc2⟩
      rw [encC_len, List.take_length] at hB2
      exact ⟨.ref B, rfl, q B H2 (fun b o nb e => k2 b o (ne_of_none e nB) (gF b o nb e)) nB hB2⟩
end
section
/-! ### fractions that are told -/
def FracAt (H : Hp) (v : V) (p : Int × Int) : Prop := ∃ t, v = .ref t ∧ H t = some (.tup [.int p.1, .int p.2])
theorem FracAt.same {H H' : Hp} {v : V} {p : Int × Int} (s : Same H H') (h : FracAt H v p) : FracAt H' v p := by
  obtain ⟨t, e, h⟩ := h
  exact ⟨t, e, s _ _ h⟩
theorem dp_pair {K : PySem.W.Frag} {H : Hp} {t : Addr} {p : Int × Int} (h : H t = some (.tup [.int p.1, .int p.2])) : Dp K H (.ref t) (.tuple [.int p.1, .int p.2]) := .tup (SqT.of h) (.cons (.int _) (.cons (.int _) .nil))
theorem shaped_pair (p : Int × Int) : SeqAt.shaped (.tuple [.int p.1, .int p.2]) = true := rfl
theorem eqv_pair (p r : Int × Int) : PyData.eqv (.tuple [.int p.1, .int p.2]) (.tuple [.int r.1, .int r.2]) = decide (p = r) := by
  have e : PyData.eqv (.tuple [.int p.1, .int p.2]) (.tuple [.int r.1, .int r.2]) = (p.1 == r.1 && (p.2 == r.2 && true)) := rfl
  rw [e, Bool.and_true]
  obtain ⟨a, b⟩ := p
  obtain ⟨c, d⟩ := r
  by_cases h1 : a = c <;> by_cases h2 : b = d <;> simp [h1, h2]
end
section
variable {P : Program} {w : World} {K : PySem.W.Frag} {mg : Str → Option Value} {base : Heap} {C : Addr}
theorem scEv : FnScope ["chain"] ["chain"] (defScope sEverywhere) := ⟨rfl, rfl, rfl, by decide +kernel, rfl, by decide +kernel, by decide +kernel⟩
def spEv (C : Addr) : Sp := fun vs H Q _ => ∃ (x : Addr) (many : Nat) (ms : List Mv), vs = [.ref x] ∧ ChainAt C H x many ms ∧ Good many ms ∧ ∀ a H', Same H H' → H' a = some (.tup ((ids many).map V.int)) → Q (.ref a) H'
theorem ok_ev {f fP fT : Addr} {fd fdP fdT : FuncData} (F : Fun K "everywhere" "everywhere" sEverywhere f fd) (T : ChM K C fP fT fdP fdT) (mt : mg "tuple" = none) (mr : mg "range" = none) : FnOk P w K mg base CX0 2 f fd ["chain"] (spEv C) := by
  have GP : FnOk P w K mg base CX0 1 fP fdP ["self"] (spPlaces C) := ok_places T.FP T.cl T.nM
  refine F.ok scEv (fun vs H Q E h => ?_) (fun cdv A outer s H vs Q E hr h => ?_)
  · obtain ⟨x, many, ms, rfl, _⟩ := h
    rfl
  · obtain ⟨x, many, ms, rfl, hC, G, q⟩ := h
    refine ⟨_, (pss_one (ps_ret (pe_tupRg rfl (by rfl) mt (prg_1 (by rfl) mr (pe_meth0 (pv 0) T.cl T.hP GP hr T.bP .nil pass0))))), ?_⟩
    have m6 := G.m6
    obtain ⟨dx, a0, ws, h1, h2, h3⟩ := id hC
    refine ⟨.ref x, rfl, x, dx, _, rfl, h1, ch_no, x, many, ms, rfl, hC, _, rfl, RgOk.of_le (by omega) (by omega) (by omega) (by omega), fun a na => ?_⟩
    rw [rg_ends]
    exact q a _ (same_new na) upd_same
end
section
variable {P : Program} {w : World} {K : PySem.W.Frag} {mg : Str → Option Value} {base : Heap} {C : Addr}
/-! ### shares -/
theorem whole_pos {many : Nat} {ms : List Mv} (G : Good many ms) : 1 ≤ whole ms := by
  have l1 := G.l1
  obtain ⟨m, r, rfl⟩ := List.exists_cons_of_length_pos (Nat.lt_of_lt_of_le (by decide) l1)
  unfold whole
  rw [sumL_cons]
  have h1 := (G.mv m List.mem_cons_self).1
  have h2 := sumL_nn (l := r) (f := fun m => m.1) fun a ha => by have := (G.mv a (List.mem_cons_of_mem _ ha)).1; omega
  omega
theorem sumL_most {α : Type} {l : List α} {f : α → Int} {b : Int} (h : ∀ a ∈ l, f a ≤ b) : sumL l f ≤ l.length * b := by
  induction l with
  | nil => rw [sumL_nil, List.length_nil]; omega
  | cons a l ih =>
    rw [sumL_cons, List.length_cons]
    have := h a List.mem_cons_self
    have := ih fun x hx => h x (List.mem_cons_of_mem _ hx)
    rw [Int.natCast_add, Int.add_mul]
    omega
theorem whole_le {many : Nat} {ms : List Mv} (G : Good many ms) : whole ms ≤ 792 := by
  have l8 := G.l8
  have := sumL_most (l := ms) (f := fun m => m.1) (b := 99) fun m hm => (G.mv m hm).2.1
  unfold whole
  omega
theorem pow_big {W : Int} (h1 : 1 ≤ W) (h2 : W ≤ 792) {n : Nat} (hn : n ≤ 20) : 0 < W ^ n ∧ (W ^ n).natAbs < 2 ^ 210 := by
  have p : 0 < W ^ n := Int.pow_pos (by omega)
  refine ⟨p, ?_⟩
  rw [Int.natAbs_pow]
  have h3 : W.natAbs ≤ 2 ^ 10 := by
    rw [show (2 : Nat) ^ 10 = 1024 from rfl]
    omega
  refine Nat.lt_of_le_of_lt (Nat.pow_le_pow_left h3 n) ?_
  rw [← Nat.pow_mul]
  exact Nat.pow_lt_pow_right (by decide) (by omega)
theorem GoodMv.w0 {many : Nat} {ms : List Mv} (G : Good many ms) : ∀ m ∈ ms, 0 ≤ m.1 := fun m hm => by
  have := (G.mv m hm).1
  omega
theorem foldL_good {many : Nat} {ms : List Mv} : ∀ (r : List Int) {g : List Int}, goodG many g → goodG many (imgR ms (ledM many) g r)
  | [], _, h => h
  | a :: r, g, _ => foldL_good r (ledG_good many _ g)
theorem cntN_good {many : Nat} (ms : List Mv) : ∀ n, CntG many (cntN ms (ledM many) (ids many) n)
  | 0 => ⟨by show [ids many].Nodup; simp, fun p hp => by rw [List.mem_singleton.mp hp]; exact ids_good many⟩
  | n + 1 => ⟨stepC_nodup _ _, stepC_keys (P := goodG many) _ fun p hp m hm => ledG_good many m.2 p.1⟩
/-- so much of the rows of n numbers draws p -/
def shrN (many : Nat) (ms : List Mv) (n : Nat) (p : Int) : Int := valC (cntN ms (ledM many) (ids many) n) [p]
def restN (many : Nat) (ms : List Mv) (n : Nat) : Int := whole ms ^ n - sumL (ids many) (shrN many ms n)
def SharesAt (H : Hp) (t : Addr) (many : Nat) (ms : List Mv) (n : Nat) : Prop := ∃ l r us, H t = some (.tup [.ref l, r]) ∧ H l = some (.lst us) ∧ Paired (fun u p => FracAt H u (frac (shrN many ms n p) (whole ms ^ n))) us (ids many) ∧ FracAt H r (frac (restN many ms n) (whole ms ^ n))
theorem scSh : FnScope ["chain", "far", "weights", "_", "total", "ones", "place", "one"] ["chain", "far"] (defScope sShares) := ⟨rfl, rfl, rfl, by decide +kernel, rfl, by decide +kernel, by decide +kernel⟩
def spSh (C : Addr) : Sp := fun vs H Q _ => ∃ (x : Addr) (many : Nat) (ms : List Mv) (n : Nat), vs = [.ref x, .int (n : Int)] ∧ ChainAt C H x many ms ∧ Good many ms ∧ n ≤ 20 ∧ ∀ t H', Same H H' → SharesAt H' t many ms n → Q (.ref t) H'
theorem ok_shares {f fE fB fL fF fP fT : Addr} {fd fdE fdB fdL fdF fdP fdT : FuncData} {tF : Tok} (F : Fun K "shares" "shares" sShares f fd) (T : ChM K C fP fT fdP fdT) (DEv : Df K mg "everywhere" sEverywhere ["chain"] fE fdE) (GEv : FnOk P w K mg base CX0 2 fE fdE ["chain"] (spEv C))
    (DBs : Df K mg "_behind_a_step" sBehindAStep ["moves", "weights"] fB fdB) (DL : Df K mg "led_to" sLedTo ["whither", "group"] fL fdL) (DFr : Df K mg "fraction" sFraction ["top", "bottom"] fF fdF) (mgcd : mg "gcd" = some (.builtin "math.gcd")) (gF : mg "MOST_FAR" = some (.int 20 tF))
    (mt : mg "tuple" = none) (ms' : mg "sorted" = none) (mr : mg "range" = none) (mSu : mg "sum" = none) (mL : mg "list" = none) : FnOk P w K mg base CX0 3 f fd ["chain", "far"] (spSh C) := by
  have GBs : FnOk P w K mg base CX0 2 fB fdB ["moves", "weights"] spBs := ok_bs DBs.F DL mt ms'
  have GFr : FnOk P w K mg base CX0 1 fF fdF ["top", "bottom"] spFrZ := ok_fractionZ DFr.F mgcd
  have GP : FnOk P w K mg base CX0 1 fP fdP ["self"] (spPlaces C) := ok_places T.FP T.cl T.nM
  have GT : FnOk P w K mg base CX0 1 fT fdT ["self"] (spTold C) := ok_told T.FT T.cl T.nV mL
  refine F.ok scSh (fun vs H Q E h => ?_) (fun cdv A outer s H vs Q E hr h => ?_)
  · obtain ⟨x, many, ms, n, rfl, _⟩ := h
    rfl
  · obtain ⟨x, many, ms, n, rfl, hC, G, hn, q⟩ := h
    have r1 : Room 1 _ := hr.mono (by decide)
    have r2 : Room 2 _ := hr.mono (by decide)
    have hu1 := hu_of hr
    refine ⟨_, (pss_cons (ps_if (pt_cmpR op_notIn_rng (pv 1) (pe_callTy cr_range1 (by rfl) mr (by decide +kernel) (pa_cons (pe_op op_add (pe_glob (v := .int 20) (by rfl) gF ⟨_, rfl⟩) pe_int) pa_nil)) (by with_unfolding_all rfl)) pss_never pss_nil)
      (pss_cons (ps_set (i := 2) scSh.nd rfl (.inr rfl) (pe_disp1T hu1 (pps_cons (pe_call GEv r2 (by rfl) DEv.g DEv.F.kp DEv.b .nil pass0 (pa_cons (pv 0) pa_nil)) pe_int pps_nil)))
      (pss_cons (ps_for PassesOwn.never rfl (pi_range1 (by rfl) mr (pa_cons (pv 1) pa_nil)) (pg_name (i := 3) scSh.nd rfl (.inl rfl)) (pss_one (ps_set (i := 2) scSh.nd rfl (.inr rfl) (pe_call GBs r2 (by rfl) DBs.g DBs.F.kp DBs.b .nil pass0 (pa_cons (pe_meth0 (pv 0) T.cl T.hT GT r1 T.bT .nil pass0) (pa_cons (pv 2) pa_nil))))))
      (pss_cons (ps_set (i := 4) scSh.nd rfl (.inr rfl) (pe_sumVals rfl (by rfl) mSu (pv 2)))
      (pss_cons (ps_setLc (i := 5) (own := [("place", 6)]) (g := gName 6) (tt := tYes) (te := (tDGet2 (tVar 2) (tTup (tCons (tVar 6) tNil)) (tC (.int 0)))) rfl scSh.nd rfl rfl (sw_true rfl rfl rfl (by decide +kernel)) (pi_range1 (by rfl) mr (pa_cons (pe_meth0 (pv 0) T.cl T.hP GP r1 T.bP .nil pass0) pa_nil)) (blkOk_by (N := ["chain", "far", "weights", "_", "total", "ones", "place", "one"]) (sc := defScope sShares) (by decide +kernel)) (fun _ _ _ _ _ => by exact (pg_name (i := 6) scSh.nd rfl (.inl rfl))) (fun _ _ _ _ _ => pts_nil) (fun _ _ _ _ _ => by exact (pe_dget2 hu1 (pv 2) (pe_tup (pa_cons (pv 6) pa_nil)) pe_int ⟨by rfl, by rfl, by rfl, by rfl⟩)))
      (pss_one (ps_ret (pe_tup (pa_cons (pe_lc (own := [("one", 7)]) (g := gName 7) (tt := tYes) (te := (tCall spFrZ [] E0 (tCons (tVar 7) (tCons (tVar 4) tNil)))) rfl scSh.nd (pi_list (pv 5)) (blkOk_by (N := ["chain", "far", "weights", "_", "total", "ones", "place", "one"]) (sc := defScope sShares) (by decide +kernel)) (fun _ _ _ _ _ => by exact (pg_name (i := 7) scSh.nd rfl (.inl rfl))) (fun _ _ _ _ _ => pts_nil) (fun _ _ _ _ _ => by exact (pe_call GFr r1 (by rfl) DFr.g DFr.F.kp DFr.b .nil pass0 (pa_cons (pv 7) (pa_cons (pv 4) pa_nil))))) (pa_cons (pe_call GFr r1 (by rfl) DFr.g DFr.F.kp DFr.b .nil pass0 (pa_cons (pe_op op_sub (pv 4) (pe_callB (cr_sum rfl) (by rfl) mSu (by decide +kernel) (pa_cons (pv 5) pa_nil))) (pa_cons (pv 4) pa_nil))) pa_nil)))))))))), ?_⟩
    have m6 := G.m6
    have m1 := G.m1
    have Wp := pow_big (whole_pos G) (whole_le G) hn
    refine ⟨.int (n : Int), rfl, _, _, rfl, rfl, _, rfl, fun rp nrp => ?_⟩
    have s0 := same_new (o := .rng 0 (20 + 1)) nrp
    refine ⟨(n : Int), rp, 0, 21, rfl, rfl, upd_same, ?_⟩
    refine ⟨false, by rw [decide_eq_true (show (0 : Int) ≤ (n : Int) ∧ (n : Int) < 21 by omega)]; rfl, iteF ?_⟩
    have hC0 := hC.same s0
    show tSeq _ _ _ _ (upd H rp (.rng 0 21))
    replace s0 : Same H (upd H rp (.rng 0 21)) := s0
    replace hC0 : ChainAt C (upd H rp (.rng 0 21)) x many ms := hC0
    generalize upd H rp (.rng 0 21) = H0 at s0 hC0 ⊢
    -- weights = {everywhere(chain): 1}
    refine fun d0 nd0 => ?_
    have s1 := same_new (o := .dT []) nd0
    refine ⟨.ref x, rfl, x, many, ms, rfl, hC0.same s1, G, fun ev H1 s2 hev => ?_⟩
    have hd1 := s2 _ _ (upd_same (H := H0) (a := d0) (o := HO.dT []))
    refine ⟨hd1, ev, (ids many).map Sum.inl, .int 1, rfl, by rw [key_intsC]; exact hev, ?_⟩
    have s3 : Same H (upd H1 d0 (.dT [((ids many).map Sum.inl, V.int 1)])) := fun b o e => by
      have e0 := s0 _ _ e
      rw [upd_ne (ne_of_none e0 nd0)]
      exact s2 _ _ (s1 _ _ e0)
    have hd2 : (upd H1 d0 (.dT [((ids many).map Sum.inl, V.int 1)])) d0 = some (.dT (encC (cntN ms (ledM many) (ids many) 0))) := upd_same
    have nH0 : H d0 = none := s0.free nd0
    show tSeq _ _ _ _ (upd H1 d0 (.dT [((ids many).map Sum.inl, V.int 1)]))
    generalize upd H1 d0 (.dT [((ids many).map Sum.inl, V.int 1)]) = H2 at s3 hd2 ⊢
    refine ⟨_, rfl, _, rfl, by omega, by omega, ?_⟩
    refine for_range (lo := 0) (n := ((n : Int)).toNat) (fun i σ H' => ∃ d y3, σ = [some (.ref x), some (.int (n : Int)), some (.ref d), y3, none, none, none, none] ∧ Same H H' ∧ H d = none ∧ H' d = some (.dT (encC (cntN ms (ledM many) (ids many) i))))
      ⟨d0, none, rfl, s3, nH0, hd2⟩ ?_ ?_
    · rintro i σ H3 hi ⟨d, y3, rfl, s4, nHd, hd3⟩
      obtain ⟨dx, a0, ws0, h1, h2, h3⟩ := id (hC.same s4)
      refine ⟨.ref x, rfl, x, dx, _, rfl, h1, ch_noT, x, many, ms, rfl, hC.same s4, fun l wl nl hMl => ?_⟩
      have s5 := same_new (o := .lst wl) nl
      have hl : (upd H3 l (.lst wl)) l = some (.lst wl) := upd_same
      refine ⟨.ref d, rfl, l, d, many, wl, ms, _, rfl, hl, hMl, G, s5 _ _ hd3, cntN_good ms i, fun b H4 g4 nb hb => ?_⟩
      refine ⟨b, _, rfl, fun c o e => g4 c o (fun z => by rw [z, nHd] at e; cases e) (s5 _ _ (s4 _ _ e)), ?_, hb⟩
      exact s4.free (s5.free nb)
    · rintro σ H3 ⟨d, y3, rfl, s4, nHd, hd3⟩
      rw [show ((n : Int)).toNat = n by omega] at hd3
      refine ⟨.ref d, rfl, d, _, _, rfl, hd3, encC_vals _, ?_⟩
      rw [cntN_sum]
      -- ones
      obtain ⟨dx, a0, ws0, h1, h2, h3⟩ := id (hC.same s4)
      refine ⟨.ref x, rfl, x, dx, _, rfl, h1, ch_no, x, many, ms, rfl, hC.same s4, _, rfl, by omega, by omega, fun L nL => ?_⟩
      have idl : (ids many).length = many := by unfold ids; rw [List.length_map, List.length_range]
      have ida : ∀ {i : Nat}, i < many → (ids many)[i]? = some (i : Int) := fun {i} h => by unfold ids; rw [List.getElem?_map, List.getElem?_range h]; rfl
      refine lc_range (lo := 0) (n := ((many : Int)).toNat) (fun i H' => Same H3 H' ∧ H' L = some (.lst ((((ids many).take i).map (shrN many ms n)).map V.int))) ⟨same_new nL, by rw [upd_same]; rfl⟩ ?_ ?_
      · rintro i H4 hi ⟨s5, hL⟩
        have hi' : i < many := by omega
        have hd4 := s5 _ _ hd3
        refine ⟨rfl, .ref d, rfl, d, rfl, .inr ⟨_, .inl hd4⟩, .int (0 + (i : Int)), rfl, (by show 1 ≤ sizeLine; decide), fun tp ntp => ?_⟩
        have s6 := same_new (o := .tup [.int (0 + (i : Int))]) ntp
        have htp : (upd H4 tp (.tup [.int (0 + (i : Int))])) tp = some (.tup ((([(i : Int)] : List Int).map (Sum.inl (β := Str))).map kV)) := by rw [upd_same, Int.zero_add]; rfl
        refine ⟨_, DGet.t (s6 _ _ hd4) htp, ?_⟩
        rw [encC_get]
        refine ⟨_, s6 _ _ hL, ?_, fun b o e => ?_, ?_⟩
        · rw [List.length_map, List.length_map, List.length_take]
          exact small8 (by omega)
        · rw [upd_ne (ne_of_none e nL)]
          exact s6 _ _ (s5 _ _ e)
        · rw [upd_same, take_snoc (ida hi'), List.map_append, List.map_append]
          rfl
      · rintro H4 ⟨s5, hL⟩
        rw [show ((many : Int)).toNat = many by omega, List.take_of_length_le (by rw [idl]; exact Nat.le_refl _)] at hL
        have nHL : H L = none := s4.free nL
        -- the fractions
        refine ⟨.ref L, rfl, L, rfl, ⟨_, SqL.of hL⟩, fun D nD => ?_⟩
        refine lc_list (K := K) (a := L) (xs := ((ids many).map (shrN many ms n)).map V.int) (fun i H' => Same H4 H' ∧ ∃ us, H' D = some (.lst us) ∧ Paired (fun u p => FracAt H' u (frac (shrN many ms n p) (whole ms ^ n)) ∧ u ≠ .ref D) us ((ids many).take i))
          ⟨same_new nD, [], upd_same, by rw [List.take_zero]; exact .nil⟩ (fun i H' _ h => SqL.of (h.1 _ _ hL)) ?_ ?_
        · rintro i v H5 hv ⟨s6, us, hD, pu⟩
          rw [List.getElem?_map, List.getElem?_map] at hv
          obtain ⟨z, hz, rfl⟩ := Option.map_eq_some_iff.mp hv
          obtain ⟨p, hp, rfl⟩ := Option.map_eq_some_iff.mp hz
          have hi' : i < many := by rw [← idl]; exact (List.getElem?_eq_some_iff.mp hp).1
          refine ⟨rfl, _, rfl, _, rfl, shrN many ms n p, whole ms ^ n, rfl, by omega, Nat.lt_trans Wp.2 (Nat.pow_lt_pow_right (by decide) (by decide)), fun t nt => ?_⟩
          rw [fracZ_pos Wp.1]
          have s7 := same_new (o := .tup [.int (frac (shrN many ms n p) (whole ms ^ n)).1, .int (frac (shrN many ms n p) (whole ms ^ n)).2]) nt
          have ntD : t ≠ D := fun z => by rw [z, hD] at nt; cases nt
          have kp : ∀ b o, b ≠ D → H5 b = some o → (upd (upd H5 t (.tup [.int (frac (shrN many ms n p) (whole ms ^ n)).1, .int (frac (shrN many ms n p) (whole ms ^ n)).2])) D (.lst (us ++ [.ref t]))) b = some o := fun b o nb e => by
            rw [upd_ne nb]
            exact s7 _ _ e
          refine ⟨us, s7 _ _ hD, ?_, fun b o e => kp b o (ne_of_none e nD) (s6 _ _ e), us ++ [.ref t], upd_same, ?_⟩
          · have := pu.length
            rw [List.length_take] at this
            exact small8 (by omega)
          · rw [take_snoc hp]
            refine paired_end ⟨⟨t, rfl, by rw [upd_ne ntD]; exact upd_same⟩, fun z => by injection z with z; exact ntD z⟩ (L2.Paired.mapP pu fun u p h => ?_)
            obtain ⟨⟨t2, e1, e2⟩, nu⟩ := h
            exact ⟨⟨t2, e1, kp _ _ (fun z => nu (by rw [e1, z])) e2⟩, nu⟩
        · rintro H5 ⟨s6, us, hD, pu⟩
          rw [List.length_map, List.length_map, List.take_length] at pu
          refine ⟨_, rfl, .ref L, rfl, L, _, rfl, SqL.of (s6 _ _ hL), _, _, rfl, rfl, _, rfl, ?_⟩
          refine ⟨_, _, rfl, by omega, Nat.lt_trans Wp.2 (Nat.pow_lt_pow_right (by decide) (by decide)), fun t nt => ?_⟩
          rw [fracZ_pos Wp.1]
          have s7 := same_new (o := .tup [.int (frac (restN many ms n) (whole ms ^ n)).1, .int (frac (restN many ms n) (whole ms ^ n)).2]) nt
          have ht : (upd H5 t (.tup [.int (frac (restN many ms n) (whole ms ^ n)).1, .int (frac (restN many ms n) (whole ms ^ n)).2])) t = some (.tup [.int (frac (restN many ms n) (whole ms ^ n)).1, .int (frac (restN many ms n) (whole ms ^ n)).2]) := upd_same
          refine ⟨(by show 2 ≤ sizeLine; decide), fun T2 nT2 => ?_⟩
          have s8 := same_new (o := .tup [.ref D, .ref t]) nT2
          refine q T2 _ ((((s4.trans s5).trans s6).trans s7).trans s8) ⟨D, .ref t, us, upd_same, s8 _ _ (s7 _ _ hD), L2.Paired.mapP pu fun u p h => ?_, t, rfl, s8 _ _ ht⟩
          exact (h.1.same s7).same s8
end
section
variable {P : Program} {w : World} {K : PySem.W.Frag} {mg : Str → Option Value} {base : Heap} {C : Addr}
/-! ### _law_rows -/
variable {fC fD fO : Addr} {fdC fdD fdO : FuncData}
theorem scRo : FnScope ["_law_told", "_law_far", "_law_found", "_law_turn", "_law_more", "_law_numbers_here", "_law_weight", "_law_number"] ["_law_told", "_law_far"] (defScope sLawRows) := ⟨rfl, rfl, rfl, by decide +kernel, rfl, by decide +kernel, by decide +kernel⟩
/-- all rows of so many numbers, with their weights -/
def rowsL (ms : List Mv) : Nat → List (List Int × Int)
  | 0 => [([], 1)]
  | n + 1 => (rowsL ms n).flatMap fun p => (nums ms).map fun a => (p.1 ++ [a], p.2 * wtN ms a)
theorem rowsL_len (ms : List Mv) : ∀ n, (rowsL ms n).length = ms.length ^ n
  | 0 => rfl
  | n + 1 => by
    have e : ∀ l : List (List Int × Int), (l.flatMap fun p => (nums ms).map fun a => (p.1 ++ [a], p.2 * wtN ms a)).length = l.length * ms.length := fun l => by
      induction l with
      | nil => simp
      | cons p l ih =>
        rw [List.flatMap_cons, List.length_append, ih, List.length_map, List.length_cons, Nat.add_mul]
        have : (nums ms).length = ms.length := by unfold nums; rw [List.length_map, List.length_range]
        omega
    show (List.flatMap _ _).length = _
    rw [e, rowsL_len ms n, Nat.pow_succ]
theorem rowsL_sum {ms : List Mv} : ∀ (n : Nat) (ψ : List Int → Int), sumL (rowsL ms n) (fun p => p.2 * ψ p.1) = rowsS ms n ψ
  | 0, ψ => by
    show sumL [(([] : List Int), (1 : Int))] _ = ψ []
    rw [sumL_cons, sumL_nil]
    show 1 * ψ [] + 0 = ψ []
    omega
  | n + 1, ψ => by
    show sumL (List.flatMap _ _) _ = rowsS ms n (stepA ms ψ)
    rw [sumL_flat, ← rowsL_sum n (stepA ms ψ)]
    refine sumL_congr fun p _ => ?_
    rw [sumL_map]
    unfold stepA
    rw [← sumL_mul]
    exact sumL_congr fun a _ => Int.mul_assoc _ _ _
theorem rowsL_ok {ms : List Mv} : ∀ {n : Nat} {p : List Int × Int}, p ∈ rowsL ms n → p.1.length = n ∧ ∀ a ∈ p.1, 0 ≤ a ∧ a < (ms.length : Int)
  | 0, p, h => by
    rw [List.mem_singleton.mp h]
    exact ⟨rfl, fun _ h => nomatch h⟩
  | n + 1, p, h => by
    obtain ⟨q, hq, h2⟩ := List.mem_flatMap.mp h
    obtain ⟨a, ha, rfl⟩ := List.mem_map.mp h2
    obtain ⟨i1, i2⟩ := rowsL_ok hq
    refine ⟨by show (q.1 ++ [a]).length = _; rw [List.length_append, i1]; rfl, fun b hb => ?_⟩
    rcases List.mem_append.mp hb with hb | hb
    · exact i2 b hb
    · rw [List.mem_singleton.mp hb]; exact mem_nums.mp ha
/-- rows that stand as pairs of a list and a weight -/
def RowAt (H0 H : Hp) (v : V) (p : List Int × Int) : Prop := ∃ t l, v = .ref t ∧ H0 l = none ∧ H t = some (.tup [.ref l, .int p.2]) ∧ H l = some (.lst (p.1.map V.int))
theorem RowAt.same {H0 H H' : Hp} {v : V} {p : List Int × Int} (s : Same H H') (h : RowAt H0 H v p) : RowAt H0 H' v p := by
  obtain ⟨t, l, e, n, h1, h2⟩ := h
  exact ⟨t, l, e, n, s _ _ h1, s _ _ h2⟩
def RowN (H0 : Hp) (M : Addr) (H : Hp) (v : V) (p : List Int × Int) : Prop := ∃ t l, v = .ref t ∧ H0 l = none ∧ t ≠ M ∧ l ≠ M ∧ H t = some (.tup [.ref l, .int p.2]) ∧ H l = some (.lst (p.1.map V.int))
theorem paired_atR {α β : Type} {F : α → β → Prop} : ∀ {l₁ : List α} {l₂ : List β} {i : Nat} {a : α}, Paired F l₁ l₂ → l₁[i]? = some a → ∃ b, l₂[i]? = some b ∧ F a b
  | _, _, _, _, .nil, e => by simp at e
  | _, _, 0, _, .cons h _, e => by
    simp at e
    subst e
    exact ⟨_, rfl, h⟩
  | _, _, i + 1, a, .cons _ t, e => by
    obtain ⟨b, h1, h2⟩ := paired_atR (i := i) (a := a) t (by simpa using e)
    exact ⟨b, by simpa using h1, h2⟩
theorem RowN.at {H0 : Hp} {M : Addr} {H : Hp} {v : V} {p : List Int × Int} (h : RowN H0 M H v p) : RowAt H0 H v p := by
  obtain ⟨t, l, e, n, _, _, h1, h2⟩ := h
  exact ⟨t, l, e, n, h1, h2⟩
theorem RowN.keep {H0 : Hp} {M : Addr} {H H' : Hp} {v : V} {p : List Int × Int} (k : ∀ b o, b ≠ M → H b = some o → H' b = some o) (h : RowN H0 M H v p) : RowN H0 M H' v p := by
  obtain ⟨t, l, e, n0, n1, n2, h1, h2⟩ := h
  exact ⟨t, l, e, n0, n1, n2, k _ _ n1 h1, k _ _ n2 h2⟩
theorem RowAt.free {H0 : Hp} {M : Addr} {H : Hp} {v : V} {p : List Int × Int} (h : RowAt H0 H v p) (n : H M = none) : RowN H0 M H v p := by
  obtain ⟨t, l, e, n0, h1, h2⟩ := h
  exact ⟨t, l, e, n0, ne_of_none h1 n, ne_of_none h2 n, h1, h2⟩
def spRo : Sp := fun vs H Q _ => ∃ (t m : Addr) (many n : Nat) (ws : List V) (ms : List Mv), vs = [.ref t, .int (n : Int)] ∧ ToldAt H t m many ws ms ∧ Good many ms ∧ n ≤ 6 ∧ ms.length ^ n ≤ 1000 ∧ ∀ r us H', Same H H' → H' r = some (.lst us) → Paired (RowAt H H') us (rowsL ms n) → Q (.ref r) H'
theorem ok_rows {k : Nat} {f : Addr} {fd : FuncData} (F : Fun K "_law_rows" "_law_rows" sLawRows f fd) (T : LawTxt K mg fC fD fO fdC fdD fdO) : FnOk P w K mg base CX0 (k + 1) f fd ["_law_told", "_law_far"] spRo := by
  refine F.ok scRo (fun vs H Q E h => ?_) (fun cdv A outer s H vs Q E hr h => ?_)
  · obtain ⟨t, m, many, n, ws, ms, rfl, _⟩ := h
    rfl
  · obtain ⟨t, m, many, n, ws, ms, rfl, hT, G, h6, h1k, q⟩ := h
    refine ⟨_, (pss_cons (ps_set (i := 2) scRo.nd rfl (.inl rfl) (pe_lst (pa_cons (pe_tup (pa_cons (pe_lst pa_nil) (pa_cons pe_int pa_nil))) pa_nil)))
      (pss_cons (ps_for PassesOwn.never rfl (pi_range1 (by rfl) T.mr (pa_cons (pv 1) pa_nil)) (pg_name (i := 3) scRo.nd rfl (.inl rfl)) (pss_cons (ps_set (i := 4) scRo.nd rfl (.inl rfl) (pe_lst pa_nil))
      (pss_cons (ps_for PassesOwn.never rfl (pi_list (pv 2)) (pg_tup rfl (pgs_cons (pg_name (i := 5) scRo.nd rfl (.inl rfl)) (pgs_cons (pg_name (i := 6) scRo.nd rfl (.inl rfl)) pgs_nil))) (pss_one (ps_for PassesOwn.never rfl (pi_range1 (by rfl) T.mr (pa_cons (pe_callB call_len_seq (by rfl) T.ml PySem.boot_len (pa_cons (pe_ix ix_tup (pv 0) pe_int (fun _ _ => rfl)) pa_nil)) pa_nil)) (pg_name (i := 7) scRo.nd rfl (.inl rfl)) (pss_one (ps_expr (pe_bm PySem.F.plainAttrs_list PySem.F.slot_list_append PySem.F.type_list_append mt_append (pv 4) (pa_cons (pe_tup (pa_cons (pe_op op_cat (pv 5) (pe_lst (pa_cons (pv 7) pa_nil))) (pa_cons (pe_op op_mul (pv 6) (pe_ix ix_tup (pe_ix ix_list (pe_ix ix_tup (pv 0) pe_int (fun _ _ => rfl)) (pv 7) (fun _ _ => rfl)) pe_int (fun _ _ => rfl))) pa_nil))) pa_nil)))))))
      (pss_one (ps_set (i := 2) scRo.nd rfl (.inl rfl) (pv 4))))))
      (pss_one (ps_ret (pv 2))))), ?_⟩
    have l8 := G.l8
    have l1 := G.l1
    have m6 := G.m6
    have le1k : ∀ {i}, i ≤ n → (rowsL ms i).length ≤ 1000 := fun {i} hi => by
      rw [rowsL_len]
      exact Nat.le_trans (Nat.pow_le_pow_right l1 hi) h1k
    refine ⟨(by show 0 ≤ sizeLine; decide), fun e0 ne0 => ⟨(by show 2 ≤ sizeLine; decide), fun t0 nt0 => ⟨(by show 1 ≤ sizeLine; decide), fun r0 nr0 => ?_⟩⟩⟩
    have s1 := same_new (o := .lst []) ne0
    have s2 := same_new (o := .tup [.ref e0, .int 1]) nt0
    have s3 := same_new (o := .lst [.ref t0]) nr0
    have s13 := (s1.trans s2).trans s3
    have he0 := s3 _ _ (s2 _ _ (upd_same (H := H) (a := e0) (o := HO.lst [])))
    have ht0 := s3 _ _ (upd_same (H := upd H e0 (.lst [])) (a := t0) (o := HO.tup [.ref e0, .int 1]))
    have hr0 : (upd (upd (upd H e0 (.lst [])) t0 (.tup [.ref e0, .int 1])) r0 (.lst [.ref t0])) r0 = some (.lst [.ref t0]) := upd_same
    show tSeq _ _ _ _ (upd (upd (upd H e0 (.lst [])) t0 (.tup [.ref e0, .int 1])) r0 (.lst [.ref t0]))
    generalize upd (upd (upd H e0 (.lst [])) t0 (.tup [.ref e0, .int 1])) r0 (.lst [.ref t0]) = H1 at s13 he0 ht0 hr0 ⊢
    refine ⟨_, rfl, _, rfl, by omega, by omega, ?_⟩
    refine for_range (lo := 0) (n := ((n : Int)).toNat) (fun i σ H' => ∃ r us y3 y4 y5 y6 y7, σ = [some (.ref t), some (.int (n : Int)), some (.ref r), y3, y4, y5, y6, y7] ∧ Same H H' ∧ H' r = some (.lst us) ∧ Paired (RowAt H H') us (rowsL ms i))
      ⟨r0, [.ref t0], none, none, none, none, none, rfl, s13, hr0, .cons ⟨t0, e0, rfl, ne0, ht0, he0⟩ .nil⟩ ?_ ?_
    · rintro i σ H2 hi ⟨r, us, y3, y4, y5, y6, y7, rfl, s4, hr2, pu⟩
      have hi' : i < n := by omega
      refine ⟨(by show 0 ≤ sizeLine; decide), fun M nM => ?_⟩
      have s5 := same_new (o := .lst []) nM
      have hM3 : (upd H2 M (.lst [])) M = some (.lst []) := upd_same
      have hr3 := s5 _ _ hr2
      have nrM : r ≠ M := ne_of_none hr2 nM
      have pu3 : Paired (RowN H M (upd H2 M (.lst []))) us (rowsL ms i) := L2.Paired.mapP pu fun _ _ h => (h.free nM).keep fun b o _ e => s5 _ _ e
      have hT3 := hT.same (s4.trans s5)
      have nTM : ∀ {b o}, H b = some o → b ≠ M := fun e => ne_of_none (s4 _ _ e) nM
      have s45 := s4.trans s5
      show tSeq _ _ _ _ (upd H2 M (.lst []))
      generalize upd H2 M (.lst []) = H3 at s5 s45 hM3 hr3 pu3 hT3 ⊢
      refine ⟨.ref r, rfl, r, rfl, ⟨_, SqL.of hr3⟩, ?_⟩
      let G2 : List (List Int × Int) → List (List Int × Int) := fun l => l.flatMap fun p => (nums ms).map fun a => (p.1 ++ [a], p.2 * wtN ms a)
      refine for_list (K := K) (a := r) (xs := us) (fun j σ H' => ∃ y5 y6 y7, σ = [some (.ref t), some (.int (n : Int)), some (.ref r), some (.int (0 + (i : Int))), some (.ref M), y5, y6, y7] ∧ (∀ b o, b ≠ M → H3 b = some o → H' b = some o) ∧ ∃ vs, H' M = some (.lst vs) ∧ Paired (RowN H M H') vs (G2 ((rowsL ms i).take j)))
        ⟨y5, y6, y7, rfl, fun _ _ _ e => e, [], hM3, by rw [List.take_zero]; exact .nil⟩ (fun j σ H' _ ⟨_, _, _, _, k, _⟩ => SqL.of (k _ _ nrM hr3)) ?_ ?_
      · rintro j v σ H4 hv ⟨y5, y6, y7, rfl, k4, vs, hM4, pv⟩
        obtain ⟨p, hp, hrow⟩ := paired_atR pu3 hv
        obtain ⟨tp, lp, rfl, n0, n1, n2, h1, h2⟩ := hrow.keep k4
        obtain ⟨pl, pok⟩ := rowsL_ok (List.mem_of_getElem? hp)
        refine ⟨tp, _, rfl, SqT.of h1, rfl, _, _, rfl, _, _, rfl, rfl, ?_⟩
        have hT4 : ToldAt H4 t m many ws ms := ⟨k4 _ _ (nTM hT.1) hT3.1, k4 _ _ (nTM hT.2.1) hT3.2.1, hT3.2.2.same fun b xs e => k4 _ _ (fun z => by rw [z, hM3] at e; cases e) e⟩
        have lw := hT.2.2.length
        refine ⟨.ref t, rfl, t, _, 1, _, rfl, rfl, SqT.of hT4.1, atI_nat (j := 1) rfl, m, ws, rfl, .inl (SqL.of hT4.2.1), _, rfl, by omega, by omega, ?_⟩
        have hlt : (G2 ((rowsL ms i).take j)).length + ms.length ≤ 1000 := by
          have e2 : ((rowsL ms i).take (j + 1)).length ≤ (rowsL ms i).length := by rw [List.length_take]; omega
          have hpos := (List.getElem?_eq_some_iff.mp hp).1
          have gl : ∀ l, (G2 l).length = l.length * ms.length := fun l => by
            induction l with
            | nil => show 0 = 0 * ms.length; omega
            | cons p l ih =>
              show ((p :: l).flatMap _).length = _
              rw [List.flatMap_cons, List.length_append, List.length_map, List.length_cons, Nat.add_mul]
              have e3 : (nums ms).length = ms.length := by unfold nums; rw [List.length_map, List.length_range]
              have ih' : (l.flatMap fun p => (nums ms).map fun a => (p.1 ++ [a], p.2 * wtN ms a)).length = l.length * ms.length := ih
              rw [ih', e3]
              omega
          have full := le1k (i := i + 1) (by omega)
          have e4 : (rowsL ms (i + 1)).length = (rowsL ms i).length * ms.length := by rw [rowsL_len, rowsL_len, Nat.pow_succ]
          rw [gl, List.length_take, Nat.min_eq_left (by omega)]
          have : (j + 1) * ms.length ≤ (rowsL ms i).length * ms.length := Nat.mul_le_mul_right _ (by omega)
          rw [Nat.add_mul] at this
          omega
        refine for_range (lo := 0) (n := (((ws.length : Nat) : Int)).toNat) (fun a σ H' => ∃ y7, σ = [some (.ref t), some (.int (n : Int)), some (.ref r), some (.int (0 + (i : Int))), some (.ref M), some (.ref lp), some (.int p.2), y7] ∧ (∀ b o, b ≠ M → H4 b = some o → H' b = some o) ∧
            ∃ vs, H' M = some (.lst vs) ∧ Paired (RowN H M H') vs (G2 ((rowsL ms i).take j) ++ ((nums ms).take a).map fun a => (p.1 ++ [a], p.2 * wtN ms a)))
          ⟨y7, rfl, fun _ _ _ e => e, vs, hM4, by rw [List.take_zero, List.map_nil, List.append_nil]; exact pv⟩ ?_ ?_
        · rintro a σ H5 ha ⟨y7, rfl, k5, vs5, hM5, pv5⟩
          have ha' : a < ms.length := by omega
          have hlp := k5 _ _ n2 h2
          refine ⟨.ref M, rfl, .inl ⟨rfl, _, SqL.of hM5⟩, .ref lp, rfl, .int (0 + (a : Int)), rfl, (by show 1 ≤ sizeLine; decide), fun B1 nB1 => ?_⟩
          have s6 := same_new (o := .lst [.int (0 + (a : Int))]) nB1
          refine ⟨lp, B1, _, _, rfl, rfl, s6 _ _ hlp, upd_same, ?_, fun B2 nB2 => ?_⟩
          · rw [List.length_map, pl]
            exact Nat.le_trans (show i + 1 ≤ 7 by omega) (by decide)
          have s7 := same_new (o := .lst (p.1.map V.int ++ [.int (0 + (a : Int))])) nB2
          have hT5 : ∀ {b o}, b ≠ M → H4 b = some o → (upd (upd H5 B1 (.lst [.int (0 + (a : Int))])) B2 (.lst (p.1.map V.int ++ [.int (0 + (a : Int))]))) b = some o := fun nb e => s7 _ _ (s6 _ _ (k5 _ _ nb e))
          have hL2 : (upd (upd H5 B1 (.lst [.int (0 + (a : Int))])) B2 (.lst (p.1.map V.int ++ [.int (0 + (a : Int))]))) B2 = some (.lst ((p.1 ++ [(a : Int)]).map V.int)) := by rw [upd_same, Int.zero_add, List.map_append]; rfl
          have hM7 := s7 _ _ (s6 _ _ hM5)
          have pv7 : Paired (RowN H M (upd (upd H5 B1 (.lst [.int (0 + (a : Int))])) B2 (.lst (p.1.map V.int ++ [.int (0 + (a : Int))])))) vs5 (G2 ((rowsL ms i).take j) ++ ((nums ms).take a).map fun a => (p.1 ++ [a], p.2 * wtN ms a)) := L2.Paired.mapP pv5 fun _ _ h => h.keep fun b o _ e => s7 _ _ (s6 _ _ e)
          have nHB2 : H B2 = none := by
            cases e : H B2 with
            | none => rfl
            | some o => rw [s6 _ _ (k5 _ _ (nTM e) (k4 _ _ (nTM e) (s45 _ _ e)))] at nB2; cases nB2
          have nL2M : B2 ≠ M := fun z => by rw [z] at nB2; rw [s6 _ _ hM5] at nB2; cases nB2
          generalize (upd (upd H5 B1 (.lst [.int (0 + (a : Int))])) B2 (.lst (p.1.map V.int ++ [.int (0 + (a : Int))]))) = H7 at hT5 hL2 hM7 pv7 ⊢
          have nMv : ∀ {b xs}, H4 b = some (HO.tup xs) → b ≠ M := fun e z => by rw [z, hM4] at e; cases e
          have hw : ∃ mv, ms[a]? = some mv := ⟨_, List.getElem?_eq_getElem ha'⟩
          obtain ⟨mv, emv⟩ := hw
          obtain ⟨vm, evm, ta, tb, rfl, hta, htb⟩ := hT4.2.2.get emv
          have hta7 := hT5 (nMv hta) hta
          have gm := G.mv mv (List.mem_of_getElem? emv)
          have ewt : wtN ms (a : Int) = mv.1 := by
            unfold wtN
            rw [Int.toNat_natCast, List.getD_eq_getElem?_getD, emv]
            rfl
          have ht7 := hT5 (nTM hT.1) hT4.1
          have hm7 := hT5 (nTM hT.2.1) hT4.2.1
          refine ⟨.int p.2, rfl, .ref t, rfl, t, _, 1, _, rfl, rfl, SqT.of ht7, atI_nat (j := 1) rfl, .int (0 + (a : Int)), rfl, m, _, (0 + (a : Int)), _, rfl, rfl, SqL.of hm7, at_of (j := a) (by omega) evm, ta, _, 0, _, rfl, rfl, SqT.of hta7, atI_nat (j := 0) rfl, p.2, mv.1, rfl, rfl, .inr ⟨by have := gm.1; omega, by have := gm.2.1; omega⟩, ?_⟩
          refine ⟨(by show 2 ≤ sizeLine; decide), fun T nT => ?_⟩
          have s8 := same_new (o := .tup [.ref B2, .int (p.2 * mv.1)]) nT
          have hM8 := s8 _ _ hM7
          have lv := pv7.length
          rw [List.length_append, List.length_map, List.length_take] at lv
          have nTM' : T ≠ M := fun z => by rw [z, hM7] at nT; cases nT
          have ln : (nums ms)[a]? = some (a : Int) := by unfold nums; rw [List.getElem?_map, List.getElem?_range ha']; rfl
          refine ⟨M, vs5, .ref T, rfl, rfl, hM8, Nat.lt_of_le_of_lt (show _ ≤ 1000 by omega) (by decide), some (.int (0 + (a : Int))), rfl, fun b o nb e => by rw [upd_ne nb]; exact s8 _ _ (hT5 nb e), vs5 ++ [.ref T], upd_same, ?_⟩
          rw [take_snoc ln, List.map_append, ← List.append_assoc]
          refine paired_end ⟨T, B2, rfl, nHB2, nTM', nL2M, ?_, ?_⟩ (L2.Paired.mapP pv7 fun _ _ h => h.keep fun b o nb e => by rw [upd_ne nb]; exact s8 _ _ e)
          · rw [upd_ne nTM', upd_same]
            show some (HO.tup [.ref B2, .int (p.2 * mv.1)]) = some (HO.tup [.ref B2, .int (p.2 * wtN ms (a : Int))])
            rw [ewt]
          · rw [upd_ne nL2M]
            exact s8 _ _ hL2
        · rintro σ H5 ⟨y7, rfl, k5, vs5, hM5, pv5⟩
          rw [show (((ws.length : Nat) : Int)).toNat = ms.length by omega, List.take_of_length_le (l := nums ms) (by unfold nums; rw [List.length_map, List.length_range]; exact Nat.le_refl _)] at pv5
          refine ⟨_, _, _, rfl, fun b o nb e => k5 b o nb (k4 b o nb e), vs5, hM5, ?_⟩
          have : G2 ((rowsL ms i).take (j + 1)) = G2 ((rowsL ms i).take j) ++ (nums ms).map fun a => (p.1 ++ [a], p.2 * wtN ms a) := by
            show List.flatMap _ _ = List.flatMap _ _ ++ _
            rw [take_snoc hp, List.flatMap_append]
            simp
          rw [this]
          exact pv5
      · rintro σ H4 ⟨y5, y6, y7, rfl, k4, vs, hM4, pv⟩
        rw [pu.length, List.take_length] at pv
        refine ⟨.ref M, rfl, M, vs, _, _, _, _, _, rfl, fun b o e => k4 b o (nTM e) (s45 _ _ e), hM4, L2.Paired.mapP pv fun _ _ h => h.at⟩
    · rintro σ H2 ⟨r, us, y3, y4, y5, y6, y7, rfl, s4, hr2, pu⟩
      rw [show ((n : Int)).toNat = n by omega] at pu
      exact ⟨.ref r, rfl, q r us H2 s4 hr2 pu⟩
end
section
variable {P : Program} {w : World} {K : PySem.W.Frag} {mg : Str → Option Value} {base : Heap}
/-! ### _law_low -/
theorem scLow : FnScope ["_law_top", "_law_bottom", "_law_one", "_law_other"] ["_law_top", "_law_bottom"] (defScope sLawLow) := ⟨rfl, rfl, rfl, by decide +kernel, rfl, by decide +kernel, by decide +kernel⟩
def spLow : Sp := fun vs H Q _ => ∃ (x y : Int), vs = [.int x, .int y] ∧ 0 < y ∧ y.natAbs < 2 ^ 8999 ∧ ∀ t, H t = none → Q (.ref t) (upd H t (.tup [.int (frac x y).1, .int (frac x y).2]))
theorem ok_low {f : Addr} {fd : FuncData} {k : Nat} (F : Fun K "_law_low" "_law_low" sLawLow f fd) (ma : mg "abs" = none) : FnOk P w K mg base CX0 (k + 1) f fd ["_law_top", "_law_bottom"] spLow := by
  refine F.ok scLow (fun vs H Q E h => ?_) (fun cdv A outer s H vs Q E hr h => ?_)
  · obtain ⟨x, y, rfl, _⟩ := h
    rfl
  · obtain ⟨x, y, rfl, h1, h2, q⟩ := h
    refine ⟨_, pss_cons (ps_set (i := 2) scLow.nd rfl (.inl rfl) (pe_callB call_abs (by rfl) ma (by decide +kernel) (pa_cons (pv 0) pa_nil)))
      (pss_cons (ps_set (i := 3) scLow.nd rfl (.inl rfl) (pv 1))
      (pss_cons (ps_while PassesOwn.never (pt_cmpR op_gt (pv 3) pe_int (nomark _))
        (pss_one (ps_par (i := 2) (j := 3) rfl scLow.nd rfl rfl (by decide) rfl rfl (pa_cons (pv 3) (pa_cons (pe_op op_mod (pv 2) (pv 3)) pa_nil)) (by rfl))))
      (pss_one (ps_ret (pe_tup (pa_cons (pe_op op_fdivW (pv 0) (pv 2)) (pa_cons (pe_op op_fdivW (pv 1) (pv 2)) pa_nil))))))), ?_⟩
    have g1 := gcdI_pos (x := x) h1
    have g2 := Int.le_of_dvd h1 (gcdI_dr x y)
    have g3 : (gcdI x y).natAbs < 2 ^ 8999 := Nat.lt_of_le_of_lt (by omega) h2
    refine ⟨.int x, rfl, x, rfl, .int y, rfl, ?_⟩
    refine while_by (fun σ H' => ∃ a b : Int, σ = [some (.int x), some (.int y), some (.int a), some (.int b)] ∧ H' = H ∧ 0 ≤ a ∧ 0 ≤ b ∧ gcdI a b = gcdI x y)
      (fun σ _ => match σ with | [_, _, _, some (.int b)] => b.toNat | _ => 0) ⟨_, y, rfl, rfl, abs_nn x, by omega, gcdI_abs x y⟩ ?_ ?_
    · rintro σ H' ⟨a, b, rfl, rfl, ha, hb, e⟩
      refine ⟨.int b, rfl, b, 0, rfl, rfl, _, rfl, ite2 (fun c => ?_) (fun c => ?_)⟩
      · have c0 : 0 < b := of_decide_eq_true c
        refine ⟨.int b, rfl, .int a, rfl, .int b, rfl, a, b, rfl, rfl, (by show 0 < b; omega), .int b, .int (a % b), rfl, ⟨b, a % b, rfl, rfl, hb, Int.emod_nonneg _ (by omega), (gcdI_step ha c0).trans e⟩, ?_⟩
        have := Int.emod_lt_of_pos a c0
        have := Int.emod_nonneg a (show b ≠ 0 by omega)
        show (a % b).toNat < b.toNat
        omega
      · have c0 : ¬ 0 < b := fun z => c (decide_eq_true z)
        have b0 : b = 0 := by omega
        subst b0
        rw [gcdI_zero ha] at e
        subst e
        exact ⟨.int x, rfl, .int (gcdI x y), rfl, x, gcdI x y, rfl, rfl, wide_div g1 g3 (by decide) (by decide), .int y, rfl, .int (gcdI x y), rfl, y, gcdI x y, rfl, rfl, wide_div g1 g3 (by decide) (by decide), (by show 2 ≤ sizeLine; decide), fun t nt => q t nt⟩
    · rintro σ H' Q1 Q2 hq ⟨v, e1, i, j, e2, e3, b, e4, e5⟩
      exact ⟨v, e1, i, j, e2, e3, b, e4, hq _ _ e5⟩
end
section
variable {P : Program} {w : World} {K : PySem.W.Frag} {mg : Str → Option Value} {base : Heap} {C : Addr}
def frD (p : Int × Int) : PyData := .tuple [.int p.1, .int p.2]
theorem frD_sh {n : Nat} (p : Int × Int) : Sh (n + 1) (frD p) := Sh.tuple fun d hd => by
  rcases List.mem_cons.mp hd with rfl | hd
  · exact .int _
  · rw [List.mem_singleton.mp hd]; exact .int _
/-- what shares tells, as data -/
def shD (many : Nat) (ms : List Mv) (n : Nat) : PyData := .tuple [.list ((ids many).map fun p => frD (frac (shrN many ms n p) (whole ms ^ n))), frD (frac (restN many ms n) (whole ms ^ n))]
theorem shD_sh (many : Nat) (ms : List Mv) (n : Nat) : Sh 3 (shD many ms n) := Sh.tuple fun d hd => by
  rcases List.mem_cons.mp hd with rfl | hd
  · exact Sh.list fun d hd => by
      obtain ⟨p, _, rfl⟩ := List.mem_map.mp hd
      exact frD_sh _
  · rw [List.mem_singleton.mp hd]; exact (frD_sh (n := 0) _).mono (by decide)
theorem dp_fracs {K : PySem.W.Frag} {H : Hp} {f : Int → Int × Int} : ∀ {us : List V} {ps : List Int}, Paired (fun u p => FracAt H u (f p)) us ps → DpAll K H us (ps.map fun p => frD (f p))
  | _, _, .nil => .nil
  | _, _, .cons h t => by
    obtain ⟨a, rfl, ha⟩ := h
    exact .cons (dp_pair ha) (dp_fracs t)
/-! ### maps and groups -/
def mapM (m : Mv) (g : List Int) : List Int := g.map (goK m.2)
theorem imgR_in {many : Nat} {ms : List Mv} (G : Good many ms) : ∀ (r : List Int), (∀ a ∈ r, 0 ≤ a ∧ a < (ms.length : Int)) → ∀ {g h : List Int}, (∀ k, k ∈ g ↔ k ∈ h) → (∀ k ∈ g, 0 ≤ k ∧ k < (many : Int)) → GoodRow many h →
    (∀ k, k ∈ imgR ms (ledM many) g r ↔ k ∈ imgR ms mapM h r) ∧ GoodRow many (imgR ms mapM h r)
  | [], _, g, h, hgh, _, hh => ⟨hgh, hh⟩
  | a :: r, hr, g, h, hgh, hg, hh => by
    obtain ⟨a0, a1⟩ := hr a List.mem_cons_self
    have gm : GoodRow many (ms.getD a.toNat (0, [])).2 := by
      rw [List.getD_eq_getElem?_getD, List.getElem?_eq_getElem (by omega)]
      exact (G.mv _ (List.getElem_mem (by omega))).2.2
    refine imgR_in G r (fun b hb => hr b (List.mem_cons_of_mem _ hb)) (fun k => ?_) (fun k hk => (ledG_good many _ g).2 k hk) ⟨by show (h.map _).length = many; rw [List.length_map]; exact hh.1, fun k hk => ?_⟩
    · show k ∈ ledG many (ms.getD a.toNat (0, [])).2 g ↔ k ∈ h.map (goK (ms.getD a.toNat (0, [])).2)
      rw [mem_ledG gm hg, List.mem_map]
      constructor
      · rintro ⟨x, hx, e⟩
        exact ⟨x, (hgh x).mp hx, e⟩
      · rintro ⟨x, hx, e⟩
        exact ⟨x, (hgh x).mpr hx, e⟩
    · obtain ⟨x, hx, rfl⟩ := List.mem_map.mp hk
      exact goK_in' gm (hh.2 x hx).1 (hh.2 x hx).2
theorem ids_row (many : Nat) : GoodRow many (ids many) := ⟨by unfold ids; rw [List.length_map, List.length_range], fun k hk => mem_ids.mp hk⟩
theorem img_maps {many : Nat} {ms : List Mv} (G : Good many ms) {r : List Int} (hr : ∀ a ∈ r, 0 ≤ a ∧ a < (ms.length : Int)) : (∀ k, k ∈ imgR ms (ledM many) (ids many) r ↔ k ∈ imgR ms mapM (ids many) r) ∧ GoodRow many (imgR ms mapM (ids many) r) :=
  imgR_in G r hr (fun _ => Iff.rfl) (fun k hk => mem_ids.mp hk) (ids_row many)
theorem sing_iff {many : Nat} {g h : List Int} {p : Int} (hg : goodG many g) (hh : GoodRow many h) (m1 : 1 ≤ many) (e : ∀ k, k ∈ g ↔ k ∈ h) : g = [p] ↔ h = List.replicate many p := by
  constructor
  · intro z
    rw [z] at e
    refine List.eq_replicate_iff.mpr ⟨hh.1, fun k hk => ?_⟩
    exact List.mem_singleton.mp ((e k).mpr hk)
  · intro z
    rw [z] at e
    have hp : p ∈ g := (e p).mpr (List.mem_replicate.mpr ⟨by omega, rfl⟩)
    have all : ∀ k ∈ g, k = p := fun k hk => (List.mem_replicate.mp ((e k).mp hk)).2
    match g, hp, all, hg.1 with
    | [a], _, all, _ => rw [all a List.mem_cons_self]
    | a :: b :: l, _, all, pw =>
      have h1 := (List.pairwise_cons.mp pw).1 b List.mem_cons_self
      rw [all a List.mem_cons_self, all b (by simp)] at h1
      omega
theorem maps_shr {many : Nat} {ms : List Mv} (G : Good many ms) (n : Nat) (p : Int) : valC (cntN ms mapM (ids many) n) (List.replicate many p) = shrN many ms n p := by
  unfold shrN
  rw [cntN_val, cntN_val]
  refine rowsS_congr fun r _ hr => ?_
  obtain ⟨e, gr⟩ := img_maps G hr
  have i := sing_iff (p := p) (foldL_good r (ids_good many)) gr G.m1 e
  by_cases h : imgR ms (ledM many) (ids many) r = [p]
  · rw [if_pos h, if_pos (i.mp h)]
  · rw [if_neg h, if_neg fun z => h (i.mpr z)]
/-! ### _law_is_by_maps -/
def rowsU (many : Nat) : Nat → List (List Int)
  | 0 => [[]]
  | n + 1 => (rowsU many n).flatMap fun r => (ids many).map fun a => a :: r
theorem rowsU_len (many : Nat) : ∀ n, (rowsU many n).length = many ^ n
  | 0 => rfl
  | n + 1 => by
    have e : ∀ l : List (List Int), (l.flatMap fun r => (ids many).map fun a => a :: r).length = l.length * many := fun l => by
      induction l with
      | nil => simp
      | cons p l ih =>
        rw [List.flatMap_cons, List.length_append, ih, List.length_map, List.length_cons, Nat.add_mul]
        have : (ids many).length = many := by unfold ids; rw [List.length_map, List.length_range]
        omega
    show (List.flatMap _ _).length = _
    rw [e, rowsU_len many n, Nat.pow_succ]
theorem mem_rowsU {many : Nat} : ∀ {n : Nat} {r : List Int}, r.length = n → (∀ k ∈ r, 0 ≤ k ∧ k < (many : Int)) → r ∈ rowsU many n
  | 0, [], _, _ => List.mem_cons_self
  | n + 1, a :: r, hl, h => List.mem_flatMap.mpr ⟨r, mem_rowsU (by simpa using hl) fun k hk => h k (List.mem_cons_of_mem _ hk), List.mem_map.mpr ⟨a, mem_ids.mpr (h a List.mem_cons_self), rfl⟩⟩
  | 0, _ :: _, h, _ => nomatch h
  | _ + 1, [], h, _ => nomatch h
theorem valC_at : ∀ {D : Cnt} {i : Nat} {p : List Int × Int}, (D.map (·.1)).Nodup → D[i]? = some p → valV (encC D) (p.1.map Sum.inl) = some (.int p.2)
  | [], _, _, _, h => by simp at h
  | q :: D, 0, p, _, h => by
    cases h
    exact valV_pos (p := (q.1.map Sum.inl, V.int q.2)) rfl
  | q :: D, i + 1, p, hn, h => by
    rw [List.map_cons, List.nodup_cons] at hn
    have h' : D[i]? = some p := by simpa using h
    refine (valV_neg (p := (q.1.map Sum.inl, V.int q.2)) fun z => hn.1 ?_).trans (valC_at hn.2 h')
    rw [keyI_inj z]
    exact List.mem_map.mpr ⟨p, List.mem_of_getElem? h', rfl⟩
def CntR (many : Nat) (D : Cnt) : Prop := (D.map (·.1)).Nodup ∧ ∀ p ∈ D, GoodRow many p.1
theorem CntR.len {many : Nat} {D : Cnt} (h : CntR many D) (m4 : many ≤ 4) : D.length ≤ 256 := by
  have hp := pigeon (m := rowsU many many) h.1 fun g hg => by
    obtain ⟨p, hp, rfl⟩ := List.mem_map.mp hg
    exact mem_rowsU (h.2 p hp).1 (h.2 p hp).2
  rw [rowsU_len, List.length_map] at hp
  have : many ^ many ≤ 256 := by
    match many, m4 with
    | 0, _ => decide
    | 1, _ => decide
    | 2, _ => decide
    | 3, _ => decide
    | 4, _ => decide
  omega
theorem CntR.add {many : Nat} {D : Cnt} (h : CntR many D) {g : List Int} (hg : GoodRow many g) (v : Int) : CntR many (addC D g v) := by
  refine ⟨addC_nodup h.1, fun p hp => ?_⟩
  rcases addC_keys.mp (List.mem_map.mpr ⟨p, hp, rfl⟩) with e | e
  · rw [e]; exact hg
  · obtain ⟨q, hq, e⟩ := List.mem_map.mp e
    rw [← e]
    exact h.2 q hq
theorem mapM_good {many : Nat} {m : Mv} {g : List Int} (hm : GoodMv many m) (hg : GoodRow many g) : GoodRow many (mapM m g) := by
  refine ⟨by unfold mapM; rw [List.length_map]; exact hg.1, fun k hk => ?_⟩
  obtain ⟨x, hx, rfl⟩ := List.mem_map.mp hk
  exact goK_in' hm.2.2 (hg.2 x hx).1 (hg.2 x hx).2
theorem cntN_row {many : Nat} {ms : List Mv} (G : Good many ms) : ∀ n, CntR many (cntN ms mapM (ids many) n)
  | 0 => ⟨by show [ids many].Nodup; simp, fun p hp => by rw [List.mem_singleton.mp hp]; exact ids_row many⟩
  | n + 1 => ⟨stepC_nodup _ _, stepC_keys (P := GoodRow many) _ fun p hp m hm => mapM_good (G.mv m hm) ((cntN_row G n).2 p hp)⟩
variable {fC fD fO fM cM tM fI : Addr} {fdC fdD fdO fdM fdI : FuncData}
theorem scMp : FnScope ["_law_told", "_law_far", "_law_counts", "_law_turn", "_law_more", "_law_ends_here", "_law_weight", "_law_row", "_law_key", "_law_whole", "_law_alike", "_law_due", "_law_place", "_law_count"] ["_law_told", "_law_far"] (defScope sLawIsByMaps) := ⟨rfl, rfl, rfl, by decide +kernel, rfl, by decide +kernel, by decide +kernel⟩
def spMp (T : Addr) : Sp := fun vs H Q _ => ∃ (t m : Addr) (many n : Nat) (ws : List V) (ms : List Mv), vs = [.ref t, .int (n : Int)] ∧ ToldAt H t m many ws ms ∧ Good many ms ∧ many ≤ 4 ∧ n ≤ 20 ∧ GxR.TabG H T ∧ ∀ H', Gr T H H' → GxR.TabG H' T → Q (.bl true) H'
theorem ok_bymaps {f fL fMd fS : Addr} {fd fdL fdMd fdS : FuncData} (F : Fun K "_law_is_by_maps" "_law_is_by_maps" sLawIsByMaps f fd) (T : LawTxt K mg fC fD fO fdC fdD fdO) (DLow : Df K mg "_law_low" sLawLow ["_law_top", "_law_bottom"] fL fdL) (DM : Df K mg "_law_made" sMade ["_law_told"] fMd fdMd) (DSh : Df K mg "shares" sShares ["chain", "far"] fS fdS)
    (GM : FnOk P w K mg base CX0 4 fMd fdMd ["_law_told"] (spMade C tM)) (GSh : FnOk P w K mg base CX0 3 fS fdS ["chain", "far"] (spSh C)) (mSu : mg "sum" = none) (mL : mg "list" = none) : FnOk P w K mg base CX0 5 f fd ["_law_told", "_law_far"] (spMp tM) := by
  have GLow : FnOk P w K mg base CX0 1 fL fdL ["_law_top", "_law_bottom"] spLow := ok_low DLow.F T.ma
  refine F.ok scMp (fun vs H Q E h => ?_) (fun cdv A outer s H vs Q E hr h => ?_)
  · obtain ⟨t, m, many, n, ws, ms, rfl, _⟩ := h
    rfl
  · obtain ⟨t, m, many, n, ws, ms, rfl, hT, G, m4, hn, hTM, q⟩ := h
    have hu := hu64 hr
    have hu1 := hu_of hr
    have r1 : Room 1 _ := hr.mono (by decide)
    have r3 : Room 3 _ := hr.mono (by decide)
    have r4 : Room 4 _ := hr.mono (by decide)
    refine ⟨_, (pss_cons (ps_set (i := 2) scMp.nd rfl (.inr rfl) (pe_disp1T hu1 (pps_cons (pe_tupRg rfl (by rfl) T.mt (prg_1 (by rfl) T.mr (pe_ix ix_tup (pv 0) pe_int (fun _ _ => rfl)))) pe_int pps_nil)))
      (pss_cons (ps_for PassesOwn.never rfl (pi_range1 (by rfl) T.mr (pa_cons (pv 1) pa_nil)) (pg_name (i := 3) scMp.nd rfl (.inl rfl)) (pss_cons (ps_set (i := 4) scMp.nd rfl (.inl rfl) pe_dnewT)
      (pss_cons (ps_for PassesOwn.never rfl (pi_keys (pe_frz (pv 2))) (pg_name (i := 5) scMp.nd rfl (.inl rfl)) (pss_one (ps_for PassesOwn.never rfl (pi_list (pe_ix ix_tup (pv 0) pe_int (fun _ _ => rfl))) (pg_tup rfl (pgs_cons (pg_name (i := 6) scMp.nd rfl (.inl rfl)) (pgs_cons (pg_name (i := 7) scMp.nd rfl (.inr rfl)) pgs_nil))) (pss_cons (ps_set (i := 8) scMp.nd rfl (.inl rfl) (pe_callTy call_tuple_of (by rfl) T.mt (by decide +kernel) (pa_cons (pe_lc (own := [("_law_place", 12)]) (g := gName 12) (tt := tYes) (te := (tOp (rIxT K) (tVar 7) (tVar 12))) rfl scMp.nd (pi_tup (pv 5)) (blkOk_by (N := ["_law_told", "_law_far", "_law_counts", "_law_turn", "_law_more", "_law_ends_here", "_law_weight", "_law_row", "_law_key", "_law_whole", "_law_alike", "_law_due", "_law_place", "_law_count"]) (sc := defScope sLawIsByMaps) (by decide +kernel)) (fun _ _ _ _ _ => by exact (pg_name (i := 12) scMp.nd rfl (.inl rfl))) (fun _ _ _ _ _ => pts_nil) (fun _ _ _ _ _ => by exact (pe_ix ix_tup (pv 7) (pv 12) (fun _ _ => rfl)))) pa_nil)))
      (pss_one (ps_dput (hu1) (pv 4) (pv 8) (pe_op op_add (pe_dget2 hu1 (pv 4) (pv 8) pe_int ⟨by rfl, by rfl, by rfl, by rfl⟩) (pe_op op_mul (pv 6) (pe_dget (hu1) (pv 2) (pv 5) (fun _ _ => rfl)))) rfl))))))
      (pss_one (ps_set (i := 2) scMp.nd rfl (.inr rfl) (pv 4))))))
      (pss_cons (ps_set (i := 9) scMp.nd rfl (.inr rfl) (pe_callB (cr_sum rfl) (by rfl) mSu (by decide +kernel) (pa_cons (pe_lstVals rfl (by rfl) mL (pv 2)) pa_nil)))
      (pss_cons (ps_setLc (i := 10) (own := [("_law_place", 12)]) (g := gName 12) (tt := tYes) (te := (tDGet2 (tVar 2) (tOp (rRepAny K) (tTup (tCons (tVar 12) tNil)) (tOp (rIxT K) (tVar 0) (tC (.int 0)))) (tC (.int 0)))) rfl scMp.nd rfl rfl (sw_true rfl rfl rfl (by decide +kernel)) (pi_range1 (by rfl) T.mr (pa_cons (pe_ix ix_tup (pv 0) pe_int (fun _ _ => rfl)) pa_nil)) (blkOk_by (N := ["_law_told", "_law_far", "_law_counts", "_law_turn", "_law_more", "_law_ends_here", "_law_weight", "_law_row", "_law_key", "_law_whole", "_law_alike", "_law_due", "_law_place", "_law_count"]) (sc := defScope sLawIsByMaps) (by decide +kernel)) (fun _ _ _ _ _ => by exact (pg_name (i := 12) scMp.nd rfl (.inl rfl))) (fun _ _ _ _ _ => pts_nil) (fun _ _ _ _ _ => by exact (pe_dget2 hu1 (pv 2) (pe_op op_repAny (pe_tup (pa_cons (pv 12) pa_nil)) (pe_ix ix_tup (pv 0) pe_int (fun _ _ => rfl))) pe_int ⟨by rfl, by rfl, by rfl, by rfl⟩)))
      (pss_cons (ps_setLc (i := 11) (own := [("_law_count", 13)]) (g := gName 13) (tt := tYes) (te := (tCall spLow [] E0 (tCons (tVar 13) (tCons (tVar 9) tNil)))) rfl scMp.nd rfl rfl (sw_true rfl rfl rfl (by decide +kernel)) (pi_list (pv 10)) (blkOk_by (N := ["_law_told", "_law_far", "_law_counts", "_law_turn", "_law_more", "_law_ends_here", "_law_weight", "_law_row", "_law_key", "_law_whole", "_law_alike", "_law_due", "_law_place", "_law_count"]) (sc := defScope sLawIsByMaps) (by decide +kernel)) (fun _ _ _ _ _ => by exact (pg_name (i := 13) scMp.nd rfl (.inl rfl))) (fun _ _ _ _ _ => pts_nil) (fun _ _ _ _ _ => by exact (pe_call GLow r1 (by rfl) DLow.g DLow.F.kp DLow.b .nil pass0 (pa_cons (pv 13) (pa_cons (pv 9) pa_nil)))))
      (pss_one (ps_ret (pe_cmpR (op_eqD hu) (pe_call GSh r3 (by rfl) DSh.g DSh.F.kp DSh.b .nil pass0 (pa_cons (pe_call GM r4 (by rfl) DM.g DM.F.kp DM.b .nil pass0 (pa_cons (pv 0) pa_nil)) (pa_cons (pv 1) pa_nil))) (pe_tup (pa_cons (pv 11) (pa_cons (pe_call GLow r1 (by rfl) DLow.g DLow.F.kp DLow.b .nil pass0 (pa_cons (pe_op op_sub (pv 9) (pe_callB (cr_sum rfl) (by rfl) mSu (by decide +kernel) (pa_cons (pv 10) pa_nil))) (pa_cons (pv 9) pa_nil))) pa_nil))) (nomark _))))))))), ?_⟩
    have m1 := G.m1
    have Wp := pow_big (whole_pos G) (whole_le G) hn
    have W9 := Nat.lt_trans Wp.2 (Nat.pow_lt_pow_right (a := 2) (m := 210) (n := 8999) (by decide) (by decide))
    have idl : (ids many).length = many := by unfold ids; rw [List.length_map, List.length_range]
    have ida : ∀ {i : Nat}, i < many → (ids many)[i]? = some (i : Int) := fun {i} h => by unfold ids; rw [List.getElem?_map, List.getElem?_range h]; rfl
    -- counts = {..: 1}
    refine fun d0 nd0 => ?_
    have s1 := same_new (o := .dT []) nd0
    have hT1 := hT.same s1
    refine ⟨.ref t, rfl, t, _, 0, _, rfl, rfl, SqT.of hT1.1, atI_nat (j := 0) rfl, _, rfl, RgOk.of_le (by omega) (by omega) (by omega) (by omega), fun ev nev => ?_⟩
    rw [rg_ends]
    have s2 := same_new (o := .tup ((ids many).map V.int)) nev
    have hd1 := s2 _ _ (upd_same (H := H) (a := d0) (o := HO.dT []))
    refine ⟨hd1, ev, (ids many).map Sum.inl, .int 1, rfl, by rw [key_intsC]; exact upd_same, ?_⟩
    show tSeq _ _ _ _ (upd (upd (upd H d0 (.dT [])) ev (.tup ((ids many).map V.int))) d0 (.dT [((ids many).map Sum.inl, V.int 1)]))
    have s3 : Same H (upd (upd (upd H d0 (.dT [])) ev (.tup ((ids many).map V.int))) d0 (.dT [((ids many).map Sum.inl, V.int 1)])) := fun b o e => by
      rw [upd_ne (ne_of_none e nd0)]
      exact s2 _ _ (s1 _ _ e)
    have hd2 : (upd (upd (upd H d0 (.dT [])) ev (.tup ((ids many).map V.int))) d0 (.dT [((ids many).map Sum.inl, V.int 1)])) d0 = some (.dT (encC (cntN ms mapM (ids many) 0))) := upd_same
    generalize upd (upd (upd H d0 (.dT [])) ev (.tup ((ids many).map V.int))) d0 (.dT [((ids many).map Sum.inl, V.int 1)]) = H2 at s3 hd2 ⊢
    refine ⟨_, rfl, _, rfl, by omega, by omega, ?_⟩
    refine for_range (lo := 0) (n := ((n : Int)).toNat) (fun i σ H' => ∃ d y3 y4 y5 y6 y7 y8, σ = [some (.ref t), some (.int (n : Int)), some (.ref d), y3, y4, y5, y6, y7, y8, none, none, none, none, none] ∧ Same H H' ∧ H d = none ∧ H' d = some (.dT (encC (cntN ms mapM (ids many) i))))
      ⟨d0, none, none, none, none, none, none, rfl, s3, nd0, hd2⟩ ?_ ?_
    · rintro i σ H3 hi ⟨d, y3, y4, y5, y6, y7, y8, rfl, s4, nHd, hd3⟩
      have hc := cntN_row G (many := many) i
      generalize hDe : cntN ms mapM (ids many) i = D at hd3 hc
      have lD := hc.len m4
      refine fun B nB => ?_
      have s5 := same_new (o := .dT []) nB
      have hB1 : (upd H3 B (.dT [])) B = some (.dT (encC [])) := upd_same
      have hd4 := s5 _ _ hd3
      have ndB : d ≠ B := ne_of_none hd3 nB
      have nHB : H B = none := s4.free nB
      have s45 := s4.trans s5
      show tSeq _ _ _ _ (upd H3 B (.dT []))
      generalize upd H3 B (.dT []) = H4 at s5 s45 hB1 hd4 ⊢
      refine ⟨.ref d, rfl, d, _, rfl, hd4, True.intro, fun od => ⟨d, od, rfl, .inr ⟨encC D, upd_same, ?_⟩⟩⟩
      have kF : ∀ b o, b ≠ d → H4 b = some o → (upd H4 d (.frz od (.dT (encC D)))) b = some o := fun b o nb e => by rw [upd_ne nb]; exact e
      have hdF : (upd H4 d (.frz od (.dT (encC D)))) d = some (.frz od (.dT (encC D))) := upd_same
      have hBF := kF _ _ ndB.symm hB1
      have sF : Same H (upd H4 d (.frz od (.dT (encC D)))) := fun b o e => kF _ _ (fun z => by rw [z, nHd] at e; cases e) (s45 _ _ e)
      generalize upd H4 d (.frz od (.dT (encC D))) = HF at kF hdF hBF sF ⊢
      have hTF := hT.same sF
      have nB' : ∀ {b o}, H b = some o → b ≠ B := fun e z => by rw [z, nHB] at e; cases e
      let outer : Cnt → List Int × Int → Cnt := fun X p => ms.foldl (fun X m => addC X (mapM m p.1) (p.2 * m.1)) X
      refine for_it walk_keysT (fun i' σ H' => ∃ y5 y6 y7 y8, σ = [some (.ref t), some (.int (n : Int)), some (.ref d), some (.int (0 + (i : Int))), some (.ref B), y5, y6, y7, y8, none, none, none, none, none] ∧ (∀ b o, b ≠ B → HF b = some o → H' b = some o) ∧ H' B = some (.dT (encC ((D.take i').foldl outer []))) ∧ CntR many ((D.take i').foldl outer []))
        ⟨y5, y6, y7, y8, rfl, fun _ _ _ e => e, by rw [List.take_zero]; exact hBF, by rw [List.take_zero]; exact ⟨List.nodup_nil, fun _ h => nomatch h⟩⟩ (fun i' σ H' _ ⟨_, _, _, _, _, k, _⟩ => k _ _ ndB hdF) ?_ ?_
      · rintro i' x σ H5 H5' hi' ⟨y5, y6, y7, y8, rfl, k5, hB5, hc5⟩ ⟨rfl, k, v, qa, ekv, rfl, hqa⟩
        obtain ⟨p, hp, rfl, rfl⟩ := encC_at ekv
        have gp := hc.2 p (List.mem_of_getElem? hp)
        have hq : H5' qa = some (.tup (p.1.map V.int)) := by rw [hqa, key_intsC]
        have nqB : qa ≠ B := fun z => by rw [z, hB5] at hq; cases hq
        have ht5 := k5 _ _ (nB' hT.1) hTF.1
        refine ⟨.ref t, rfl, t, _, 1, _, rfl, rfl, SqT.of ht5, atI_nat (j := 1) rfl, m, rfl, ⟨_, SqL.of (k5 _ _ (nB' hT.2.1) hTF.2.1)⟩, ?_⟩
        refine for_list (K := K) (a := m) (xs := ws) (fun j σ H' => ∃ y6 y7 y8, σ = [some (.ref t), some (.int (n : Int)), some (.ref d), some (.int (0 + (i : Int))), some (.ref B), some (.ref qa), y6, y7, y8, none, none, none, none, none] ∧ (∀ b o, b ≠ B → H5' b = some o → H' b = some o) ∧
            H' B = some (.dT (encC ((ms.take j).foldl (fun X m => addC X (mapM m p.1) (p.2 * m.1)) ((D.take i').foldl outer [])))) ∧ CntR many ((ms.take j).foldl (fun X m => addC X (mapM m p.1) (p.2 * m.1)) ((D.take i').foldl outer [])))
          ⟨y6, y7, y8, rfl, fun _ _ _ e => e, by rw [List.take_zero]; exact hB5, by rw [List.take_zero]; exact hc5⟩ (fun j σ H' _ ⟨_, _, _, _, k, _⟩ => SqL.of (k _ _ (nB' hT.2.1) (k5 _ _ (nB' hT.2.1) hTF.2.1))) ?_ ?_
        · rintro j v σ H6 hv ⟨y6, y7, y8, rfl, k6, hB6, hc6⟩
          obtain ⟨mv, emv, ta, tb, rfl, hta, htb⟩ := hTF.2.2.get' hv
          have gm := G.mv mv (List.mem_of_getElem? emv)
          have nta : ta ≠ B := fun z => by rw [z, hBF] at hta; cases hta
          have ntb : tb ≠ B := fun z => by rw [z, hBF] at htb; cases htb
          have hta6 := k6 _ _ nta (k5 _ _ nta hta)
          have htb6 := k6 _ _ ntb (k5 _ _ ntb htb)
          have hq6 := k6 _ _ nqB hq
          have hd6 := k6 _ _ ndB (k5 _ _ ndB hdF)
          refine ⟨ta, _, rfl, SqT.of hta6, rfl, _, _, rfl, _, _, rfl, rfl, ?_⟩
          refine ⟨.ref qa, rfl, qa, rfl, ⟨_, SqT.of hq6⟩, fun A1 nA1 => ?_⟩
          refine lc_tup (K := K) (a := qa) (xs := p.1.map V.int) (fun e H' => Same H6 H' ∧ H' A1 = some (.lst ((((p.1.take e).map (goK mv.2))).map V.int))) ⟨same_new nA1, by rw [upd_same]; rfl⟩ (fun e H' _ h => SqT.of (h.1 _ _ hq6)) ?_ ?_
          · rintro e u H7 hu7 ⟨s7, hA⟩
            rw [List.getElem?_map] at hu7
            obtain ⟨z, hz, rfl⟩ := Option.map_eq_some_iff.mp hu7
            obtain ⟨z0, z1⟩ := gp.2 z (List.mem_of_getElem? hz)
            have hl := (List.getElem?_eq_some_iff.mp hz).1
            have gl := gp.1
            refine ⟨rfl, .ref tb, rfl, .int z, rfl, tb, _, z, _, rfl, rfl, SqT.of (s7 _ _ htb6), at_of (j := z.toNat) (by omega) (at_goK z0 (by rw [gm.2.2.1]; omega)), ?_⟩
            refine ⟨_, hA, ?_, fun b o eb => by rw [upd_ne (ne_of_none eb nA1)]; exact s7 _ _ eb, ?_⟩
            · rw [List.length_map, List.length_map, List.length_take]
              exact small8 (by omega)
            · rw [upd_same, take_snoc hz, List.map_append, List.map_append]
              rfl
          · rintro H7 ⟨s7, hA⟩
            rw [List.length_map, List.take_length] at hA
            refine ⟨A1, _, rfl, .inl ⟨SqL.of hA, fun L nL => ?_⟩⟩
            have s8 := same_new (o := .tup ((mapM mv p.1).map V.int)) nL
            have hL : (upd H7 L (.tup ((mapM mv p.1).map V.int))) L = some (.tup ((((mapM mv p.1).map (Sum.inl (β := Str)))).map kV)) := by rw [key_intsC]; exact upd_same
            have s68 := s7.trans s8
            show gName 8 (V.ref L) _ (upd H7 L (.tup ((mapM mv p.1).map V.int))) _
            generalize upd H7 L (.tup ((mapM mv p.1).map V.int)) = H8 at s68 hL ⊢
            have hB8 := s68 _ _ hB6
            have hq8 : H8 qa = some (.tup ((p.1.map (Sum.inl (β := Str))).map kV)) := by rw [key_intsC]; exact s68 _ _ hq6
            refine ⟨.ref B, rfl, B, rfl, .inr ⟨_, .inl hB8⟩, .ref L, rfl, _, DGet.t hB8 hL, ?_⟩
            rw [encC_get]
            have hval : valV (encC D) (p.1.map Sum.inl) = some (.int p.2) := valC_at hc.1 hp
            refine ⟨.int mv.1, rfl, .ref d, rfl, .ref qa, rfl, d, _, rfl, (hval ▸ .inr ⟨encC D, p.1.map Sum.inl, qa, .inr ⟨od, s68 _ _ hd6⟩, rfl, hq8, rfl⟩ : DGet H8 d (.ref qa) (some (.int p.2))), mv.1, p.2, rfl, rfl, .inl ⟨by have := gm.1; omega, by have := gm.2.1; omega⟩, _, _, rfl, rfl, ?_⟩
            have l256 := hc6.len m4
            rw [Int.mul_comm mv.1 p.2]
            refine ⟨.ref B, rfl, .ref L, rfl, B, _, rfl, DPut.t hB8 hL (lt1k (by rw [encC_len]; omega)), ?_⟩
            refine ⟨_, _, _, rfl, fun b o nb e => by rw [upd_ne nb]; exact s68 _ _ (k6 b o nb e), ?_, ?_⟩
            · rw [upd_same, foldl_snoc emv]
              exact congrArg (fun z => some (HO.dT z)) (encC_put hc6.1)
            · rw [foldl_snoc emv]
              exact hc6.add (mapM_good gm gp) _
        · rintro σ H6 ⟨y6, y7, y8, rfl, k6, hB6, hc6⟩
          rw [hT.2.2.length, List.take_length] at hB6 hc6
          refine ⟨_, _, _, _, rfl, fun b o nb e => k6 b o nb (k5 b o nb e), ?_, ?_⟩
          · rw [foldl_snoc hp]
            exact hB6
          · rw [foldl_snoc hp]
            exact hc6
      · rintro σ H5 ⟨y5, y6, y7, y8, rfl, k5, hB5, hc5⟩
        rw [encC_len, List.take_length] at hB5
        refine ⟨.ref B, rfl, B, _, _, _, _, _, _, rfl, fun b o e => k5 b o (nB' e) (sF _ _ e), nHB, ?_⟩
        rw [← hDe] at hB5
        exact hB5
    · rintro σ H3 ⟨d, y3, y4, y5, y6, y7, y8, rfl, s4, nHd, hd3⟩
      rw [show ((n : Int)).toNat = n by omega] at hd3
      have hc := cntN_row G (many := many) n
      have l256 := hc.len m4
      refine ⟨.ref d, rfl, d, _, rfl, hd3, by rw [encC_len]; omega, fun A1 nA1 => ?_⟩
      rw [encC_vals]
      have s5 := same_new (o := .lst (((cntN ms mapM (ids many) n).map (·.2)).map V.int)) nA1
      refine ⟨A1, _, rfl, SqL.of upd_same, ?_⟩
      rw [cntN_sum]
      have hd5 := s5 _ _ hd3
      have s45 := s4.trans s5
      show gName 9 _ _ (upd H3 A1 (.lst (((cntN ms mapM (ids many) n).map (·.2)).map V.int))) _
      generalize upd H3 A1 (.lst (((cntN ms mapM (ids many) n).map (·.2)).map V.int)) = H5 at s45 hd5 ⊢
      have hT5 := hT.same s45
      -- alike
      refine ⟨.ref t, rfl, t, _, 0, _, rfl, rfl, SqT.of hT5.1, atI_nat (j := 0) rfl, _, rfl, by omega, by omega, fun L nL => ?_⟩
      refine lc_range (lo := 0) (n := ((many : Int)).toNat) (fun i H' => Same H5 H' ∧ H' L = some (.lst ((((ids many).take i).map (shrN many ms n)).map V.int))) ⟨same_new nL, by rw [upd_same]; rfl⟩ ?_ ?_
      · rintro i H6 hi ⟨s6, hL⟩
        have hi' : i < many := by omega
        have hd6 := s6 _ _ hd5
        refine ⟨rfl, .ref d, rfl, d, rfl, .inr ⟨_, .inl hd6⟩, .int (0 + (i : Int)), rfl, (by show 1 ≤ sizeLine; decide), fun tp ntp => ?_⟩
        have s7 := same_new (o := .tup [.int (0 + (i : Int))]) ntp
        have hT7 := hT5.same (s6.trans s7)
        refine ⟨.ref t, rfl, t, _, 0, _, rfl, rfl, SqT.of hT7.1, atI_nat (j := 0) rfl, ?_⟩
        refine rep_ints (p := 0 + (i : Int)) (k := many) upd_same m1 (by omega) fun r H8 s8 hr8 => ?_
        have hk8 : H8 r = some (.tup (((List.replicate many (i : Int)).map (Sum.inl (β := Str))).map kV)) := by rw [key_intsC, hr8, Int.zero_add]
        have s68 := (s6.trans s7).trans s8
        refine ⟨_, DGet.t (s68 _ _ hd5) hk8, ?_⟩
        rw [encC_get, maps_shr G]
        refine ⟨_, s8 _ _ (s7 _ _ hL), ?_, fun b o e => ?_, ?_⟩
        · rw [List.length_map, List.length_map, List.length_take]
          exact small8 (by omega)
        · rw [upd_ne (ne_of_none e nL)]
          exact s68 _ _ e
        · rw [upd_same, take_snoc (ida hi'), List.map_append, List.map_append]
          rfl
      rintro H6 ⟨s6, hL⟩
      rw [show ((many : Int)).toNat = many by omega, List.take_of_length_le (by rw [idl]; exact Nat.le_refl _)] at hL
      -- due
      refine ⟨.ref L, rfl, L, rfl, ⟨_, SqL.of hL⟩, fun E2 nE => ?_⟩
      refine lc_list (K := K) (a := L) (xs := ((ids many).map (shrN many ms n)).map V.int) (fun i H' => Same H6 H' ∧ ∃ us, H' E2 = some (.lst us) ∧ Paired (fun u p => FracAt H' u (frac (shrN many ms n p) (whole ms ^ n)) ∧ u ≠ .ref E2) us ((ids many).take i))
        ⟨same_new nE, [], upd_same, by rw [List.take_zero]; exact .nil⟩ (fun i H' _ h => SqL.of (h.1 _ _ hL)) ?_ ?_
      · rintro i v H7 hv ⟨s7, us, hE, pu⟩
        rw [List.getElem?_map, List.getElem?_map] at hv
        obtain ⟨z, hz, rfl⟩ := Option.map_eq_some_iff.mp hv
        obtain ⟨p, hp, rfl⟩ := Option.map_eq_some_iff.mp hz
        have hi' : i < many := by rw [← idl]; exact (List.getElem?_eq_some_iff.mp hp).1
        refine ⟨rfl, _, rfl, _, rfl, shrN many ms n p, whole ms ^ n, rfl, Wp.1, W9, fun t' nt => ?_⟩
        have s8 := same_new (o := .tup [.int (frac (shrN many ms n p) (whole ms ^ n)).1, .int (frac (shrN many ms n p) (whole ms ^ n)).2]) nt
        have ntE : t' ≠ E2 := fun z => by rw [z, hE] at nt; cases nt
        have kp : ∀ b o, b ≠ E2 → H7 b = some o → (upd (upd H7 t' (.tup [.int (frac (shrN many ms n p) (whole ms ^ n)).1, .int (frac (shrN many ms n p) (whole ms ^ n)).2])) E2 (.lst (us ++ [.ref t']))) b = some o := fun b o nb e => by
          rw [upd_ne nb]
          exact s8 _ _ e
        refine ⟨us, s8 _ _ hE, ?_, fun b o e => kp b o (ne_of_none e nE) (s7 _ _ e), us ++ [.ref t'], upd_same, ?_⟩
        · have := pu.length
          rw [List.length_take] at this
          exact small8 (by omega)
        · rw [take_snoc hp]
          refine paired_end ⟨⟨t', rfl, by rw [upd_ne ntE]; exact upd_same⟩, fun z => by injection z with z; exact ntE z⟩ (L2.Paired.mapP pu fun u p h => ?_)
          obtain ⟨⟨t2, e1, e2⟩, nu⟩ := h
          exact ⟨⟨t2, e1, kp _ _ (fun z => nu (by rw [e1, z])) e2⟩, nu⟩
      · rintro H7 ⟨s7, us, hE, pu⟩
        rw [List.length_map, List.length_map, List.take_length] at pu
        have s47 := (s45.trans s6).trans s7
        have hM7 := tab_same s47 hTM
        refine ⟨.ref t, rfl, t, m, many, ws, ms, rfl, hT.same s47, G, hM7, fun H8 x hC nx g8 hM8 => ?_⟩
        have tk : ∀ {b : Addr} {o : HO}, H7 b = some o → (∀ qs, o ≠ .tbl qs) → H8 b = some o := fun e no => Gr.tab hM7 g8 no e
        refine ⟨.int (n : Int), rfl, x, many, ms, n, rfl, hC, G, hn, fun t2 H9 s9 hsh => ?_⟩
        have hE9 := s9 _ _ (tk hE fun _ z => nomatch z)
        have hL9 := s9 _ _ (tk (s7 _ _ hL) fun _ z => nomatch z)
        have pu9 : Paired (fun u p => FracAt H9 u (frac (shrN many ms n p) (whole ms ^ n))) us (ids many) := L2.Paired.mapP pu fun u p h => by
          obtain ⟨⟨t3, e1, e2⟩, _⟩ := h
          exact ⟨t3, e1, s9 _ _ (tk e2 fun _ z => nomatch z)⟩
        refine ⟨.ref E2, rfl, _, rfl, .ref L, rfl, L, _, rfl, SqL.of hL9, _, _, rfl, rfl, _, rfl, ?_⟩
        refine ⟨_, _, rfl, Wp.1, W9, fun t4 nt4 => ?_⟩
        have s10 := same_new (o := .tup [.int (frac (restN many ms n) (whole ms ^ n)).1, .int (frac (restN many ms n) (whole ms ^ n)).2]) nt4
        have ht4 : (upd H9 t4 (.tup [.int (frac (restN many ms n) (whole ms ^ n)).1, .int (frac (restN many ms n) (whole ms ^ n)).2])) t4 = some (.tup [.int (frac (restN many ms n) (whole ms ^ n)).1, .int (frac (restN many ms n) (whole ms ^ n)).2]) := upd_same
        refine ⟨(by show 2 ≤ sizeLine; decide), fun t5 nt5 => ?_⟩
        have s11 := same_new (o := .tup [.ref E2, .ref t4]) nt5
        have s911 := s10.trans s11
        obtain ⟨l2, r2, us2, h1, h2, h3, h4⟩ := hsh
        obtain ⟨r2a, rfl, h4⟩ := h4
        have dp1 := dp_fracs (K := K) (L2.Paired.mapP h3 fun u p h => FracAt.same s911 h)
        have dp2 := dp_fracs (K := K) (L2.Paired.mapP pu9 fun u p h => FracAt.same s911 h)
        refine eq_same (d := shD many ms n) (.tup (SqT.of (s911 _ _ h1)) (.cons (.lst (SqL.of (s911 _ _ h2)) dp1) (.cons (dp_pair (p := frac (restN many ms n) (whole ms ^ n)) (s911 _ _ h4)) .nil)))
          (.tup (SqT.of upd_same) (.cons (.lst (SqL.of (s911 _ _ hE9)) dp2) (.cons (dp_pair (p := frac (restN many ms n) (whole ms ^ n)) (s11 _ _ ht4)) .nil))) (shD_sh many ms n) (by decide) ?_
        refine q _ (fun b o nb e => s911 _ _ (s9 _ _ (g8 b o nb (s47 _ _ e)))) (tab_same (s9.trans s911) hM8)
end
section
variable {P : Program} {w : World} {K : PySem.W.Frag} {mg : Str → Option Value} {base : Heap} {C : Addr}
/-! ### shares of a length that there isn't -/
def spShX (C CN : Addr) : Sp := fun vs H _ E => ∃ (x : Addr) (n : Int), vs = [.ref x, .int n] ∧ ¬ (0 ≤ n ∧ n < 21) ∧ n.natAbs ≤ 2000000 ∧ ∀ H', Same H H' → E (.ref CN) none H'
theorem ok_sharesX {f CN : Addr} {fd : FuncData} {tF : Tok} (F : Fun K "shares" "shares" sShares f fd) (N : OwnE K mg "NoSuch" CN) (gF : mg "MOST_FAR" = some (.int 20 tF)) (mr : mg "range" = none) : FnOk P w K mg base (L2.CX P w) 3 f fd ["chain", "far"] (spShX C CN) := by
  refine F.okX scSh (fun vs H Q E h => ?_) (fun cdv A outer s H vs Q E hr h => ?_)
  · obtain ⟨x, n, rfl, _⟩ := h
    rfl
  · obtain ⟨x, n, rfl, hn, hsm, q⟩ := h
    refine ⟨_, pss_cons (ps_if (pt_cmpR op_notIn_rng (pv 1) (pe_callTy cr_range1 (by rfl) mr (by decide +kernel) (pa_cons (pe_op op_add (pe_glob (v := .int 20) (by rfl) gF ⟨_, rfl⟩) pe_int) pa_nil)) (by with_unfolding_all rfl))
        (pss_one (ps_raise rfl (takes_of rfl rfl rfl rfl) (SkE.pmk_own1 PySem.F.excBase_ValueError N.x N.g N.k (raises_own N.b N.t) (by exact rfl) (pe_joined (.cons pe_str (.cons (pe_fmt (pe_glob (v := .int 20) (by rfl) gF ⟨_, rfl⟩)) (.cons pe_str (.cons (pe_fmt (pv 1)) .nil)))))))) pss_nil)
      pss_never, ?_⟩
    refine ⟨.int n, rfl, _, _, rfl, rfl, _, rfl, fun rp nrp => ?_⟩
    have s0 := same_new (o := .rng 0 (20 + 1)) nrp
    refine ⟨n, rp, 0, 21, rfl, rfl, upd_same, ?_⟩
    refine ⟨true, by rw [decide_eq_false hn]; rfl, iteT ?_⟩
    have hg := log_small hsm
    have g20 : ((20 : Int)).natAbs.log2 < 1920 := by decide
    refine ⟨_, rfl, (by decide), .inr ⟨20, rfl, g20, _, rfl, ?_, ?_⟩⟩
    · exact fitA (m := 100) (by decide) (int_len g20) (by decide)
    have k1 : (Str.empty ++ Str.ofString "shares are told of 0 to " ++ Str.ofString (toString (20 : Int))).length ≤ 100 := by decide +kernel
    refine ⟨_, rfl, fitA k1 (n := 100) (by decide) (by decide), .int n, rfl, .inr ⟨n, rfl, hg, _, rfl, ?_, ?_⟩⟩
    · exact fitA (app_le k1 (n := 100) (by decide)) (int_len hg) (by decide)
    · exact q _ s0
/-! ### _law_refused -/
theorem scRf : FnScope ["_law_chain_here", "_law_far", "e"] ["_law_chain_here", "_law_far"] (defScope sLawRefused) := ⟨rfl, rfl, rfl, by decide +kernel, rfl, by decide +kernel, by decide +kernel⟩
def spRf : Sp := fun vs H Q _ => ∃ (x : Addr) (n : Int), vs = [.ref x, .int n] ∧ ¬ (0 ≤ n ∧ n < 21) ∧ n.natAbs ≤ 2000000 ∧ ∀ H', Same H H' → Q (.bl true) H'
theorem ok_refused {f fK CL CE c1 c2 c3 c4 c5 c6 : Addr} {fd fdK : FuncData} (F : Fun K "_law_refused" "_law_refused" sLawRefused f fd) (R : RefG K mg "NoSuch" "BadChain" "BadText" "NeverOne" "NotOne" "NotOrdered" "TooMany" CL CE c1 c2 c3 c4 c5 c6)
    (DK : Df K mg "shares" sShares ["chain", "far"] fK fdK) (GK : FnOk P w K mg base (L2.CX P w) 3 fK fdK ["chain", "far"] (spShX C CE)) :
    FnOk P w K mg base CX0 4 f fd ["_law_chain_here", "_law_far"] spRf := by
  refine F.ok scRf (fun vs H Q E h => ?_) (fun cdv A outer s H vs Q E hr h => ?_)
  · obtain ⟨x, n, rfl, _⟩ := h
    rfl
  · obtain ⟨x, n, rfl, hn, hsm, q⟩ := h
    refine ⟨_, pss_cons (ps_try_as (i := 2) (tb := fun W => tDrop (tCallS (spShX C CE) (WE W) (tCons (tVar 0) (tCons (tVar 1) tNil))))
        (ts := fun a cls d D σ H => (cls = .ref CE ∧ d = none) ∧ t_suiteG K 2 CE c1 c2 c3 c4 c5 c6 a D σ H) (Wout := fun _ _ _ _ => False) rfl rfl scRf.nd rfl rfl ⟨rfl, by decide, .inl R.gL⟩ takes0
        (fun W pn xe tk _ => pss_one (ps_expr (by exact (pe_callS GK hr (by rfl) DK.g DK.F.kp DK.b (fun σ => passAt tk σ) (by exact (pa_cons (pv 0) (pa_cons (pv 1) pa_nil)))))))
        (fun a oe cls d pn hz hf => pss_given fun hp => by
          obtain ⟨rfl, rfl⟩ := hp
          exact (pss_cons (ps_if (pt_val (pe_callB (call_exT R.E hz hf) (by rfl) R.mi (by decide +kernel) (pa_cons (pv 2) (pa_cons (pe_tup (pa_cons (pe_glob (v := .ref c1) (by rfl) R.g1 rfl) (pa_cons (pe_glob (v := .ref c2) (by rfl) R.g2 rfl) (pa_cons (pe_glob (v := .ref c3) (by rfl) R.g3 rfl) (pa_cons (pe_glob (v := .ref c4) (by rfl) R.g4 rfl) (pa_cons (pe_glob (v := .ref c5) (by rfl) R.g5 rfl) (pa_cons (pe_glob (v := .ref c6) (by rfl) R.g6 rfl) pa_nil))))))) pa_nil)))) (pss_one (ps_ret pe_bl)) pss_nil)
            (pss_one (ps_ret (pe_and (pe_callB (call_isE R.E hz hf) (by rfl) R.mi (by decide +kernel) (pa_cons (pv 2) (pa_cons (pe_glob (v := .ref CE) (by rfl) R.N.g rfl) pa_nil))) (pe_one (pe_callB (call_isE R.E hz hf) (by rfl) R.mi (by decide +kernel) (pa_cons (pv 2) (pa_cons (pe_bltn (v := .ty "ValueError") (by rfl) R.mv (by decide +kernel) rfl) pa_nil))))))))))
      (pss_one (ps_ret pe_bl)), ?_⟩
    refine ⟨.ref x, rfl, .int n, rfl, x, n, rfl, hn, hsm, fun H' s' => ?_⟩
    refine ⟨true, R.ex, fun _ a na => ⟨⟨rfl, rfl⟩, ?_⟩, fun z => nomatch z⟩
    exact suiteG R rfl fun p o np => q _ (s'.trans (same_new np))
end
section
variable {P : Program} {w : World} {K : PySem.W.Frag} {mg : Str → Option Value} {base : Heap}
/-! ### _law_add, _law_sum -/
theorem scAdd : FnScope ["_law_one", "_law_other"] ["_law_one", "_law_other"] (defScope sLawAdd) := ⟨rfl, rfl, rfl, by decide +kernel, rfl, by decide +kernel, by decide +kernel⟩
theorem scSum : FnScope ["_law_some", "_law_found", "_law_one"] ["_law_some"] (defScope sLawSum) := ⟨rfl, rfl, rfl, by decide +kernel, rfl, by decide +kernel, by decide +kernel⟩
theorem scIsShare : FnScope ["_law_found", "_law_number"] ["_law_found"] (defScope sLawIsShare) := ⟨rfl, rfl, rfl, by decide +kernel, rfl, by decide +kernel, by decide +kernel⟩
def Big (x : Int) : Prop := x.natAbs < 2 ^ 4000
theorem Big.mul {x y : Int} (hx : Big x) (hy : Big y) : (x * y).natAbs < 2 ^ 8999 := by
  rw [Int.natAbs_mul]
  refine Nat.lt_of_lt_of_le (Nat.mul_lt_mul'' hx hy) ?_
  rw [← Nat.pow_add]
  exact Nat.pow_le_pow_right (by decide) (by decide)
theorem Big.ok {x y : Int} (hx : Big x) (hy : Big y) : CMulW x y := wide_mul hx hy (by decide) (by decide) (by decide)
theorem Big.of_le {x : Int} {m : Nat} (h : x.natAbs ≤ m) (hm : m < 2 ^ 4000 := by decide) : Big x := Nat.lt_of_le_of_lt h hm
def spAdd : Sp := fun vs H Q _ => ∃ (v u : V) (p r : Int × Int), vs = [v, u] ∧ FracAt H v p ∧ FracAt H u r ∧ 0 < p.2 ∧ 0 < r.2 ∧ Big p.1 ∧ Big p.2 ∧ Big r.1 ∧ Big r.2 ∧
  ∀ t, H t = none → Q (.ref t) (upd H t (.tup [.int (frac (p.1 * r.2 + r.1 * p.2) (p.2 * r.2)).1, .int (frac (p.1 * r.2 + r.1 * p.2) (p.2 * r.2)).2]))
theorem ok_add {f fL : Addr} {fd fdL : FuncData} (F : Fun K "_law_add" "_law_add" sLawAdd f fd) (FL : Fun K "_law_low" "_law_low" sLawLow fL fdL) (bL : Binds K fdL ["_law_top", "_law_bottom"] []) (gL : mg "_law_low" = some (.ref fL)) (ma : mg "abs" = none) :
    FnOk P w K mg base CX0 2 f fd ["_law_one", "_law_other"] spAdd := by
  have GL : FnOk P w K mg base CX0 1 fL fdL ["_law_top", "_law_bottom"] spLow := ok_low FL ma
  refine F.ok scAdd (fun vs H Q E h => ?_) (fun cdv A outer s H vs Q E hr h => ?_)
  · obtain ⟨v, u, p, r, rfl, _⟩ := h
    rfl
  · obtain ⟨v, u, p, r, rfl, ⟨a, rfl, ha⟩, ⟨b, rfl, hb⟩, p2, r2, b1, b2, b3, b4, q⟩ := h
    have sa : SqT K H a [.int p.1, .int p.2] := SqT.of ha
    have sb : SqT K H b [.int r.1, .int r.2] := SqT.of hb
    refine ⟨_, pss_one (ps_ret (pe_call GL hr (by rfl) gL FL.kp bL .nil pass0 (pa_cons (pe_op op_add (pe_op op_mulW (pe_ix ix_tup (pv 0) pe_int (fun _ _ => rfl)) (pe_ix ix_tup (pv 1) pe_int (fun _ _ => rfl)))
        (pe_op op_mulW (pe_ix ix_tup (pv 1) pe_int (fun _ _ => rfl)) (pe_ix ix_tup (pv 0) pe_int (fun _ _ => rfl))))
      (pa_cons (pe_op op_mulW (pe_ix ix_tup (pv 0) pe_int (fun _ _ => rfl)) (pe_ix ix_tup (pv 1) pe_int (fun _ _ => rfl))) pa_nil)))), ?_⟩
    refine ⟨.ref a, rfl, a, _, 0, _, rfl, rfl, sa, atI_nat (j := 0) rfl, .ref b, rfl, b, _, 1, _, rfl, rfl, sb, atI_nat (j := 1) rfl, p.1, r.2, rfl, rfl, b1.ok b4, ?_⟩
    refine ⟨.ref b, rfl, b, _, 0, _, rfl, rfl, sb, atI_nat (j := 0) rfl, .ref a, rfl, a, _, 1, _, rfl, rfl, sa, atI_nat (j := 1) rfl, r.1, p.2, rfl, rfl, b3.ok b2, _, _, rfl, rfl, ?_⟩
    refine ⟨.ref a, rfl, a, _, 1, _, rfl, rfl, sa, atI_nat (j := 1) rfl, .ref b, rfl, b, _, 1, _, rfl, rfl, sb, atI_nat (j := 1) rfl, p.2, r.2, rfl, rfl, b2.ok b4, ?_⟩
    exact ⟨_, _, rfl, Int.mul_pos p2 r2, b2.mul b4, fun t nt => q t nt⟩
def spSumL : Sp := fun vs H Q _ => ∃ (l : Addr) (us : List V) (xs : List Int) (z : Int), vs = [.ref l] ∧ H l = some (.lst us) ∧ Paired (fun u x => FracAt H u (frac x z)) us xs ∧ 0 < z ∧ Big z ∧ (∀ x ∈ xs, 0 ≤ x) ∧ Big xs.sum ∧
  ∀ t H', Same H H' → H' t = some (.tup [.int (frac xs.sum z).1, .int (frac xs.sum z).2]) → Q (.ref t) H'
theorem Big.mono {a b : Int} (h0 : 0 ≤ a) (h : a ≤ b) (hb : Big b) : Big a := Nat.lt_of_le_of_lt (show a.natAbs ≤ b.natAbs by omega) hb
theorem frac_big {x z : Int} (hx : 0 ≤ x) (h1 : Big x) (hz : 0 < z) (h2 : Big z) : Big (frac x z).1 ∧ Big (frac x z).2 := by
  have a1 := frac_nn hx hz
  have a2 := frac_top hx hz
  have a3 := frac_pos (x := x) hz
  have a4 := frac_le (x := x) hz
  exact ⟨h1.mono a1 a2, h2.mono (by omega) a4⟩
theorem sum_nn : ∀ {xs : List Int}, (∀ x ∈ xs, 0 ≤ x) → 0 ≤ xs.sum
  | [], _ => by simp
  | x :: r, h => by
    have h1 := h x List.mem_cons_self
    have h2 := sum_nn (xs := r) fun y hy => h y (List.mem_cons_of_mem _ hy)
    rw [List.sum_cons]
    omega
theorem sum_take_le : ∀ {xs : List Int} (i : Nat), (∀ x ∈ xs, 0 ≤ x) → (xs.take i).sum ≤ xs.sum
  | [], i, _ => by simp
  | x :: r, 0, h => by
    rw [List.take_zero]
    exact sum_nn h
  | x :: r, i + 1, h => by
    have h2 := sum_take_le (xs := r) i fun y hy => h y (List.mem_cons_of_mem _ hy)
    rw [List.take_succ_cons, List.sum_cons, List.sum_cons]
    omega
theorem paired_at {α β : Type} {F : α → β → Prop} : ∀ {l₁ : List α} {l₂ : List β} {i : Nat} {a : α}, Paired F l₁ l₂ → l₁[i]? = some a → ∃ b, l₂[i]? = some b ∧ F a b
  | _, _, _, _, .nil, e => by simp at e
  | _, _, 0, _, .cons h _, e => by
    simp at e
    subst e
    exact ⟨_, rfl, h⟩
  | _, _, i + 1, a, .cons _ t, e => by
    obtain ⟨b, h1, h2⟩ := paired_at (i := i) (a := a) t (by simpa using e)
    exact ⟨b, by simpa using h1, h2⟩
theorem ok_sum {f fA fL : Addr} {fd fdA fdL : FuncData} (F : Fun K "_law_sum" "_law_sum" sLawSum f fd) (FA : Fun K "_law_add" "_law_add" sLawAdd fA fdA) (bA : Binds K fdA ["_law_one", "_law_other"] []) (gA : mg "_law_add" = some (.ref fA))
    (FL : Fun K "_law_low" "_law_low" sLawLow fL fdL) (bL : Binds K fdL ["_law_top", "_law_bottom"] []) (gL : mg "_law_low" = some (.ref fL)) (ma : mg "abs" = none) : FnOk P w K mg base CX0 3 f fd ["_law_some"] spSumL := by
  have GA : FnOk P w K mg base CX0 2 fA fdA ["_law_one", "_law_other"] spAdd := ok_add FA FL bL gL ma
  refine F.ok scSum (fun vs H Q E h => ?_) (fun cdv A outer s H vs Q E hr h => ?_)
  · obtain ⟨l, us, xs, z, rfl, _⟩ := h
    rfl
  · obtain ⟨l, us, xs, z, rfl, hl, hp, z0, z1, hx, hs, q⟩ := h
    refine ⟨_, pss_cons (ps_set (i := 1) scSum.nd rfl (.inl rfl) (pe_tup (pa_cons pe_int (pa_cons pe_int pa_nil))))
      (pss_cons (ps_for PassesOwn.never rfl (pi_list (pv 0)) (pg_name (i := 2) scSum.nd rfl (.inl rfl)) (pss_one (ps_set (i := 1) scSum.nd rfl (.inl rfl) (pe_call GA hr (by rfl) gA FA.kp bA .nil pass0 (pa_cons (pv 1) (pa_cons (pv 2) pa_nil))))))
      (pss_one (ps_ret (pv 1)))), ?_⟩
    refine ⟨by show 2 ≤ sizeLine; decide, fun t nt => ?_⟩
    have s0 : Same H (upd H t (.tup [.int 0, .int 1])) := same_new nt
    refine ⟨.ref l, rfl, l, rfl, ⟨_, SqL.of (s0 _ _ hl)⟩, for_list (K := K) (a := l) (xs := us) (fun i σ H' => ∃ t y, σ = [some (.ref l), some (.ref t), y] ∧ Same H H' ∧ FracAt H' (.ref t) (frac (xs.take i).sum z))
      ⟨t, none, rfl, s0, t, rfl, ?_⟩ (fun i σ H' _ ⟨t, y, e, s1, _⟩ => SqL.of (s1 _ _ hl)) ?_ ?_⟩
    · rw [List.take_zero, List.sum_nil, frac_zero z0]
      exact upd_same
    · rintro i u σ H' hu ⟨t', y, rfl, s1, hf⟩
      obtain ⟨x, ex, fx⟩ := paired_at hp hu
      have x0 := hx x (List.mem_of_getElem? ex)
      have et := sum_take ex
      have le1 := sum_take_le i hx
      have le2 := sum_take_le (i + 1) hx
      have nn1 : 0 ≤ (xs.take i).sum := sum_nn fun y hy => hx y (List.mem_of_mem_take hy)
      obtain ⟨b1, b2⟩ := frac_big nn1 (hs.mono nn1 (by omega)) z0 z1
      obtain ⟨b3, b4⟩ := frac_big x0 (hs.mono x0 (by omega)) z0 z1
      refine ⟨.ref t', rfl, u, rfl, .ref t', u, _, _, rfl, hf, fx.same s1, frac_pos z0, frac_pos z0, b1, b2, b3, b4, fun t2 nt2 => ?_⟩
      refine ⟨t2, some u, rfl, s1.trans (same_new nt2), t2, rfl, ?_⟩
      rw [et, frac_add z0]
      exact upd_same
    · rintro σ H' ⟨t', y, rfl, s1, t2, e, hf⟩
      cases e
      have el : us.length = xs.length := hp.length
      rw [el, List.take_length] at hf
      exact ⟨.ref t', rfl, q t' H' s1 hf⟩
/-! ### _law_is_share, _law_are_shares -/
def IsFr (p : Int × Int) : Prop := 0 ≤ p.1 ∧ 0 < p.2 ∧ p.2.natAbs < 2 ^ 8999 ∧ frac p.1 p.2 = p
def spIsShare : Sp := fun vs H Q _ => ∃ (v : V) (p : Int × Int), vs = [v] ∧ FracAt H v p ∧ IsFr p ∧ ∀ H', Same H H' → Q (.bl true) H'
theorem kit_ib : PySem.W.kitOne K (.type "int") (.type "bool") = some false := kit_ty (by decide +kernel)
theorem kit_ii : PySem.W.kitOne K (.type "int") (.type "int") = some true := kit_ty (by decide +kernel)
theorem ok_isshare {f fL : Addr} {fd fdL : FuncData} (F : Fun K "_law_is_share" "_law_is_share" sLawIsShare f fd) (FL : Fun K "_law_low" "_law_low" sLawLow fL fdL) (bL : Binds K fdL ["_law_top", "_law_bottom"] []) (gL : mg "_law_low" = some (.ref fL)) (ma : mg "abs" = none)
    (mi : mg "isinstance" = none) (mt : mg "tuple" = none) (mb : mg "bool" = none) (mI : mg "int" = none) (ml : mg "len" = none) :
    FnOk P w K mg base CX0 2 f fd ["_law_found"] spIsShare := by
  have GL : FnOk P w K mg base CX0 1 fL fdL ["_law_top", "_law_bottom"] spLow := ok_low FL ma
  refine F.ok scIsShare (fun vs H Q E h => ?_) (fun cdv A outer s H vs Q E hr h => ?_)
  · obtain ⟨v, p, rfl, _⟩ := h
    rfl
  · obtain ⟨v, p, rfl, ⟨t, rfl, ht⟩, ⟨p1, p2, p3, p4⟩, q⟩ := h
    have st : SqT K H t [.int p.1, .int p.2] := SqT.of ht
    have hu := hu64 hr
    refine ⟨_, pss_cons (ps_if (PW.pt (pw_or (pt_not (pt_val (pe_callB RZ.call_isTy (by rfl) mi (by decide +kernel) (pa_cons (pv 0) (pa_cons (pe_bltn (v := .ty "tuple") (by rfl) mt (by decide +kernel) rfl) pa_nil)))))
          (pw_or1 (pt_cmpR op_ne (pe_callB call_len_seq (by rfl) ml PySem.boot_len (pa_cons (pv 0) pa_nil)) pe_int (nomark _))))) (pss_one (ps_ret pe_bl)) pss_nil)
      (pss_cons (ps_for PassesOwn.never rfl (pi_tup (pv 0)) (pg_name (i := 1) scIsShare.nd rfl (.inl rfl))
        (pss_one (ps_if (PW.pt (pw_or (pt_val (pe_callB call_isi (by rfl) mi (by decide +kernel) (pa_cons (pv 1) (pa_cons (pe_bltn (v := .ty "bool") (by rfl) mb (by decide +kernel) rfl) pa_nil))))
          (pw_or1 (pt_not (pt_val (pe_callB call_isi (by rfl) mi (by decide +kernel) (pa_cons (pv 1) (pa_cons (pe_bltn (v := .ty "int") (by rfl) mI (by decide +kernel) rfl) pa_nil)))))))) (pss_one (ps_ret pe_bl)) pss_nil)))
      (pss_one (ps_ret (pe_and (pe_cmpR op_ge (pe_ix ix_tup (pv 0) pe_int (fun _ _ => rfl)) pe_int (nomark _)) (pe_and (pe_cmpR op_gt (pe_ix ix_tup (pv 0) pe_int (fun _ _ => rfl)) pe_int (nomark _))
        (pe_one (pe_cmpR (op_eqD hu) (pe_call GL hr (by rfl) gL FL.kp bL .nil pass0 (pa_cons (pe_ix ix_tup (pv 0) pe_int (fun _ _ => rfl)) (pa_cons (pe_ix ix_tup (pv 0) pe_int (fun _ _ => rfl)) pa_nil))) (pv 0) (nomark _)))))))), ?_⟩
    refine ⟨.ref t, rfl, .ref t, "tuple", rfl, .tup ht, true, rfl, .ref t, rfl, t, _, rfl, .inr st, rfl, _, rfl, iteNS rfl ?_⟩
    refine ⟨.ref t, rfl, t, rfl, ⟨_, st⟩, for_tup (K := K) (a := t) (xs := [.int p.1, .int p.2]) (fun i σ H' => ∃ y, σ = [some (.ref t), y] ∧ H' = H) ⟨none, rfl, rfl⟩ (fun i σ H' _ ⟨y, _, e⟩ => by rw [e]; exact st) ?_ ?_⟩
    · rintro i u σ H' hu' ⟨y, rfl, rfl⟩
      obtain ⟨z, rfl⟩ : ∃ z, u = V.int z := by
        match i, hu' with
        | 0, e => exact ⟨_, (Option.some.inj e).symm⟩
        | 1, e => exact ⟨_, (Option.some.inj e).symm⟩
        | i + 2, e => simp at e
      refine ⟨.int z, rfl, .int z, .ty "bool", .type "int", .type "bool", false, rfl, .ty _, .base (.int z), kit_ib, false, rfl, ?_⟩
      refine ⟨.int z, rfl, .int z, .ty "int", .type "int", .type "int", true, rfl, .ty _, .base (.int z), kit_ii, true, rfl, ?_⟩
      exact ⟨_, rfl, rfl⟩
    · rintro σ H' ⟨y, rfl, rfl⟩
      refine ⟨.ref t, rfl, t, _, 0, _, rfl, rfl, st, atI_nat (j := 0) rfl, p.1, 0, rfl, rfl, _, rfl, ifD p1 ?_⟩
      refine ⟨.ref t, rfl, t, _, 1, _, rfl, rfl, st, atI_nat (j := 1) rfl, p.2, 0, rfl, rfl, _, rfl, ifD p2 ?_⟩
      refine ⟨.ref t, rfl, t, _, 0, _, rfl, rfl, st, atI_nat (j := 0) rfl, .ref t, rfl, t, _, 1, _, rfl, rfl, st, atI_nat (j := 1) rfl, p.1, p.2, rfl, p2, p3, fun t2 nt2 => ?_⟩
      have s1 := same_new (o := .tup [.int (frac p.1 p.2).1, .int (frac p.1 p.2).2]) nt2
      refine ⟨.ref t, rfl, _, _, dp_pair upd_same, dp_pair (s1 _ _ ht), rfl, rfl, ?_⟩
      rw [eqv_pair, p4, decide_eq_true rfl]
      rw [p4] at s1
      exact q _ s1
def nAre : List Str := ["_law_found", "_law_many", "_law_one"]
theorem scAre : FnScope ["_law_found", "_law_many", "_law_one"] ["_law_found", "_law_many"] (defScope sLawAreShares) := ⟨rfl, rfl, rfl, by decide +kernel, rfl, by decide +kernel, by decide +kernel⟩
def spAre : Sp := fun vs H Q _ => ∃ (l : Addr) (us : List V) (xs : List Int) (z : Int), vs = [.ref l, .int (xs.length : Int)] ∧ H l = some (.lst us) ∧ Paired (fun u x => FracAt H u (frac x z)) us xs ∧ 0 < z ∧ Big z ∧ (∀ x ∈ xs, 0 ≤ x) ∧ xs.sum = z ∧
  ∀ H', Same H H' → Q (.bl true) H'
theorem frac_is {x z : Int} (hx : 0 ≤ x) (hz : 0 < z) (h2 : Big z) : IsFr (frac x z) := by
  have a3 := frac_pos (x := x) hz
  have a4 := frac_le (x := x) hz
  refine ⟨frac_nn hx hz, a3, ?_, frac_idem hz⟩
  exact Nat.lt_trans (h2.mono (by omega) a4) (Nat.pow_lt_pow_right (a := 2) (m := 4000) (n := 8999) (by decide) (by decide))
theorem ok_are {f fS fU fA fL : Addr} {fd fdS fdU fdA fdL : FuncData} (F : Fun K "_law_are_shares" "_law_are_shares" sLawAreShares f fd) (FS : Fun K "_law_is_share" "_law_is_share" sLawIsShare fS fdS) (bS : Binds K fdS ["_law_found"] []) (gS : mg "_law_is_share" = some (.ref fS))
    (FU : Fun K "_law_sum" "_law_sum" sLawSum fU fdU) (bU : Binds K fdU ["_law_some"] []) (gU : mg "_law_sum" = some (.ref fU)) (FA : Fun K "_law_add" "_law_add" sLawAdd fA fdA) (bA : Binds K fdA ["_law_one", "_law_other"] []) (gA : mg "_law_add" = some (.ref fA))
    (FL : Fun K "_law_low" "_law_low" sLawLow fL fdL) (bL : Binds K fdL ["_law_top", "_law_bottom"] []) (gL : mg "_law_low" = some (.ref fL)) (ma : mg "abs" = none)
    (mi : mg "isinstance" = none) (mt : mg "tuple" = none) (mL : mg "list" = none) (mb : mg "bool" = none) (mI : mg "int" = none) (ml : mg "len" = none) :
    FnOk P w K mg base CX0 4 f fd ["_law_found", "_law_many"] spAre := by
  have GS : FnOk P w K mg base CX0 2 fS fdS ["_law_found"] spIsShare := ok_isshare FS FL bL gL ma mi mt mb mI ml
  have GU : FnOk P w K mg base CX0 3 fU fdU ["_law_some"] spSumL := ok_sum FU FA bA gA FL bL gL ma
  refine F.ok scAre (fun vs H Q E h => ?_) (fun cdv A outer s H vs Q E hr h => ?_)
  · obtain ⟨l, us, xs, z, rfl, _⟩ := h
    rfl
  · obtain ⟨l, us, xs, z, rfl, hl, hp, z0, z1, hx, hs, q⟩ := h
    have hu := hu64 hr
    have hr2 : Room 2 _ := hr.mono (by decide)
    have el : us.length = xs.length := hp.length
    refine ⟨_, pss_cons (ps_if (PW.pt (pw_or (pt_not (pt_val (pe_callB RZ.call_isTy (by rfl) mi (by decide +kernel) (pa_cons (pv 0) (pa_cons (pe_bltn (v := .ty "list") (by rfl) mL (by decide +kernel) rfl) pa_nil)))))
          (pw_or1 (pt_cmpR op_ne (pe_callB call_len_seq (by rfl) ml PySem.boot_len (pa_cons (pv 0) pa_nil)) (pv 1) (nomark _))))) (pss_one (ps_ret pe_bl)) pss_nil)
      (pss_one (ps_ret (pe_and (pe_cmpR (op_eqD hu) (pe_lc (own := [("_law_one", 2)]) (g := gName 2) (tt := tNot (tB (tCall spIsShare [] E0 (tCons (tVar 2) tNil)))) rfl scAre.nd (pi_list (pv 0)) (blkOk_by (N := nAre) (sc := defScope sLawAreShares) (by decide +kernel))
            (fun _ _ _ _ _ => pg_name (i := 2) scAre.nd rfl (.inl rfl)) (fun _ _ _ _ _ => pts_one (pt_not (pt_val (pe_call GS hr2 (by rfl) gS FS.kp bS .nil pass0 (pa_cons (pv 2) pa_nil)))))
            (fun _ _ _ _ _ => pv 2)) (pe_lst pa_nil) (nomark _))
        (pe_one (pe_cmpR (op_eqD hu) (pe_call GU hr (by rfl) gU FU.kp bU .nil pass0 (pa_cons (pv 0) pa_nil)) (pe_tup (pa_cons pe_int (pa_cons pe_int pa_nil))) (nomark _)))))), ?_⟩
    refine ⟨.ref l, rfl, .ref l, "list", rfl, .lst hl, true, rfl, .ref l, rfl, l, _, rfl, .inl (SqL.of hl), .int (xs.length : Int), rfl, rfl, _, rfl, iteNS (by rw [el]) ?_⟩
    refine ⟨.ref l, rfl, l, rfl, ⟨_, SqL.of hl⟩, fun D nD => ?_⟩
    have sD : Same H (upd H D (.lst [])) := same_new nD
    refine lc_list (K := K) (a := l) (xs := us) (fun i H' => Same H H' ∧ H' D = some (.lst [])) ⟨sD, upd_same⟩ (fun i H' _ h => SqL.of (h.1 _ _ hl)) ?_ ?_
    · rintro i u H' hu' ⟨s1, hD⟩
      obtain ⟨x, ex, fx⟩ := paired_at hp hu'
      have x0 := hx x (List.mem_of_getElem? ex)
      refine ⟨rfl, u, rfl, u, _, rfl, fx.same s1, frac_is x0 z0 z1, fun H2 s2 => ⟨true, rfl, ?_⟩⟩
      exact ⟨s1.trans s2, s2 _ _ hD⟩
    · rintro H' ⟨s1, hD⟩
      refine ⟨Nat.zero_le _, fun e ne => ?_⟩
      have s2 : Same H' (upd H' e (.lst [])) := same_new ne
      refine ⟨.list [], .list [], .lst (SqL.of (s2 _ _ hD)) .nil, .lst (SqL.of upd_same) .nil, rfl, rfl, true, rfl, ?_⟩
      have s3 := s1.trans s2
      have hp3 : Paired (fun u x => FracAt (upd H' e (.lst [])) u (frac x z)) us xs := L2.Paired.mapP hp fun _ _ h => h.same s3
      refine ⟨.ref l, rfl, l, us, xs, z, rfl, s3 _ _ hl, hp3, z0, z1, hx, by rw [hs]; exact z1, fun t H3 s4 ht => ?_⟩
      refine ⟨(by show 2 ≤ sizeLine; decide), fun t2 nt2 => ?_⟩
      have s5 := same_new (o := .tup [.int 1, .int 1]) nt2
      refine ⟨_, _, dp_pair (s5 _ _ ht), dp_pair (p := (1, 1)) upd_same, rfl, rfl, ?_⟩
      rw [hs, frac_self z0, eqv_pair, decide_eq_true rfl]
      exact q _ ((s3.trans s4).trans s5)
end
section
/-! ### what rows draw, counted -/
/-- the place that is drawn -/
def drP (many : Nat) (ms : List Mv) (r : List Int) (p : Int) : Prop := endsK many (rowsOf ms r) r.length = List.replicate many p
instance drP_dec (many : Nat) (ms : List Mv) (r : List Int) (p : Int) : Decidable (drP many ms r p) := inferInstanceAs (Decidable (_ = _))
theorem imgR_fold {ms : List Mv} : ∀ (r L : List Int), imgR ms mapM L r = r.foldl (fun L n => L.map (goK (rowN ms n))) L
  | [], _ => rfl
  | a :: r, L => by
    show imgR ms mapM (mapM (ms.getD a.toNat (0, [])) L) r = _
    rw [imgR_fold r]
    rfl
theorem img_back {many : Nat} {ms : List Mv} {r : List Int} (G : Good many ms) (hr : NumsOk ms r) : imgR ms mapM (ids many) r.reverse = endsK many (rowsOf ms r) r.length := by
  have h := foldE_back G hr r.length (Nat.le_refl _)
  rw [List.take_length] at h
  rw [imgR_fold]
  exact h
theorem one_rep {many : Nat} {E : List Int} (g : GoodRow many E) (m1 : 1 ≤ many) : one E = true ↔ ∃ p, E = List.replicate many p := by
  constructor
  · intro h
    exact ⟨goK E 0, List.eq_replicate_iff.mpr ⟨g.1, one_goK g m1 h⟩⟩
  · rintro ⟨p, rfl⟩
    rw [one_iff]
    exact ⟨p, List.mem_replicate.mpr ⟨by omega, rfl⟩, fun x hx => (List.mem_replicate.mp hx).2⟩
theorem drawn_cases {many : Nat} {ms : List Mv} {r : List Int} {H : Hp} {v : V} (G : Good many ms) (hr : NumsOk ms r) (h : DrawnAt H v many (rowsOf ms r)) :
    (∃ t p k, v = .ref t ∧ H t = some (.tup [.int p, .int k]) ∧ p ∈ ids many ∧ drP many ms r p) ∨ (v = .non ∧ ∀ p, ¬ drP many ms r p) := by
  have lr : (rowsOf ms r).length = r.length := by unfold rowsOf; rw [List.length_map]
  have gr := rowsOf_good G hr
  have gE := endsK_good (many := many) gr r.length (by omega)
  rcases h with ⟨k, t, ⟨hk, ho, _⟩, rfl, ht⟩ | ⟨hn, rfl⟩
  · refine .inl ⟨t, _, _, rfl, ht, ?_, ?_⟩
    · have gk := endsK_good (many := many) gr k hk
      have h0 : 0 < (endsK many (rowsOf ms r) k).length := by rw [gk.1]; exact G.m1
      have e : goK (endsK many (rowsOf ms r) k) 0 = (endsK many (rowsOf ms r) k)[0] := by
        unfold goK
        rw [List.getD_eq_getElem?_getD, show (0 : Int).toNat = 0 from rfl, List.getElem?_eq_getElem h0]
        rfl
      rw [e]
      exact mem_ids.mpr (gk.2 _ (List.getElem_mem h0))
    · obtain ⟨o2, e2⟩ := one_on gr G.m1 ho hk r.length (by omega) (by omega)
      unfold drP
      refine List.eq_replicate_iff.mpr ⟨gE.1, fun x hx => ?_⟩
      rw [one_goK gE G.m1 o2 x hx]
      exact e2
  · refine .inr ⟨rfl, fun p hp => ?_⟩
    have := hn r.length (by omega)
    unfold drP at hp
    rw [(one_rep gE G.m1).mpr ⟨p, hp⟩] at this
    cases this
theorem drawn_shr {many : Nat} {ms : List Mv} (G : Good many ms) {n : Nat} (hn : n ≤ 1000) (p : Int) : (rowsS ms n fun r => if drP many ms r p then 1 else 0) = shrN many ms n p := by
  rw [← maps_shr G, cntN_val, ← rowsS_rev n (fun r => if imgR ms mapM (ids many) r = List.replicate many p then 1 else 0)]
  refine rowsS_congr fun r hl hr => ?_
  have e := img_back G (r := r) ⟨by omega, hr⟩
  show (if drP many ms r p then (1 : Int) else 0) = if imgR ms mapM (ids many) r.reverse = List.replicate many p then 1 else 0
  rw [e]
  rfl
/-- the counts of the first rows -/
def cntP (many : Nat) (ms : List Mv) (l : List (List Int × Int)) (p : Int) : Int := sumL l fun q => q.2 * (if drP many ms q.1 p then 1 else 0)
theorem cntP_all {many : Nat} {ms : List Mv} (G : Good many ms) {n : Nat} (hn : n ≤ 1000) (p : Int) : cntP many ms (rowsL ms n) p = shrN many ms n p := by
  unfold cntP
  rw [rowsL_sum n fun r => if drP many ms r p then 1 else 0]
  exact drawn_shr G hn p
theorem cntP_snoc {many : Nat} {ms : List Mv} {l : List (List Int × Int)} {i : Nat} {q : List Int × Int} (h : l[i]? = some q) (p : Int) : cntP many ms (l.take (i + 1)) p = cntP many ms (l.take i) p + q.2 * (if drP many ms q.1 p then 1 else 0) := by
  unfold cntP
  rw [take_snoc h, sumL_app, sumL_cons, sumL_nil]
  omega
theorem drP_one {many : Nat} {ms : List Mv} {r : List Int} {p p' : Int} (m1 : 1 ≤ many) (h : drP many ms r p) (h' : drP many ms r p') : p = p' := by
  unfold drP at h h'
  rw [h] at h'
  have : p ∈ List.replicate many p' := by rw [← h']; exact List.mem_replicate.mpr ⟨by omega, rfl⟩
  exact (List.mem_replicate.mp this).2
/-! ### together 1 -/
theorem shrN_nn {many : Nat} {ms : List Mv} (G : Good many ms) (n : Nat) (p : Int) : 0 ≤ shrN many ms n p := by
  unfold shrN
  rw [cntN_val]
  exact rowsS_nn (GoodMv.w0 G) n fun r => by split <;> decide
theorem restN_nn {many : Nat} {ms : List Mv} (G : Good many ms) (n : Nat) : 0 ≤ restN many ms n := by
  unfold restN
  have e : sumL (ids many) (shrN many ms n) = rowsS ms n fun r => sumL (ids many) fun p => if imgR ms (ledM many) (ids many) r = [p] then 1 else 0 := by
    rw [rowsS_sum]
    refine sumL_congr fun p _ => ?_
    unfold shrN
    rw [cntN_val]
  have h := rowsS_le (ms := ms) (GoodMv.w0 G) n (ψ := fun r => sumL (ids many) fun p => if imgR ms (ledM many) (ids many) r = [p] then 1 else 0) (φ := fun _ => 1) fun r => by
    have : ∀ l : List Int, l.Nodup → (sumL l fun p => if imgR ms (ledM many) (ids many) r = [p] then (1 : Int) else 0) ≤ 1 := fun l => by
      induction l with
      | nil => intro _; rw [sumL_nil]; decide
      | cons a l ih =>
        intro hn
        rw [List.nodup_cons] at hn
        rw [sumL_cons]
        by_cases h : imgR ms (ledM many) (ids many) r = [a]
        · rw [if_pos h, sumL_none fun p hp => if_neg fun z => hn.1 ?_]
          · decide
          · rw [h] at z
            injection z with z
            rw [z]
            exact hp
        · rw [if_neg h]
          have := ih hn.2
          omega
    refine this (ids many) ?_
    exact (ids_pair many).imp fun h => by omega
  rw [rowsS_const] at h
  omega
end
section
variable {P : Program} {w : World} {K : PySem.W.Frag} {mg : Str → Option Value} {base : Heap} {C : Addr}
/-! ### the law -/
def mostF (k : Nat) : Int := [7, 7, 7, 7, 5, 5, 4, 4, 4].getD k 0
theorem most_ok {k : Nat} (h1 : 1 ≤ k) (h8 : k ≤ 8) : 1 ≤ mostF k ∧ mostF k ≤ 7 ∧ ∀ n : Nat, (n : Int) < mostF k → k ^ n ≤ 1000 ∧ n ≤ 6 := by
  have key : ∀ k : Nat, k ≤ 8 → 1 ≤ k → 1 ≤ mostF k ∧ mostF k ≤ 7 ∧ ∀ n : Nat, n < 7 → (n : Int) < mostF k → k ^ n ≤ 1000 := by decide
  obtain ⟨a, b, c⟩ := key k h8 h1
  exact ⟨a, b, fun n hn => ⟨c n (by omega) hn, by omega⟩⟩
theorem paired_mapR {α β γ : Type} {F : α → γ → Prop} {g : β → γ} : ∀ {l₁ : List α} {l₂ : List β}, Paired (fun a b => F a (g b)) l₁ l₂ → Paired F l₁ (l₂.map g)
  | _, _, .nil => .nil
  | _, _, .cons h t => .cons h (paired_mapR t)
theorem ids_cons {many : Nat} (h : 1 ≤ many) : ids many = 0 :: (ids many).tail := by
  unfold ids
  obtain ⟨k, rfl⟩ : ∃ k, many = k + 1 := ⟨many - 1, by omega⟩
  rw [List.range_succ_eq_map]
  rfl
theorem ixN_in {n : Nat} {x : Int} (h0 : 0 ≤ x) (h : x < (n : Int)) : ixN n x = some x.toNat := by
  unfold ixN
  rw [if_pos h0, if_pos h]
theorem set_cnt {l : List Int} {f g : Int → Int} {i : Nat} {x : Int} (hx : l[i]? = some x) (h : ∀ y, y ≠ x → g y = f y) (hn : l.Nodup) : ((l.map f).map V.int).set i (.int (g x)) = (l.map g).map V.int := by
  apply List.ext_getElem?
  intro j
  rw [List.getElem?_set]
  by_cases e : i = j
  · rw [if_pos e, ← e, List.getElem?_map, List.getElem?_map, hx, if_pos (by rw [List.length_map, List.length_map]; exact (List.getElem?_eq_some_iff.mp hx).1)]
    rfl
  · rw [if_neg e, List.getElem?_map, List.getElem?_map, List.getElem?_map, List.getElem?_map]
    cases hy : l[j]? with
    | none => rfl
    | some y =>
      have ne : y ≠ x := fun z => by
        rw [z] at hy
        obtain ⟨a1, a2⟩ := List.getElem?_eq_some_iff.mp hx
        obtain ⟨b1, b2⟩ := List.getElem?_eq_some_iff.mp hy
        have pw := List.pairwise_iff_getElem.mp hn
        rcases Nat.lt_or_gt_of_ne e with c | c
        · exact pw i j a1 b1 c (a2.trans b2.symm)
        · exact pw j i b1 a1 c (b2.trans a2.symm)
      show some (V.int (f y)) = some (V.int (g y))
      rw [h y ne]
theorem scLaw : FnScope ["_law_script", "_law_told", "_law_d", "_law_far", "_law_counts", "_law_whole", "_law_numbers_here", "_law_weight", "_law_found", "_law_chain_here", "_law_odd", "_law_count"] ["_law_script"] (defScope sLaw) := ⟨rfl, rfl, rfl, by decide +kernel, rfl, by decide +kernel, by decide +kernel⟩
theorem ok_law {f fc fd' fo fh fm fRo fLd fSh fAr fLo fMp fRf tM : Addr} {fd fdc fdd fdo fdh fdm fdRo fdLd fdSh fdAr fdLo fdMp fdRf : FuncData} (F : Fun K "law" "law" sLaw f fd) (T : LawTxt K mg fc fd' fo fdc fdd fdo) (Dh : Df K mg "_law_chain" sChain ["_law_d", "_law_most"] fh fdh)
    (DM : Df K mg "_law_made" sMade ["_law_told"] fm fdm) (DRo : Df K mg "_law_rows" sLawRows ["_law_told", "_law_far"] fRo fdRo) (DLd : Df K mg "_law_drawn" sLawDrawn ["_law_told", "_law_numbers_here"] fLd fdLd) (DSh : Df K mg "shares" sShares ["chain", "far"] fSh fdSh)
    (DAr : Df K mg "_law_are_shares" sLawAreShares ["_law_found", "_law_many"] fAr fdAr) (DLow : Df K mg "_law_low" sLawLow ["_law_top", "_law_bottom"] fLo fdLo) (DMp : Df K mg "_law_is_by_maps" sLawIsByMaps ["_law_told", "_law_far"] fMp fdMp) (DRf : Df K mg "_law_refused" sLawRefused ["_law_chain_here", "_law_far"] fRf fdRf)
    (GM : FnOk P w K mg base CX0 4 fm fdm ["_law_told"] (spMade C tM)) (GLd : FnOk P w K mg base CX0 2 fLd fdLd ["_law_told", "_law_numbers_here"] spLd) (GSh : FnOk P w K mg base CX0 3 fSh fdSh ["chain", "far"] (spSh C)) (GAr : FnOk P w K mg base CX0 4 fAr fdAr ["_law_found", "_law_many"] spAre)
    (GMp : FnOk P w K mg base CX0 5 fMp fdMp ["_law_told", "_law_far"] (spMp tM)) (GRf : FnOk P w K mg base CX0 4 fRf fdRf ["_law_chain_here", "_law_far"] spRf)
    (mI : mg "isinstance" = none) (mSu : mg "sum" = none) : FnOk P w K mg base CX0 6 f fd ["_law_script"] (spLaw K tM) := by
  have GC : FnOk P w K mg base CX0 1 fc fdc ["_law_script", "_law_k"] (spCell K) := ok_cell T.FC T.ml
  have GD' : FnOk P w K mg base CX0 2 fd' fdd ["_law_script", "_law_k"] (spDice K) := T.dice
  have GO : FnOk P w K mg base CX0 2 fo fdo ["_law_d", "_law_most"] (spOff K) := T.off
  have GH : FnOk P w K mg base CX0 3 fh fdh ["_law_d", "_law_most"] (spChain K) := ok_chain Dh.F T
  have GRo : FnOk P w K mg base CX0 1 fRo fdRo ["_law_told", "_law_far"] spRo := ok_rows DRo.F T
  have GLow : FnOk P w K mg base CX0 1 fLo fdLo ["_law_top", "_law_bottom"] spLow := ok_low DLow.F T.ma
  refine F.ok scLaw (fun vs H Q E h => ?_) (fun cdv A outer s H vs Q E hr h => ?_)
  · obtain ⟨a, ns, rfl, _⟩ := h
    rfl
  · obtain ⟨a, ns, rfl, hS, hl, hTM, q⟩ := h
    have hu := hu64 hr
    have r1 : Room 1 _ := hr.mono (by decide)
    have r2 : Room 2 _ := hr.mono (by decide)
    have r3 : Room 3 _ := hr.mono (by decide)
    have r4 : Room 4 _ := hr.mono (by decide)
    refine ⟨_, (pss_cons (ps_set (i := 1) scLaw.nd rfl (.inl rfl) (pe_call GH r3 (by rfl) Dh.g Dh.F.kp Dh.b .nil pass0 (pa_cons (pe_call GD' r2 (by rfl) T.gD T.FD.kp T.bD .nil pass0 (pa_cons (pv 0) (pa_cons pe_int pa_nil))) (pa_cons pe_int pa_nil))))
      (pss_cons (ps_set (i := 2) scLaw.nd rfl (.inl rfl) (pe_call GD' r2 (by rfl) T.gD T.FD.kp T.bD .nil pass0 (pa_cons (pv 0) (pa_cons pe_int pa_nil))))
      (pss_cons (ps_set (i := 3) scLaw.nd rfl (.inl rfl) (pe_call GO r2 (by rfl) T.gO T.FO.kp T.bO .nil pass0 (pa_cons (pv 2) (pa_cons (pe_ix ix_list (pe_lst (pa_cons pe_int (pa_cons pe_int (pa_cons pe_int (pa_cons pe_int (pa_cons pe_int (pa_cons pe_int (pa_cons pe_int (pa_cons pe_int (pa_cons pe_int pa_nil)))))))))) (pe_callB call_len_seq (by rfl) T.ml PySem.boot_len (pa_cons (pe_ix ix_tup (pv 1) pe_int (fun _ _ => rfl)) pa_nil)) (fun _ _ => rfl)) pa_nil))))
      (pss_cons (ps_set (i := 4) scLaw.nd rfl (.inl rfl) (pe_op op_rep (pe_lst (pa_cons pe_int pa_nil)) (pe_ix ix_tup (pv 1) pe_int (fun _ _ => rfl))))
      (pss_cons (ps_set (i := 5) scLaw.nd rfl (.inr rfl) pe_int)
      (pss_cons (ps_for PassesOwn.never rfl (pi_list (pe_call GRo r1 (by rfl) DRo.g DRo.F.kp DRo.b .nil pass0 (pa_cons (pv 1) (pa_cons (pv 3) pa_nil)))) (pg_tup rfl (pgs_cons (pg_name (i := 6) scLaw.nd rfl (.inl rfl)) (pgs_cons (pg_name (i := 7) scLaw.nd rfl (.inl rfl)) pgs_nil))) (pss_cons (ps_set (i := 5) scLaw.nd rfl (.inr rfl) (pe_op op_add (pv 5) (pv 7)))
      (pss_cons (ps_set (i := 8) scLaw.nd rfl (.inl rfl) (pe_call GLd r2 (by rfl) DLd.g DLd.F.kp DLd.b .nil pass0 (pa_cons (pv 1) (pa_cons (pv 6) pa_nil))))
      (pss_one (ps_if (pt_cmpR op_notN (pv 8) pe_non (nomark _)) (pss_one (ps_asg (pe_op op_add (pe_ix ix_list (pv 4) (pe_ix ix_tup (pv 8) pe_int (fun _ _ => rfl)) (fun _ _ => rfl)) (pv 7)) (pg_sub (pv 4) (pe_ix ix_tup (pv 8) pe_int (fun _ _ => rfl)) set_list))) pss_nil)))))
      (pss_cons (ps_set (i := 9) scLaw.nd rfl (.inl rfl) (pe_call GM r4 (by rfl) DM.g DM.F.kp DM.b .nil pass0 (pa_cons (pv 1) pa_nil)))
      (pss_cons (ps_set (i := 8) scLaw.nd rfl (.inl rfl) (pe_call GSh r3 (by rfl) DSh.g DSh.F.kp DSh.b .nil pass0 (pa_cons (pv 9) (pa_cons (pv 3) pa_nil))))
      (pss_cons (ps_if (PW.pt (pw_or (pt_not (pt_val (pe_callB RZ.call_isTy (by rfl) mI (by decide +kernel) (pa_cons (pv 8) (pa_cons (pe_bltn (v := .ty "tuple") (by rfl) T.mt (by decide +kernel) rfl) pa_nil))))) (pw_or (pt_cmpR op_ne (pe_callB call_len_seq (by rfl) T.ml PySem.boot_len (pa_cons (pv 8) pa_nil)) pe_int (nomark _)) (pw_or1 (pt_not (pt_val (pe_call GAr r4 (by rfl) DAr.g DAr.F.kp DAr.b .nil pass0 (pa_cons (pe_op op_cat (pe_ix ix_tup (pv 8) pe_int (fun _ _ => rfl)) (pe_lst (pa_cons (pe_ix ix_tup (pv 8) pe_int (fun _ _ => rfl)) pa_nil))) (pa_cons (pe_op op_add (pe_ix ix_tup (pv 1) pe_int (fun _ _ => rfl)) pe_int) pa_nil))))))))) (pss_one (ps_ret pe_bl)) pss_nil)
      (pss_cons (ps_if (pt_cmpR (op_neD hu) (pv 8) (pe_tup (pa_cons (pe_lc (own := [("_law_count", 11)]) (g := gName 11) (tt := tYes) (te := (tCall spLow [] E0 (tCons (tVar 11) (tCons (tVar 5) tNil)))) rfl scLaw.nd (pi_list (pv 4)) (blkOk_by (N := ["_law_script", "_law_told", "_law_d", "_law_far", "_law_counts", "_law_whole", "_law_numbers_here", "_law_weight", "_law_found", "_law_chain_here", "_law_odd", "_law_count"]) (sc := defScope sLaw) (by decide +kernel)) (fun _ _ _ _ _ => by exact (pg_name (i := 11) scLaw.nd rfl (.inl rfl))) (fun _ _ _ _ _ => pts_nil) (fun _ _ _ _ _ => by exact (pe_call GLow r1 (by rfl) DLow.g DLow.F.kp DLow.b .nil pass0 (pa_cons (pv 11) (pa_cons (pv 5) pa_nil))))) (pa_cons (pe_call GLow r1 (by rfl) DLow.g DLow.F.kp DLow.b .nil pass0 (pa_cons (pe_op op_sub (pv 5) (pe_callB (cr_sum rfl) (by rfl) mSu (by decide +kernel) (pa_cons (pv 4) pa_nil))) (pa_cons (pv 5) pa_nil))) pa_nil))) (nomark _)) (pss_one (ps_ret pe_bl)) pss_nil)
      (pss_cons (ps_if (pt_not (pt_val (pe_call GMp hr (by rfl) DMp.g DMp.F.kp DMp.b .nil pass0 (pa_cons (pe_call GH r3 (by rfl) Dh.g Dh.F.kp Dh.b .nil pass0 (pa_cons (pe_call GD' r2 (by rfl) T.gD T.FD.kp T.bD .nil pass0 (pa_cons (pv 0) (pa_cons pe_int pa_nil))) (pa_cons pe_int pa_nil))) (pa_cons (pe_call GO r2 (by rfl) T.gO T.FO.kp T.bO .nil pass0 (pa_cons (pv 2) (pa_cons pe_int pa_nil))) pa_nil))))) (pss_one (ps_ret pe_bl)) pss_nil)
      (pss_cons (ps_set (i := 10) scLaw.nd rfl (.inl rfl) (pe_op op_add pe_int (pe_call GO r2 (by rfl) T.gO T.FO.kp T.bO .nil pass0 (pa_cons (pv 2) (pa_cons pe_int pa_nil)))))
      (pss_one (ps_ret (pe_and (pe_call GRf r4 (by rfl) DRf.g DRf.F.kp DRf.b .nil pass0 (pa_cons (pv 9) (pa_cons (pe_op op_sub pe_int (pv 10)) pa_nil))) (pe_one (pe_call GRf r4 (by rfl) DRf.g DRf.F.kp DRf.b .nil pass0 (pa_cons (pv 9) (pa_cons (pe_op op_add pe_int (pv 10)) pa_nil))))))))))))))))))), ?_⟩
    -- told
    refine ⟨.ref a, rfl, a, ns, 0, rfl, hS, hl, by decide, fun H1 d1 s1 nd1 hD1 => ?_⟩
    have hTM1 := tab_same s1 hTM
    refine ⟨d1, a, ns, 6, rfl, hD1, by decide, by decide, fun t m many ws ms H2 G _ hT hD2 g2 => ?_⟩
    have hM2 := tab_gr hD1 g2 hTM1
    -- d
    refine ⟨.ref a, rfl, a, ns, 1, rfl, hD2.seq, hl, by decide, fun H3 d s3 nd3 hD3 => ?_⟩
    have hM3 := tab_same s3 hM2
    have hT3 := hT.same s3
    have m1 := G.m1
    have m6 := G.m6
    have l1 := G.l1
    have l8 := G.l8
    have lw := hT.2.2.length
    have idl : (ids many).length = many := by unfold ids; rw [List.length_map, List.length_range]
    have ida : ∀ {i : Nat}, i < many → (ids many)[i]? = some (i : Int) := fun {i} h => by unfold ids; rw [List.getElem?_map, List.getElem?_range h]; rfl
    -- far
    refine ⟨.ref d, rfl, (by show 9 ≤ sizeLine; decide), fun L nL => ?_⟩
    have s4 := same_new (o := .lst (([7, 7, 7, 7, 5, 5, 4, 4, 4] : List Int).map V.int)) nL
    have hL4 : (upd H3 L (.lst (([7, 7, 7, 7, 5, 5, 4, 4, 4] : List Int).map V.int))) L = some (.lst (([7, 7, 7, 7, 5, 5, 4, 4, 4] : List Int).map V.int)) := upd_same
    have hT4 := hT3.same s4
    have hD4 := hD3.same s4
    have hM4 := tab_same s4 hM3
    show tCB _ _ _ (upd H3 L (.lst (([7, 7, 7, 7, 5, 5, 4, 4, 4] : List Int).map V.int))) _
    generalize upd H3 L (.lst (([7, 7, 7, 7, 5, 5, 4, 4, 4] : List Int).map V.int)) = H4 at s4 hL4 hT4 hD4 hM4 ⊢
    obtain ⟨f1, f7, fok⟩ := most_ok l1 l8
    refine ⟨.ref t, rfl, t, _, 1, _, rfl, rfl, SqT.of hT4.1, atI_nat (j := 1) rfl, m, _, rfl, .inl (SqL.of hT4.2.1), L, _, _, .int (mostF ms.length), rfl, rfl, SqL.of hL4, at_of (j := ms.length) (by omega) ?_, ?_⟩
    · rw [List.getElem?_map, List.getElem?_eq_getElem (by show ms.length < 9; omega)]
      unfold mostF
      rw [List.getD_eq_getElem?_getD, List.getElem?_eq_getElem (by show ms.length < 9; omega)]
      rfl
    refine ⟨d, a, ns, _, rfl, hD4, f1, by omega, fun n H5 hn5 hD5 o5 => ?_⟩
    obtain ⟨h1k, n6⟩ := fok n hn5
    have g5 := (Gr.refl d H4).off o5
    have hM5 := tab_gr hD4 g5 hM4
    have hT5 := hT4.gr hD4 g5
    have Wp := pow_big (whole_pos G) (whole_le G) (n := n) (by omega)
    have W9 := Nat.lt_trans Wp.2 (Nat.pow_lt_pow_right (a := 2) (m := 210) (n := 8999) (by decide) (by decide))
    have WB : Big (whole ms ^ n) := Nat.lt_trans Wp.2 (Nat.pow_lt_pow_right (a := 2) (m := 210) (n := 4000) (by decide) (by decide))
    -- counts
    refine ⟨(by show 1 ≤ sizeLine; decide), fun z0 nz0 => ?_⟩
    have s6 := same_new (o := .lst [.int 0]) nz0
    have hT6 := hT5.same s6
    refine ⟨.ref t, rfl, t, _, 0, _, rfl, rfl, SqT.of hT6.1, atI_nat (j := 0) rfl, z0, _, _, rfl, rfl, upd_same, by omega, by omega, ?_, fun c nc => ?_⟩
    · show 1 * ((many : Int)).toNat ≤ sizeLine
      exact Nat.le_trans (show _ ≤ 1000 by omega) (by decide)
    have s7 := same_new (o := .lst (List.replicate ((many : Int)).toNat [V.int 0]).flatten) nc
    have hc7 : (upd (upd H5 z0 (.lst [.int 0])) c (.lst (List.replicate ((many : Int)).toNat [V.int 0]).flatten)) c = some (.lst (((ids many).map (cntP many ms [])).map V.int)) := by
      rw [upd_same, Int.toNat_natCast]
      have e1 : ∀ k : Nat, (List.replicate k [V.int 0]).flatten = List.replicate k (V.int 0) := fun k => by
        induction k with
        | zero => rfl
        | succ k ih => rw [List.replicate_succ, List.flatten_cons, ih, List.replicate_succ]; rfl
      have e2 : ((ids many).map (cntP many ms [])).map V.int = List.replicate many (V.int 0) := by
        refine List.eq_replicate_iff.mpr ⟨by rw [List.length_map, List.length_map, idl], fun x hx => ?_⟩
        obtain ⟨z, hz, rfl⟩ := List.mem_map.mp hx
        obtain ⟨p, hp, rfl⟩ := List.mem_map.mp hz
        rfl
      rw [e1, e2]
    have s57 := s6.trans s7
    have ncd : c ≠ d := (hD5.same s6).ne nc
    have nHc : H5 c = none := s6.free nc
    show gName 4 (V.ref c) _ (upd (upd H5 z0 (.lst [.int 0])) c (.lst (List.replicate ((many : Int)).toNat [V.int 0]).flatten)) _
    generalize (upd (upd H5 z0 (.lst [.int 0])) c (.lst (List.replicate ((many : Int)).toNat [V.int 0]).flatten)) = H7 at hc7 s57 ⊢
    have hT7 := hT5.same s57
    have hM7 := tab_same s57 hM5
    have hD7 := hD5.same s57
    have ncb : ∀ {b o}, H5 b = some o → b ≠ c := fun e z => by rw [z, nHc] at e; cases e
    refine ⟨.ref t, rfl, .int (n : Int), rfl, t, m, many, n, ws, ms, rfl, hT7, G, n6, h1k, fun R us H8 s8 hR hrows => ?_⟩
    have hc8 := s8 _ _ hc7
    have nRc : R ≠ c := fun z => by
      rw [z, hc8] at hR
      injection hR with hR
      injection hR with hR
      have h0 : 0 < us.length := by rw [hrows.length, rowsL_len]; exact Nat.pow_pos (by omega)
      obtain ⟨u, us', rfl⟩ := List.exists_cons_of_length_pos h0
      rw [ids_cons m1] at hR
      obtain ⟨pp, _, tp, lp, e, _⟩ := paired_atR hrows (i := 0) rfl
      rw [e] at hR
      injection hR with hR
      cases hR
    have hT8 := hT7.same s8
    have hM8 := tab_same s8 hM7
    have hD8 := hD7.same s8
    have rlc : ∀ {v p}, RowAt H7 H8 v p → RowN H7 c H8 v p := fun {v p} ⟨tp, lp, e, n0, h1, h2⟩ => ⟨tp, lp, e, n0, (fun z => by rw [z, hc8] at h1; cases h1), (fun z => by rw [z, hc7] at n0; cases n0), h1, h2⟩
    refine ⟨R, rfl, ⟨_, SqL.of hR⟩, ?_⟩
    have idn : (ids many).Nodup := (ids_pair many).imp fun h => by omega
    have lenc : ∀ l, ((ids many).map (cntP many ms l)).length = many := fun l => by rw [List.length_map, idl]
    refine for_list (K := K) (a := R) (xs := us) (fun i σ H' => ∃ y6 y7 y8, σ = [some (.ref a), some (.ref t), some (.ref d), some (.int (n : Int)), some (.ref c), some (.int (sumL ((rowsL ms n).take i) fun q => q.2)), y6, y7, y8, none, none, none] ∧
        (∀ b o, b ≠ c → H8 b = some o → H' b = some o) ∧ H' c = some (.lst (((ids many).map (cntP many ms ((rowsL ms n).take i))).map V.int)))
      ⟨none, none, none, rfl, fun _ _ _ e => e, by rw [List.take_zero]; exact hc8⟩ (fun i σ H' _ ⟨_, _, _, _, k, _⟩ => SqL.of (k _ _ nRc hR)) ?_ ?_
    · rintro i v σ H9 hv ⟨y6, y7, y8, rfl, k9, hc9⟩
      obtain ⟨p, hp, hrow⟩ := paired_atR hrows hv
      obtain ⟨tp, lp, rfl, n0, e1, e2, h1, h2⟩ := (rlc hrow).keep k9
      obtain ⟨pl, pok⟩ := rowsL_ok (List.mem_of_getElem? hp)
      refine ⟨tp, _, rfl, SqT.of h1, rfl, _, _, rfl, _, _, rfl, rfl, ?_⟩
      refine ⟨_, rfl, .int p.2, rfl, _, _, rfl, rfl, ?_⟩
      have hT9 : ToldAt H9 t m many ws ms := ⟨k9 _ _ (ncb hT5.1) hT8.1, k9 _ _ (ncb hT5.2.1) hT8.2.1, hT8.2.2.same fun b xs e => k9 _ _ (fun z => by rw [z, hc8] at e; cases e) e⟩
      have hN : NumsOk ms p.1 := ⟨by omega, pok⟩
      refine ⟨.ref t, rfl, .ref lp, rfl, t, m, lp, many, ws, ms, p.1, rfl, hT9, G, h2, hN, fun v H10 s10 hdr => ?_⟩
      have hc10 := s10 _ _ hc9
      have eW : (sumL ((rowsL ms n).take i) fun q => q.2) + p.2 = sumL ((rowsL ms n).take (i + 1)) fun q => q.2 := by
        rw [take_snoc hp, sumL_app, sumL_cons, sumL_nil]
        omega
      have eC : ∀ x, cntP many ms ((rowsL ms n).take (i + 1)) x = cntP many ms ((rowsL ms n).take i) x + p.2 * (if drP many ms p.1 x then 1 else 0) := cntP_snoc hp
      rcases drawn_cases G hN hdr with ⟨t2, x, k, rfl, ht2, hx, hd⟩ | ⟨rfl, hno⟩
      · refine ⟨.ref t2, rfl, rfl, true, by show V.bl (!decide (V.ref t2 = V.non)) = _; simp, iteT ?_⟩
        obtain ⟨x0, x1⟩ := mem_ids.mp hx
        have hix : (ids many)[x.toNat]? = some x := by rw [ida (by omega)]; congr 1; omega
        have hat : (((ids many).map (cntP many ms ((rowsL ms n).take i))).map V.int)[x.toNat]? = some (.int (cntP many ms ((rowsL ms n).take i) x)) := by rw [List.getElem?_map, List.getElem?_map, hix]; rfl
        refine ⟨.ref c, rfl, .ref t2, rfl, t2, _, 0, _, rfl, rfl, SqT.of ht2, atI_nat (j := 0) rfl, c, _, x, _, rfl, rfl, SqL.of hc10, at_of (j := x.toNat) (by omega) hat, .int p.2, rfl, _, _, rfl, rfl, ?_⟩
        refine ⟨.ref c, rfl, .ref t2, rfl, t2, _, 0, _, rfl, rfl, SqT.of ht2, atI_nat (j := 0) rfl, c, _, x, x.toNat, rfl, rfl, hc10, ?_, ?_⟩
        · exact ixN_in x0 (by rw [List.length_map, lenc]; exact x1)
        · rw [← eW]
          refine ⟨_, _, _, rfl, fun b o nb e => by rw [upd_ne nb]; exact s10 _ _ (k9 b o nb e), ?_⟩
          rw [upd_same]
          show some (HO.lst (List.set _ x.toNat (V.int (cntP many ms ((rowsL ms n).take i) x + p.2)))) = _
          rw [show cntP many ms ((rowsL ms n).take i) x + p.2 = cntP many ms ((rowsL ms n).take (i + 1)) x by rw [eC, if_pos hd, Int.mul_one], set_cnt (g := cntP many ms ((rowsL ms n).take (i + 1))) hix (fun y hy => ?_) idn]
          · rw [eC, if_neg fun z => hy (drP_one m1 hd z).symm, Int.mul_zero, Int.add_zero]
      · refine ⟨.non, rfl, rfl, false, by show V.bl (!decide (V.non = V.non)) = _; simp, iteF ?_⟩
        rw [← eW]
        refine ⟨_, _, _, rfl, fun b o nb e => s10 _ _ (k9 b o nb e), ?_⟩
        rw [hc10]
        congr 3
        refine List.map_congr_left fun x _ => ?_
        rw [eC, if_neg (hno x), Int.mul_zero, Int.add_zero]
    · rintro σ H9 ⟨y6, y7, y8, rfl, k9, hc9⟩
      rw [hrows.length, List.take_length] at hc9 ⊢
      have eC : (ids many).map (cntP many ms (rowsL ms n)) = (ids many).map (shrN many ms n) := List.map_congr_left fun p _ => cntP_all G (by omega) p
      have eW : (sumL (rowsL ms n) fun q => q.2) = whole ms ^ n := by
        have := rowsL_sum (ms := ms) n fun _ => 1
        rw [rowsS_const, Int.mul_one] at this
        rw [← this]
        exact sumL_congr fun q _ => (Int.mul_one _).symm
      rw [eC] at hc9
      rw [eW]
      have kb : ∀ {b o}, H5 b = some o → H9 b = some o := fun e => k9 _ _ (ncb e) (s8 _ _ (s57 _ _ e))
      have s59 : Same H5 H9 := fun b o e => kb e
      have hT9 := hT5.same s59
      have hM9 := tab_same s59 hM5
      have hD9 := hD5.same s59
      -- chain, found
      refine ⟨.ref t, rfl, t, m, many, ws, ms, rfl, hT9, G, hM9, fun H10 x hC nx g10 hM10 => ?_⟩
      have hc10 : H10 c = some (.lst (((ids many).map (shrN many ms n)).map V.int)) := Gr.tab hM9 g10 (fun _ z => nomatch z) hc9
      have hT10 := hT9.tab hM9 g10
      have hD10 := hD9.tabT hM9 g10
      refine ⟨.ref x, rfl, .int (n : Int), rfl, x, many, ms, n, rfl, hC, G, by omega, fun t2 H11 s11 hsh => ?_⟩
      obtain ⟨l2, r2, us2, h1, h2, h3, h4⟩ := hsh
      obtain ⟨r2a, rfl, h4⟩ := h4
      have hc11 := s11 _ _ hc10
      have hT11 := hT10.same s11
      have hM11 := tab_same s11 hM10
      have hD11 := hD10.same s11
      have hC11 := hC.same s11
      refine ⟨.ref t2, rfl, .ref t2, "tuple", rfl, .tup h1, true, rfl, ?_⟩
      refine ⟨.ref t2, rfl, t2, _, rfl, .inr (SqT.of h1), rfl, false, by simp, ?_⟩
      have nn : ∀ x ∈ (ids many).map (shrN many ms n) ++ [restN many ms n], 0 ≤ x := fun x hx => by
        rcases List.mem_append.mp hx with hx | hx
        · obtain ⟨p, _, rfl⟩ := List.mem_map.mp hx
          exact shrN_nn G n p
        · rw [List.mem_singleton.mp hx]; exact restN_nn G n
      have sm : ((ids many).map (shrN many ms n) ++ [restN many ms n]).sum = whole ms ^ n := by
        rw [List.sum_append]
        unfold restN sumL
        simp
        omega
      have ln : ((ids many).map (shrN many ms n) ++ [restN many ms n]).length = many + 1 := by rw [List.length_append, List.length_map, idl]; rfl
      have lus : us2.length = many := by rw [h3.length, idl]
      refine iteF ⟨.ref t2, rfl, t2, _, 0, _, rfl, rfl, SqT.of h1, atI_nat (j := 0) rfl, .ref t2, rfl, t2, _, 1, _, rfl, rfl, SqT.of h1, atI_nat (j := 1) rfl, (by show 1 ≤ sizeLine; decide), fun L3 nL3 => ?_⟩
      have s12 := same_new (o := .lst [V.ref r2a]) nL3
      refine ⟨l2, L3, us2, [V.ref r2a], rfl, rfl, s12 _ _ h2, upd_same, Nat.le_trans (show us2.length + 1 ≤ 7 by omega) (by decide), fun L4 nL4 => ?_⟩
      have s13 := same_new (o := .lst (us2 ++ [V.ref r2a])) nL4
      have s1113 := s12.trans s13
      have hL4' : (upd (upd H11 L3 (.lst [V.ref r2a])) L4 (.lst (us2 ++ [V.ref r2a]))) L4 = some (.lst (us2 ++ [V.ref r2a])) := upd_same
      show tCons _ _ _ (upd (upd H11 L3 (.lst [V.ref r2a])) L4 (.lst (us2 ++ [V.ref r2a]))) _
      generalize (upd (upd H11 L3 (.lst [V.ref r2a])) L4 (.lst (us2 ++ [V.ref r2a]))) = H13 at s1113 hL4' ⊢
      refine ⟨.ref t, rfl, t, _, 0, _, rfl, rfl, SqT.of (s1113 _ _ hT11.1), atI_nat (j := 0) rfl, _, _, rfl, rfl, ?_⟩
      have pa : Paired (fun u x => FracAt H13 u (frac x (whole ms ^ n))) (us2 ++ [V.ref r2a]) ((ids many).map (shrN many ms n) ++ [restN many ms n]) :=
        paired_app (paired_mapR (L2.Paired.mapP h3 fun u p h => FracAt.same s1113 h)) (.cons ⟨r2a, rfl, s1113 _ _ h4⟩ .nil)
      refine ⟨L4, us2 ++ [V.ref r2a], _, whole ms ^ n, ?_, hL4', pa, Wp.1, WB, nn, sm, fun H14 s14 => ⟨true, rfl, iteF ?_⟩⟩
      · rw [ln]
        show [V.ref L4, V.int ((many : Int) + 1)] = [V.ref L4, V.int ((many + 1 : Nat) : Int)]
        rw [show ((many + 1 : Nat) : Int) = (many : Int) + 1 by omega]
      have s1114 := s1113.trans s14
      have hc14 := s1114 _ _ hc11
      -- the comparison
      refine ⟨.ref t2, rfl, .ref c, rfl, c, rfl, ⟨_, SqL.of hc14⟩, fun E2 nE => ?_⟩
      refine lc_list (K := K) (a := c) (xs := ((ids many).map (shrN many ms n)).map V.int) (fun i H' => Same H14 H' ∧ ∃ us, H' E2 = some (.lst us) ∧ Paired (fun u p => FracAt H' u (frac (shrN many ms n p) (whole ms ^ n)) ∧ u ≠ .ref E2) us ((ids many).take i))
        ⟨same_new nE, [], upd_same, by rw [List.take_zero]; exact .nil⟩ (fun i H' _ h => SqL.of (h.1 _ _ hc14)) ?_ ?_
      · rintro i v H7 hv ⟨s7, us, hE, pu⟩
        rw [List.getElem?_map, List.getElem?_map] at hv
        obtain ⟨z, hz, rfl⟩ := Option.map_eq_some_iff.mp hv
        obtain ⟨p, hp, rfl⟩ := Option.map_eq_some_iff.mp hz
        have hi' : i < many := by rw [← idl]; exact (List.getElem?_eq_some_iff.mp hp).1
        refine ⟨rfl, _, rfl, _, rfl, shrN many ms n p, whole ms ^ n, rfl, Wp.1, W9, fun t' nt => ?_⟩
        have s8 := same_new (o := .tup [.int (frac (shrN many ms n p) (whole ms ^ n)).1, .int (frac (shrN many ms n p) (whole ms ^ n)).2]) nt
        have ntE : t' ≠ E2 := fun z => by rw [z, hE] at nt; cases nt
        have kp : ∀ b o, b ≠ E2 → H7 b = some o → (upd (upd H7 t' (.tup [.int (frac (shrN many ms n p) (whole ms ^ n)).1, .int (frac (shrN many ms n p) (whole ms ^ n)).2])) E2 (.lst (us ++ [.ref t']))) b = some o := fun b o nb e => by
          rw [upd_ne nb]
          exact s8 _ _ e
        refine ⟨us, s8 _ _ hE, ?_, fun b o e => kp b o (ne_of_none e nE) (s7 _ _ e), us ++ [.ref t'], upd_same, ?_⟩
        · have := pu.length
          rw [List.length_take] at this
          exact small8 (by omega)
        · rw [take_snoc hp]
          refine paired_end ⟨⟨t', rfl, by rw [upd_ne ntE]; exact upd_same⟩, fun z => by injection z with z; exact ntE z⟩ (L2.Paired.mapP pu fun u p h => ?_)
          obtain ⟨⟨t3, e1, e2⟩, nu⟩ := h
          exact ⟨⟨t3, e1, kp _ _ (fun z => nu (by rw [e1, z])) e2⟩, nu⟩
      rintro H15 ⟨s15, us, hE, pu⟩
      rw [List.length_map, List.length_map, List.take_length] at pu
      have s1115 := s1114.trans s15
      refine ⟨_, rfl, .ref c, rfl, c, _, rfl, SqL.of (s15 _ _ hc14), _, _, rfl, rfl, _, rfl, ?_⟩
      refine ⟨_, _, rfl, Wp.1, W9, fun t4 nt4 => ?_⟩
      have s16 := same_new (o := .tup [.int (frac (restN many ms n) (whole ms ^ n)).1, .int (frac (restN many ms n) (whole ms ^ n)).2]) nt4
      have ht4 : (upd H15 t4 (.tup [.int (frac (restN many ms n) (whole ms ^ n)).1, .int (frac (restN many ms n) (whole ms ^ n)).2])) t4 = some (.tup [.int (frac (restN many ms n) (whole ms ^ n)).1, .int (frac (restN many ms n) (whole ms ^ n)).2]) := upd_same
      refine ⟨(by show 2 ≤ sizeLine; decide), fun t5 nt5 => ?_⟩
      have s17 := same_new (o := .tup [.ref E2, .ref t4]) nt5
      have s1517 := s16.trans s17
      have s1117 := s1115.trans s1517
      have dp1 := dp_fracs (K := K) (L2.Paired.mapP h3 fun u p h => FracAt.same s1117 h)
      have dp2 := dp_fracs (K := K) (L2.Paired.mapP pu fun u p h => FracAt.same s1517 h.1)
      refine ne_same (d := shD many ms n) (.tup (SqT.of (s1117 _ _ h1)) (.cons (.lst (SqL.of (s1117 _ _ h2)) dp1) (.cons (dp_pair (p := frac (restN many ms n) (whole ms ^ n)) (s1117 _ _ h4)) .nil)))
        (.tup (SqT.of upd_same) (.cons (.lst (SqL.of (s1517 _ _ hE)) dp2) (.cons (dp_pair (p := frac (restN many ms n) (whole ms ^ n)) (s17 _ _ ht4)) .nil))) (shD_sh many ms n) (by decide) ⟨_, rfl, iteF ?_⟩
      have hM17 := tab_same s1117 hM11
      have hD17 := hD11.same s1117
      have hC17 := hC11.same s1117
      generalize upd (upd H15 t4 _) t5 _ = H17 at hM17 hD17 hC17 ⊢
      -- by maps
      refine ⟨.ref a, rfl, a, ns, 2, rfl, hD17.seq, hl, by decide, fun H18 d3 s18 nd3' hD18 => ?_⟩
      have hM18 := tab_same s18 hM17
      have hDd18 := hD17.same s18
      have hC18 := hC17.same s18
      have nd : d ≠ d3 := fun z => by
        obtain ⟨u1, u2, u3, e⟩ := hD17.some
        rw [z, nd3'] at e
        cases e
      refine ⟨d3, a, ns, 4, rfl, hD18, by decide, by decide, fun tb mb manyb wsb msb H19 Gb mb4 hTb hD19 g19 => ?_⟩
      have hM19 := tab_gr hD18 g19 hM18
      have hC19 := hC18.gr hD18 g19
      have hDd19 : Dc K a ns H19 d := by
        obtain ⟨u1, u2, u3, e1, e2, e3⟩ := hDd18
        exact ⟨u1, u2, u3, g19 _ _ nd e1, hD19.seq, e3⟩
      refine ⟨.ref d, rfl, d, a, ns, 21, rfl, hDd19, by decide, by decide, fun far H20 hfar hD20 o20 => ?_⟩
      have g20 := (Gr.refl d H19).off o20
      have hM20 := tab_gr hDd19 g20 hM19
      have hT20 := hTb.gr hDd19 g20
      have hC20 := hC19.gr hDd19 g20
      refine ⟨tb, mb, manyb, far, wsb, msb, rfl, hT20, Gb, mb4, by omega, hM20, fun H21 g21 hM21 => ⟨true, rfl, iteF ?_⟩⟩
      have hD21 := hD20.tabT hM20 g21
      have hC21 : ChainAt C H21 x many ms := by
        obtain ⟨u1, u2, u3, e1, e2, e3⟩ := hC20
        exact ⟨u1, u2, u3, Gr.tab hM20 g21 (fun _ z => nomatch z) e1, Gr.tab hM20 g21 (fun _ z => nomatch z) e2, e3.same fun b xs e => Gr.tab hM20 g21 (fun _ z => nomatch z) e⟩
      refine ⟨.ref d, rfl, d, a, ns, 1000000, rfl, hD21, by decide, by decide, fun odd H22 hodd hD22 o22 => ?_⟩
      refine ⟨_, _, rfl, rfl, ?_⟩
      refine ⟨.ref x, rfl, _, rfl, _, _, rfl, rfl, x, _, rfl, by omega, by omega, fun H23 s23 => ?_⟩
      refine ⟨true, rfl, iteT ⟨.ref x, rfl, _, rfl, _, _, rfl, rfl, x, _, rfl, by omega, by omega, fun H24 s24 => q H24⟩⟩
end
/-! ### the end: the table of the generator's def -/
def TabOf (nm : Str) (mg : Str → Option Value) (h : Heap) : Prop := ∃ (a' : Addr) (o' : Obj) (fd' : FuncData) (c' P' : Addr) (oc : Obj) (vc : Array Value), mg nm = some (.ref a') ∧ h.get? a' = some o' ∧ o'.data = .func fd' ∧ fd'.code = .ref c' ∧
  h.get? c' = some oc ∧ oc.data = .fields vc ∧ vc[11]? = some (.ref P') ∧ h.get? P' = some { cls := .none, data := .fields #[] }
theorem walk_tab {l : PySem.W.OpenLaw} {n k : Nat} {q : Program} {loose : List Str} {XP : (Str → Option Value) → Heap → Prop} {YP : World → Heap → Prop} {d : DefRec} {K : Params → PySem.W.Frag} {CX : World → CXT} {x : Str} (nm : Str)
    (hn : l.most = some n) (hn2 : n ≤ sizeLine) (hdf : d.params.defaults = []) (hr : Room k callerA) (hrec : ((recsOf q).any fun e => e.name == nm) = true) (hY : ∀ (w : World) (h : Heap), YP w h → (K w.params).In h)
    (F : ∀ (w : World) (mg : Str → Option Value) (fa : Addr) (h : Heap), (K w.params).In h → h.Ns mainGlobals mg → mg d.name = some (.ref fa) → TabOf nm mg h → LamX.LawAtS l w (K w.params) (CX w) k n x mg fa h)
    (hCX : ∀ (w : World) (H : Hp) (s : Shared) (e : Value) (s' : Shared), CX w [] H s (fun _ _ _ => False) e s' → False) :
    PySem.W.WalkO q loose XP YP l.row.toRowW d [] (fun f vs => PySem.call f vs) := by
  refine Att.attach_callB hn hdf fun w s₀ s₁ mg mb fa o pm cd doc a vs ns G Y ho hd hcd hmg hobj hints hlen hbits hg => ?_
  obtain ⟨dL, m1, m2⟩ := List.any_eq_true.mp hrec
  obtain ⟨a', o', fd', c', P', g1, g2, g3, g4, _, ⟨oc, vc, e1, e2, e3, e4⟩, e5⟩ := G.T.tab dL m1
  rw [beq_iff_eq.mp m2] at g1
  have TO : TabOf nm mg s₁.heap := ⟨a', o', fd', c', P', oc, vc, g1, g2, g3, g4, e1, e3, e4, e5⟩
  obtain ⟨fd, cs, sp, hT, nT, Cd, hb, hsp, hF⟩ := F w mg fa _ (hY w _ Y) G.T.g hmg TO
  exact LamX.law_callTs (hY w _ Y) G.T.g G.T.b G.T.builtins G.T.nolimit hg hT nT Cd G.T.bmain hobj hints (Nat.le_trans hlen hn2) hr hF hb (fun H hH hS => hsp H a ns hlen hbits hH hS) fun H e s' => hCX w H s₁ e s'
theorem walk_tab2 {l : PySem.W.OpenLaw} {n k : Nat} {q : Program} {loose : List Str} {XP : (Str → Option Value) → Heap → Prop} {YP : World → Heap → Prop} {d : DefRec} {K : Params → PySem.W.Frag} {CX : World → CXT} {x : Str} (nm nm2 : Str)
    (hn : l.most = some n) (hn2 : n ≤ sizeLine) (hdf : d.params.defaults = []) (hr : Room k callerA) (hrec : ((recsOf q).any fun e => e.name == nm) = true) (hrec2 : ((recsOf q).any fun e => e.name == nm2) = true) (hY : ∀ (w : World) (h : Heap), YP w h → (K w.params).In h)
    (F : ∀ (w : World) (mg : Str → Option Value) (fa : Addr) (h : Heap), (K w.params).In h → h.Ns mainGlobals mg → mg d.name = some (.ref fa) → TabOf nm mg h → TabOf nm2 mg h → LamX.LawAtS l w (K w.params) (CX w) k n x mg fa h)
    (hCX : ∀ (w : World) (H : Hp) (s : Shared) (e : Value) (s' : Shared), CX w [] H s (fun _ _ _ => False) e s' → False) :
    PySem.W.WalkO q loose XP YP l.row.toRowW d [] (fun f vs => PySem.call f vs) := by
  refine Att.attach_callB hn hdf fun w s₀ s₁ mg mb fa o pm cd doc a vs ns G Y ho hd hcd hmg hobj hints hlen hbits hg => ?_
  have tabs : ∀ {z : Str}, ((recsOf q).any fun e => e.name == z) = true → TabOf z mg s₁.heap := fun {z} hz => by
    obtain ⟨dL, m1, m2⟩ := List.any_eq_true.mp hz
    obtain ⟨a', o', fd', c', P', g1, g2, g3, g4, _, ⟨oc, vc, e1, e2, e3, e4⟩, e5⟩ := G.T.tab dL m1
    rw [beq_iff_eq.mp m2] at g1
    exact ⟨a', o', fd', c', P', oc, vc, g1, g2, g3, g4, e1, e3, e4, e5⟩
  obtain ⟨fd, cs, sp, hT, nT, Cd, hb, hsp, hF⟩ := F w mg fa _ (hY w _ Y) G.T.g hmg (tabs hrec) (tabs hrec2)
  exact LamX.law_callTs (hY w _ Y) G.T.g G.T.b G.T.builtins G.T.nolimit hg hT nT Cd G.T.bmain hobj hints (Nat.le_trans hlen hn2) hr hF hb (fun H hH hS => hsp H a ns hlen hbits hH hS) fun H e s' => hCX w H s₁ e s'
/-! ### what the top has written -/
set_option maxHeartbeats 0 in
theorem all_mk {l : PySem.W.OpenLaw} {w : World} {K : PySem.W.Frag} {h : Heap} {mg : Str → Option Value} {fa : Addr} (X : K.In h) (G : h.Ns mainGlobals mg) (hfa : mg "law" = some (.ref fa)) (TO_is_move : TabOf "_is_move" mg h)
    {f_fraction : Addr} {od_fraction an_fraction : Option Addr} {sl_fraction : Array (Option Value)} {oc_fraction kV_fraction dc_fraction pm_fraction ct_fraction cd_fraction : Value}
    {f_everywhere : Addr} {od_everywhere an_everywhere : Option Addr} {sl_everywhere : Array (Option Value)} {oc_everywhere kV_everywhere dc_everywhere pm_everywhere ct_everywhere cd_everywhere : Value}
    {f_led_to : Addr} {od_led_to an_led_to : Option Addr} {sl_led_to : Array (Option Value)} {oc_led_to kV_led_to dc_led_to pm_led_to ct_led_to cd_led_to : Value}
    {f_is_move : Addr} {od_is_move an_is_move : Option Addr} {sl_is_move : Array (Option Value)} {oc_is_move kV_is_move dc_is_move pm_is_move ct_is_move : Value}
    {cM_is_move tM_is_move : Addr} {eM_is_move : Value} {ddM_is_move : Option Addr} {vsM_is_move : Array Value} {slM_is_move : Array (Option Value)}
    {f_shares : Addr} {od_shares an_shares : Option Addr} {sl_shares : Array (Option Value)} {oc_shares kV_shares dc_shares pm_shares ct_shares cd_shares : Value}
    {f_behind_a_step : Addr} {od_behind_a_step an_behind_a_step : Option Addr} {sl_behind_a_step : Array (Option Value)} {oc_behind_a_step kV_behind_a_step dc_behind_a_step pm_behind_a_step ct_behind_a_step cd_behind_a_step : Value}
    {f_law_cell : Addr} {od_law_cell an_law_cell : Option Addr} {sl_law_cell : Array (Option Value)} {oc_law_cell kV_law_cell dc_law_cell pm_law_cell ct_law_cell cd_law_cell : Value}
    {f_law_dice : Addr} {od_law_dice an_law_dice : Option Addr} {sl_law_dice : Array (Option Value)} {oc_law_dice kV_law_dice dc_law_dice pm_law_dice ct_law_dice cd_law_dice : Value}
    {f_law_off : Addr} {od_law_off an_law_off : Option Addr} {sl_law_off : Array (Option Value)} {oc_law_off kV_law_off dc_law_off pm_law_off ct_law_off cd_law_off : Value}
    {f_law_chain : Addr} {od_law_chain an_law_chain : Option Addr} {sl_law_chain : Array (Option Value)} {oc_law_chain kV_law_chain dc_law_chain pm_law_chain ct_law_chain cd_law_chain : Value}
    {f_law_made : Addr} {od_law_made an_law_made : Option Addr} {sl_law_made : Array (Option Value)} {oc_law_made kV_law_made dc_law_made pm_law_made ct_law_made cd_law_made : Value}
    {f_law_low : Addr} {od_law_low an_law_low : Option Addr} {sl_law_low : Array (Option Value)} {oc_law_low kV_law_low dc_law_low pm_law_low ct_law_low cd_law_low : Value}
    {f_law_add : Addr} {od_law_add an_law_add : Option Addr} {sl_law_add : Array (Option Value)} {oc_law_add kV_law_add dc_law_add pm_law_add ct_law_add cd_law_add : Value}
    {f_law_sum : Addr} {od_law_sum an_law_sum : Option Addr} {sl_law_sum : Array (Option Value)} {oc_law_sum kV_law_sum dc_law_sum pm_law_sum ct_law_sum cd_law_sum : Value}
    {f_law_is_share : Addr} {od_law_is_share an_law_is_share : Option Addr} {sl_law_is_share : Array (Option Value)} {oc_law_is_share kV_law_is_share dc_law_is_share pm_law_is_share ct_law_is_share cd_law_is_share : Value}
    {f_law_are_shares : Addr} {od_law_are_shares an_law_are_shares : Option Addr} {sl_law_are_shares : Array (Option Value)} {oc_law_are_shares kV_law_are_shares dc_law_are_shares pm_law_are_shares ct_law_are_shares cd_law_are_shares : Value}
    {f_law_ends : Addr} {od_law_ends an_law_ends : Option Addr} {sl_law_ends : Array (Option Value)} {oc_law_ends kV_law_ends dc_law_ends pm_law_ends ct_law_ends cd_law_ends : Value}
    {f_law_drawn : Addr} {od_law_drawn an_law_drawn : Option Addr} {sl_law_drawn : Array (Option Value)} {oc_law_drawn kV_law_drawn dc_law_drawn pm_law_drawn ct_law_drawn cd_law_drawn : Value}
    {f_law_rows : Addr} {od_law_rows an_law_rows : Option Addr} {sl_law_rows : Array (Option Value)} {oc_law_rows kV_law_rows dc_law_rows pm_law_rows ct_law_rows cd_law_rows : Value}
    {f_law_is_by_maps : Addr} {od_law_is_by_maps an_law_is_by_maps : Option Addr} {sl_law_is_by_maps : Array (Option Value)} {oc_law_is_by_maps kV_law_is_by_maps dc_law_is_by_maps pm_law_is_by_maps ct_law_is_by_maps cd_law_is_by_maps : Value}
    {f_law_refused : Addr} {od_law_refused an_law_refused : Option Addr} {sl_law_refused : Array (Option Value)} {oc_law_refused kV_law_refused dc_law_refused pm_law_refused ct_law_refused cd_law_refused : Value}
    {f_law : Addr} {od_law an_law : Option Addr} {sl_law : Array (Option Value)} {oc_law kV_law dc_law pm_law ct_law cd_law : Value}
    {C : Addr}
    {f_minit : Addr} {od_minit an_minit : Option Addr} {sl_minit : Array (Option Value)} {oc_minit kV_minit dc_minit pm_minit cd_minit ct_minit : Value}
    {f_mplaces : Addr} {od_mplaces an_mplaces : Option Addr} {sl_mplaces : Array (Option Value)} {oc_mplaces kV_mplaces dc_mplaces pm_mplaces cd_mplaces ct_mplaces : Value}
    {f_mtold : Addr} {od_mtold an_mtold : Option Addr} {sl_mtold : Array (Option Value)} {oc_mtold kV_mtold dc_mtold pm_mtold cd_mtold ct_mtold : Value}
    {tMOST_PLACES : Tok}
    {tMOST_MOVES : Tok}
    {tMOST_WEIGHT : Tok}
    {tMOST_FAR : Tok}
    {ALongError : Addr}
    {ABadChain : Addr}
    {ABadText : Addr}
    {ANoSuch : Addr}
    {ANotOne : Addr}
    {ANeverOne : Addr}
    {ANotOrdered : Addr}
    {ATooMany : Addr}
    (a_fraction : PySem.W.nsIn K mainGlobals "fraction" = some (some (.ref f_fraction)))
    (l_fraction : K.lookup f_fraction = some ⟨oc_fraction, od_fraction, .func (PySem.W.fnOf "fraction" "fraction" (defArgs sFraction) (defBody sFraction) (defScope sFraction) .none kV_fraction dc_fraction pm_fraction an_fraction cd_fraction ct_fraction), sl_fraction⟩)
    (c_fraction : PySem.W.codeIn K cd_fraction "fraction" = true)
    (k_fraction : PySem.W.keepIn K (.ref f_fraction) = true)
    (a_everywhere : PySem.W.nsIn K mainGlobals "everywhere" = some (some (.ref f_everywhere)))
    (l_everywhere : K.lookup f_everywhere = some ⟨oc_everywhere, od_everywhere, .func (PySem.W.fnOf "everywhere" "everywhere" (defArgs sEverywhere) (defBody sEverywhere) (defScope sEverywhere) .none kV_everywhere dc_everywhere pm_everywhere an_everywhere cd_everywhere ct_everywhere), sl_everywhere⟩)
    (c_everywhere : PySem.W.codeIn K cd_everywhere "everywhere" = true)
    (k_everywhere : PySem.W.keepIn K (.ref f_everywhere) = true)
    (a_led_to : PySem.W.nsIn K mainGlobals "led_to" = some (some (.ref f_led_to)))
    (l_led_to : K.lookup f_led_to = some ⟨oc_led_to, od_led_to, .func (PySem.W.fnOf "led_to" "led_to" (defArgs sLedTo) (defBody sLedTo) (defScope sLedTo) .none kV_led_to dc_led_to pm_led_to an_led_to cd_led_to ct_led_to), sl_led_to⟩)
    (c_led_to : PySem.W.codeIn K cd_led_to "led_to" = true)
    (k_led_to : PySem.W.keepIn K (.ref f_led_to) = true)
    (a_is_move : PySem.W.nsIn K mainGlobals "_is_move" = some (some (.ref f_is_move)))
    (l_is_move : K.lookup f_is_move = some ⟨oc_is_move, od_is_move, .func (PySem.W.fnOf "_is_move" "_is_move" (defArgs sIsMove) (defBody sIsMove) (defScope sIsMove) .none kV_is_move dc_is_move pm_is_move an_is_move (.ref cM_is_move) ct_is_move), sl_is_move⟩)
    (c_is_move : PySem.W.codeIn K (.ref cM_is_move) "_is_move" = true)
    (k_is_move : PySem.W.keepIn K (.ref f_is_move) = true)
    (a_shares : PySem.W.nsIn K mainGlobals "shares" = some (some (.ref f_shares)))
    (l_shares : K.lookup f_shares = some ⟨oc_shares, od_shares, .func (PySem.W.fnOf "shares" "shares" (defArgs sShares) (defBody sShares) (defScope sShares) .none kV_shares dc_shares pm_shares an_shares cd_shares ct_shares), sl_shares⟩)
    (c_shares : PySem.W.codeIn K cd_shares "shares" = true)
    (k_shares : PySem.W.keepIn K (.ref f_shares) = true)
    (a_behind_a_step : PySem.W.nsIn K mainGlobals "_behind_a_step" = some (some (.ref f_behind_a_step)))
    (l_behind_a_step : K.lookup f_behind_a_step = some ⟨oc_behind_a_step, od_behind_a_step, .func (PySem.W.fnOf "_behind_a_step" "_behind_a_step" (defArgs sBehindAStep) (defBody sBehindAStep) (defScope sBehindAStep) .none kV_behind_a_step dc_behind_a_step pm_behind_a_step an_behind_a_step cd_behind_a_step ct_behind_a_step), sl_behind_a_step⟩)
    (c_behind_a_step : PySem.W.codeIn K cd_behind_a_step "_behind_a_step" = true)
    (k_behind_a_step : PySem.W.keepIn K (.ref f_behind_a_step) = true)
    (a_law_cell : PySem.W.nsIn K mainGlobals "_law_cell" = some (some (.ref f_law_cell)))
    (l_law_cell : K.lookup f_law_cell = some ⟨oc_law_cell, od_law_cell, .func (PySem.W.fnOf "_law_cell" "_law_cell" (defArgs sCell) (defBody sCell) (defScope sCell) .none kV_law_cell dc_law_cell pm_law_cell an_law_cell cd_law_cell ct_law_cell), sl_law_cell⟩)
    (c_law_cell : PySem.W.codeIn K cd_law_cell "_law_cell" = true)
    (k_law_cell : PySem.W.keepIn K (.ref f_law_cell) = true)
    (a_law_dice : PySem.W.nsIn K mainGlobals "_law_dice" = some (some (.ref f_law_dice)))
    (l_law_dice : K.lookup f_law_dice = some ⟨oc_law_dice, od_law_dice, .func (PySem.W.fnOf "_law_dice" "_law_dice" (defArgs sDice) (defBody sDice) (defScope sDice) .none kV_law_dice dc_law_dice pm_law_dice an_law_dice cd_law_dice ct_law_dice), sl_law_dice⟩)
    (c_law_dice : PySem.W.codeIn K cd_law_dice "_law_dice" = true)
    (k_law_dice : PySem.W.keepIn K (.ref f_law_dice) = true)
    (a_law_off : PySem.W.nsIn K mainGlobals "_law_off" = some (some (.ref f_law_off)))
    (l_law_off : K.lookup f_law_off = some ⟨oc_law_off, od_law_off, .func (PySem.W.fnOf "_law_off" "_law_off" (defArgs sOff) (defBody sOff) (defScope sOff) .none kV_law_off dc_law_off pm_law_off an_law_off cd_law_off ct_law_off), sl_law_off⟩)
    (c_law_off : PySem.W.codeIn K cd_law_off "_law_off" = true)
    (k_law_off : PySem.W.keepIn K (.ref f_law_off) = true)
    (a_law_chain : PySem.W.nsIn K mainGlobals "_law_chain" = some (some (.ref f_law_chain)))
    (l_law_chain : K.lookup f_law_chain = some ⟨oc_law_chain, od_law_chain, .func (PySem.W.fnOf "_law_chain" "_law_chain" (defArgs sChain) (defBody sChain) (defScope sChain) .none kV_law_chain dc_law_chain pm_law_chain an_law_chain cd_law_chain ct_law_chain), sl_law_chain⟩)
    (c_law_chain : PySem.W.codeIn K cd_law_chain "_law_chain" = true)
    (k_law_chain : PySem.W.keepIn K (.ref f_law_chain) = true)
    (a_law_made : PySem.W.nsIn K mainGlobals "_law_made" = some (some (.ref f_law_made)))
    (l_law_made : K.lookup f_law_made = some ⟨oc_law_made, od_law_made, .func (PySem.W.fnOf "_law_made" "_law_made" (defArgs sMade) (defBody sMade) (defScope sMade) .none kV_law_made dc_law_made pm_law_made an_law_made cd_law_made ct_law_made), sl_law_made⟩)
    (c_law_made : PySem.W.codeIn K cd_law_made "_law_made" = true)
    (k_law_made : PySem.W.keepIn K (.ref f_law_made) = true)
    (a_law_low : PySem.W.nsIn K mainGlobals "_law_low" = some (some (.ref f_law_low)))
    (l_law_low : K.lookup f_law_low = some ⟨oc_law_low, od_law_low, .func (PySem.W.fnOf "_law_low" "_law_low" (defArgs sLawLow) (defBody sLawLow) (defScope sLawLow) .none kV_law_low dc_law_low pm_law_low an_law_low cd_law_low ct_law_low), sl_law_low⟩)
    (c_law_low : PySem.W.codeIn K cd_law_low "_law_low" = true)
    (k_law_low : PySem.W.keepIn K (.ref f_law_low) = true)
    (a_law_add : PySem.W.nsIn K mainGlobals "_law_add" = some (some (.ref f_law_add)))
    (l_law_add : K.lookup f_law_add = some ⟨oc_law_add, od_law_add, .func (PySem.W.fnOf "_law_add" "_law_add" (defArgs sLawAdd) (defBody sLawAdd) (defScope sLawAdd) .none kV_law_add dc_law_add pm_law_add an_law_add cd_law_add ct_law_add), sl_law_add⟩)
    (c_law_add : PySem.W.codeIn K cd_law_add "_law_add" = true)
    (k_law_add : PySem.W.keepIn K (.ref f_law_add) = true)
    (a_law_sum : PySem.W.nsIn K mainGlobals "_law_sum" = some (some (.ref f_law_sum)))
    (l_law_sum : K.lookup f_law_sum = some ⟨oc_law_sum, od_law_sum, .func (PySem.W.fnOf "_law_sum" "_law_sum" (defArgs sLawSum) (defBody sLawSum) (defScope sLawSum) .none kV_law_sum dc_law_sum pm_law_sum an_law_sum cd_law_sum ct_law_sum), sl_law_sum⟩)
    (c_law_sum : PySem.W.codeIn K cd_law_sum "_law_sum" = true)
    (k_law_sum : PySem.W.keepIn K (.ref f_law_sum) = true)
    (a_law_is_share : PySem.W.nsIn K mainGlobals "_law_is_share" = some (some (.ref f_law_is_share)))
    (l_law_is_share : K.lookup f_law_is_share = some ⟨oc_law_is_share, od_law_is_share, .func (PySem.W.fnOf "_law_is_share" "_law_is_share" (defArgs sLawIsShare) (defBody sLawIsShare) (defScope sLawIsShare) .none kV_law_is_share dc_law_is_share pm_law_is_share an_law_is_share cd_law_is_share ct_law_is_share), sl_law_is_share⟩)
    (c_law_is_share : PySem.W.codeIn K cd_law_is_share "_law_is_share" = true)
    (k_law_is_share : PySem.W.keepIn K (.ref f_law_is_share) = true)
    (a_law_are_shares : PySem.W.nsIn K mainGlobals "_law_are_shares" = some (some (.ref f_law_are_shares)))
    (l_law_are_shares : K.lookup f_law_are_shares = some ⟨oc_law_are_shares, od_law_are_shares, .func (PySem.W.fnOf "_law_are_shares" "_law_are_shares" (defArgs sLawAreShares) (defBody sLawAreShares) (defScope sLawAreShares) .none kV_law_are_shares dc_law_are_shares pm_law_are_shares an_law_are_shares cd_law_are_shares ct_law_are_shares), sl_law_are_shares⟩)
    (c_law_are_shares : PySem.W.codeIn K cd_law_are_shares "_law_are_shares" = true)
    (k_law_are_shares : PySem.W.keepIn K (.ref f_law_are_shares) = true)
    (a_law_ends : PySem.W.nsIn K mainGlobals "_law_ends" = some (some (.ref f_law_ends)))
    (l_law_ends : K.lookup f_law_ends = some ⟨oc_law_ends, od_law_ends, .func (PySem.W.fnOf "_law_ends" "_law_ends" (defArgs sLawEnds) (defBody sLawEnds) (defScope sLawEnds) .none kV_law_ends dc_law_ends pm_law_ends an_law_ends cd_law_ends ct_law_ends), sl_law_ends⟩)
    (c_law_ends : PySem.W.codeIn K cd_law_ends "_law_ends" = true)
    (k_law_ends : PySem.W.keepIn K (.ref f_law_ends) = true)
    (a_law_drawn : PySem.W.nsIn K mainGlobals "_law_drawn" = some (some (.ref f_law_drawn)))
    (l_law_drawn : K.lookup f_law_drawn = some ⟨oc_law_drawn, od_law_drawn, .func (PySem.W.fnOf "_law_drawn" "_law_drawn" (defArgs sLawDrawn) (defBody sLawDrawn) (defScope sLawDrawn) .none kV_law_drawn dc_law_drawn pm_law_drawn an_law_drawn cd_law_drawn ct_law_drawn), sl_law_drawn⟩)
    (c_law_drawn : PySem.W.codeIn K cd_law_drawn "_law_drawn" = true)
    (k_law_drawn : PySem.W.keepIn K (.ref f_law_drawn) = true)
    (a_law_rows : PySem.W.nsIn K mainGlobals "_law_rows" = some (some (.ref f_law_rows)))
    (l_law_rows : K.lookup f_law_rows = some ⟨oc_law_rows, od_law_rows, .func (PySem.W.fnOf "_law_rows" "_law_rows" (defArgs sLawRows) (defBody sLawRows) (defScope sLawRows) .none kV_law_rows dc_law_rows pm_law_rows an_law_rows cd_law_rows ct_law_rows), sl_law_rows⟩)
    (c_law_rows : PySem.W.codeIn K cd_law_rows "_law_rows" = true)
    (k_law_rows : PySem.W.keepIn K (.ref f_law_rows) = true)
    (a_law_is_by_maps : PySem.W.nsIn K mainGlobals "_law_is_by_maps" = some (some (.ref f_law_is_by_maps)))
    (l_law_is_by_maps : K.lookup f_law_is_by_maps = some ⟨oc_law_is_by_maps, od_law_is_by_maps, .func (PySem.W.fnOf "_law_is_by_maps" "_law_is_by_maps" (defArgs sLawIsByMaps) (defBody sLawIsByMaps) (defScope sLawIsByMaps) .none kV_law_is_by_maps dc_law_is_by_maps pm_law_is_by_maps an_law_is_by_maps cd_law_is_by_maps ct_law_is_by_maps), sl_law_is_by_maps⟩)
    (c_law_is_by_maps : PySem.W.codeIn K cd_law_is_by_maps "_law_is_by_maps" = true)
    (k_law_is_by_maps : PySem.W.keepIn K (.ref f_law_is_by_maps) = true)
    (a_law_refused : PySem.W.nsIn K mainGlobals "_law_refused" = some (some (.ref f_law_refused)))
    (l_law_refused : K.lookup f_law_refused = some ⟨oc_law_refused, od_law_refused, .func (PySem.W.fnOf "_law_refused" "_law_refused" (defArgs sLawRefused) (defBody sLawRefused) (defScope sLawRefused) .none kV_law_refused dc_law_refused pm_law_refused an_law_refused cd_law_refused ct_law_refused), sl_law_refused⟩)
    (c_law_refused : PySem.W.codeIn K cd_law_refused "_law_refused" = true)
    (k_law_refused : PySem.W.keepIn K (.ref f_law_refused) = true)
    (a_law : PySem.W.nsIn K mainGlobals "law" = some (some (.ref f_law)))
    (l_law : K.lookup f_law = some ⟨oc_law, od_law, .func (PySem.W.fnOf "law" "law" (defArgs sLaw) (defBody sLaw) (defScope sLaw) .none kV_law dc_law pm_law an_law cd_law ct_law), sl_law⟩)
    (c_law : PySem.W.codeIn K cd_law "law" = true)
    (k_law : PySem.W.keepIn K (.ref f_law) = true)
    (aC : PySem.W.nsIn K mainGlobals "Chain" = some (some (.ref C)))
    (a_minit : PySem.W.findIn K (.ref C) "__init__" = some (some (.ref f_minit)))
    (i_minit : PySem.W.isFn K (.ref f_minit) = true)
    (l_minit : K.lookup f_minit = some ⟨oc_minit, od_minit, .func (PySem.W.fnOf "__init__" "Chain.__init__" (defArgs (inClass cChain 0)) (defBody (inClass cChain 0)) (defScope (inClass cChain 0)) .none kV_minit dc_minit pm_minit an_minit cd_minit ct_minit), sl_minit⟩)
    (c_minit : PySem.W.codeIn K cd_minit "Chain.__init__" = true)
    (k_minit : PySem.W.keepIn K (.ref f_minit) = true)
    (a_mplaces : PySem.W.findIn K (.ref C) "places" = some (some (.ref f_mplaces)))
    (i_mplaces : PySem.W.isFn K (.ref f_mplaces) = true)
    (l_mplaces : K.lookup f_mplaces = some ⟨oc_mplaces, od_mplaces, .func (PySem.W.fnOf "places" "Chain.places" (defArgs (inClass cChain 1)) (defBody (inClass cChain 1)) (defScope (inClass cChain 1)) .none kV_mplaces dc_mplaces pm_mplaces an_mplaces cd_mplaces ct_mplaces), sl_mplaces⟩)
    (c_mplaces : PySem.W.codeIn K cd_mplaces "Chain.places" = true)
    (k_mplaces : PySem.W.keepIn K (.ref f_mplaces) = true)
    (a_mtold : PySem.W.findIn K (.ref C) "told" = some (some (.ref f_mtold)))
    (i_mtold : PySem.W.isFn K (.ref f_mtold) = true)
    (l_mtold : K.lookup f_mtold = some ⟨oc_mtold, od_mtold, .func (PySem.W.fnOf "told" "Chain.told" (defArgs (inClass cChain 2)) (defBody (inClass cChain 2)) (defScope (inClass cChain 2)) .none kV_mtold dc_mtold pm_mtold an_mtold cd_mtold ct_mtold), sl_mtold⟩)
    (c_mtold : PySem.W.codeIn K cd_mtold "Chain.told" = true)
    (k_mtold : PySem.W.keepIn K (.ref f_mtold) = true)
    (pg : PySem.W.plainGet K C Str.empty = true)
    (hd : PySem.W.hasDictIn K C = true)
    (po : PySem.W.plainOver K C = true)
    (sa : PySem.W.findIn K (.ref C) "__setattr__" = some (some (.builtin "object.__setattr__")))
    (mk : PySem.W.makesIn K C = true)
    (kc : PySem.W.keepIn K (.ref C) = true)
    (nM : PySem.W.findIn K (.ref C) "_many" = some none)
    (nV : PySem.W.findIn K (.ref C) "_moves" = some none)
    (gMOST_PLACES : PySem.W.nsIn K mainGlobals "MOST_PLACES" = some (some (.int 6 tMOST_PLACES)))
    (gMOST_MOVES : PySem.W.nsIn K mainGlobals "MOST_MOVES" = some (some (.int 8 tMOST_MOVES)))
    (gMOST_WEIGHT : PySem.W.nsIn K mainGlobals "MOST_WEIGHT" = some (some (.int 99 tMOST_WEIGHT)))
    (gMOST_FAR : PySem.W.nsIn K mainGlobals "MOST_FAR" = some (some (.int 20 tMOST_FAR)))
    (zlen : PySem.W.nsIn K mainGlobals "len" = some none)
    (zabs : PySem.W.nsIn K mainGlobals "abs" = some none)
    (zmax : PySem.W.nsIn K mainGlobals "max" = some none)
    (zmin : PySem.W.nsIn K mainGlobals "min" = some none)
    (zint : PySem.W.nsIn K mainGlobals "int" = some none)
    (zrange : PySem.W.nsIn K mainGlobals "range" = some none)
    (zsorted : PySem.W.nsIn K mainGlobals "sorted" = some none)
    (ztuple : PySem.W.nsIn K mainGlobals "tuple" = some none)
    (zisinstance : PySem.W.nsIn K mainGlobals "isinstance" = some none)
    (zall : PySem.W.nsIn K mainGlobals "all" = some none)
    (zenumerate : PySem.W.nsIn K mainGlobals "enumerate" = some none)
    (zlist : PySem.W.nsIn K mainGlobals "list" = some none)
    (zset : PySem.W.nsIn K mainGlobals "set" = some none)
    (zreversed : PySem.W.nsIn K mainGlobals "reversed" = some none)
    (zsum : PySem.W.nsIn K mainGlobals "sum" = some none)
    (zbool : PySem.W.nsIn K mainGlobals "bool" = some none)
    (zValueError : PySem.W.nsIn K mainGlobals "ValueError" = some none)
    (eLongError : PySem.W.nsIn K mainGlobals "LongError" = some (some (.ref ALongError)))
    (eBadChain : PySem.W.nsIn K mainGlobals "BadChain" = some (some (.ref ABadChain)))
    (eBadText : PySem.W.nsIn K mainGlobals "BadText" = some (some (.ref ABadText)))
    (eNoSuch : PySem.W.nsIn K mainGlobals "NoSuch" = some (some (.ref ANoSuch)))
    (eNotOne : PySem.W.nsIn K mainGlobals "NotOne" = some (some (.ref ANotOne)))
    (eNeverOne : PySem.W.nsIn K mainGlobals "NeverOne" = some (some (.ref ANeverOne)))
    (eNotOrdered : PySem.W.nsIn K mainGlobals "NotOrdered" = some (some (.ref ANotOrdered)))
    (eTooMany : PySem.W.nsIn K mainGlobals "TooMany" = some (some (.ref ATooMany)))
    (xkNoSuch : PySem.W.keepIn K (.ref ANoSuch) = true)
    (xxNoSuch : PySem.W.excIn K ANoSuch [.type "ValueError", .type "Exception", .type "BaseException", .type "object"] "ValueError.__new__" = true)
    (xbNoSuch : PySem.W.subIn K (.ref ANoSuch) (.type "BaseException") = some true)
    (xtNoSuch : PySem.W.typeIn K (.ref ANoSuch) = some (.type "type"))
    (xex : PySem.W.exmOne K (.ref ANoSuch) (.ref ALongError) = some true)
    (xg : PySem.W.findIn K (.ref ANoSuch) "__getattribute__" = some (some (.builtin "BaseException.__getattribute__")))
    (xh : PySem.W.findIn K (.ref ANoSuch) "__getattr__" = some none)
    (xd : PySem.W.hasDictIn K ANoSuch = true)
    (xa : PySem.W.findIn K (.ref ANoSuch) "__class__" = some (some (.builtin "object.__class__")))
    (xn : PySem.W.specialIn K (.builtin "object.__class__") "__get__" = some (some (.builtin "getset_descriptor.__get__")))
    (xs : PySem.W.takesIn K (.builtin "object.__class__") = some true)
    (xm : PySem.W.mroIn K ANoSuch (.type "object") = some true)
    (xno : PySem.W.kitAny K (.ref ANoSuch) [.ref ABadChain, .ref ABadText, .ref ANeverOne, .ref ANotOne, .ref ANotOrdered, .ref ATooMany] = some false)
    (xy : PySem.W.kitOne K (.ref ANoSuch) (.ref ANoSuch) = some true)
    (xv : PySem.W.kitOne K (.ref ANoSuch) (.type "ValueError") = some true)
    (ggcd : PySem.W.nsIn K mainGlobals "gcd" = some (some (.builtin "math.gcd")))
    (lM_is_move : K.lookup cM_is_move = some ⟨eM_is_move, ddM_is_move, .fields vsM_is_move, slM_is_move⟩)
    (vM_is_move : vsM_is_move[11]? = some (.ref tM_is_move))
    (hM_is_move : PySem.W.codeHdIn K cM_is_move tM_is_move = true)
    (nT_is_move : K.lookup tM_is_move = none) :
    LamX.LawAtS l w K CX0 6 63 "_law_script" mg fa h := by
  have e := hfa.symm.trans (PySem.W.mg_of X G a_law)
  cases e
  have F_fraction := fun_mk (st := sFraction) l_fraction c_fraction k_fraction
  have b_fraction := F_fraction.binds (ps := ["top", "bottom"]) fun _ _ _ _ _ _ us hl => match us, hl with | [_, _], _ => rfl
  have g_fraction := PySem.W.mg_of X G a_fraction
  have D_fraction : Df K mg "fraction" sFraction ["top", "bottom"] f_fraction _ := ⟨F_fraction, b_fraction, g_fraction⟩
  have F_everywhere := fun_mk (st := sEverywhere) l_everywhere c_everywhere k_everywhere
  have b_everywhere := F_everywhere.binds (ps := ["chain"]) fun _ _ _ _ _ _ us hl => match us, hl with | [_], _ => rfl
  have g_everywhere := PySem.W.mg_of X G a_everywhere
  have D_everywhere : Df K mg "everywhere" sEverywhere ["chain"] f_everywhere _ := ⟨F_everywhere, b_everywhere, g_everywhere⟩
  have F_led_to := fun_mk (st := sLedTo) l_led_to c_led_to k_led_to
  have b_led_to := F_led_to.binds (ps := ["whither", "group"]) fun _ _ _ _ _ _ us hl => match us, hl with | [_, _], _ => rfl
  have g_led_to := PySem.W.mg_of X G a_led_to
  have D_led_to : Df K mg "led_to" sLedTo ["whither", "group"] f_led_to _ := ⟨F_led_to, b_led_to, g_led_to⟩
  have FM_is_move : FunT K "_is_move" "_is_move" sIsMove f_is_move _ cM_is_move := ⟨⟨_, _, _, _, _, _, _, _, rfl, l_is_move, c_is_move⟩, k_is_move⟩
  have F_is_move := fun_mk (st := sIsMove) l_is_move c_is_move k_is_move
  have b_is_move := F_is_move.binds (ps := ["many", "move"]) fun _ _ _ _ _ _ us hl => match us, hl with | [_, _], _ => rfl
  have g_is_move := PySem.W.mg_of X G a_is_move
  have D_is_move : Df K mg "_is_move" sIsMove ["many", "move"] f_is_move _ := ⟨F_is_move, b_is_move, g_is_move⟩
  have F_shares := fun_mk (st := sShares) l_shares c_shares k_shares
  have b_shares := F_shares.binds (ps := ["chain", "far"]) fun _ _ _ _ _ _ us hl => match us, hl with | [_, _], _ => rfl
  have g_shares := PySem.W.mg_of X G a_shares
  have D_shares : Df K mg "shares" sShares ["chain", "far"] f_shares _ := ⟨F_shares, b_shares, g_shares⟩
  have F_behind_a_step := fun_mk (st := sBehindAStep) l_behind_a_step c_behind_a_step k_behind_a_step
  have b_behind_a_step := F_behind_a_step.binds (ps := ["moves", "weights"]) fun _ _ _ _ _ _ us hl => match us, hl with | [_, _], _ => rfl
  have g_behind_a_step := PySem.W.mg_of X G a_behind_a_step
  have D_behind_a_step : Df K mg "_behind_a_step" sBehindAStep ["moves", "weights"] f_behind_a_step _ := ⟨F_behind_a_step, b_behind_a_step, g_behind_a_step⟩
  have F_law_cell := fun_mk (st := sCell) l_law_cell c_law_cell k_law_cell
  have b_law_cell := F_law_cell.binds (ps := ["_law_script", "_law_k"]) fun _ _ _ _ _ _ us hl => match us, hl with | [_, _], _ => rfl
  have g_law_cell := PySem.W.mg_of X G a_law_cell
  have D_law_cell : Df K mg "_law_cell" sCell ["_law_script", "_law_k"] f_law_cell _ := ⟨F_law_cell, b_law_cell, g_law_cell⟩
  have F_law_dice := fun_mk (st := sDice) l_law_dice c_law_dice k_law_dice
  have b_law_dice := F_law_dice.binds (ps := ["_law_script", "_law_k"]) fun _ _ _ _ _ _ us hl => match us, hl with | [_, _], _ => rfl
  have g_law_dice := PySem.W.mg_of X G a_law_dice
  have D_law_dice : Df K mg "_law_dice" sDice ["_law_script", "_law_k"] f_law_dice _ := ⟨F_law_dice, b_law_dice, g_law_dice⟩
  have F_law_off := fun_mk (st := sOff) l_law_off c_law_off k_law_off
  have b_law_off := F_law_off.binds (ps := ["_law_d", "_law_most"]) fun _ _ _ _ _ _ us hl => match us, hl with | [_, _], _ => rfl
  have g_law_off := PySem.W.mg_of X G a_law_off
  have D_law_off : Df K mg "_law_off" sOff ["_law_d", "_law_most"] f_law_off _ := ⟨F_law_off, b_law_off, g_law_off⟩
  have F_law_chain := fun_mk (st := sChain) l_law_chain c_law_chain k_law_chain
  have b_law_chain := F_law_chain.binds (ps := ["_law_d", "_law_most"]) fun _ _ _ _ _ _ us hl => match us, hl with | [_, _], _ => rfl
  have g_law_chain := PySem.W.mg_of X G a_law_chain
  have D_law_chain : Df K mg "_law_chain" sChain ["_law_d", "_law_most"] f_law_chain _ := ⟨F_law_chain, b_law_chain, g_law_chain⟩
  have F_law_made := fun_mk (st := sMade) l_law_made c_law_made k_law_made
  have b_law_made := F_law_made.binds (ps := ["_law_told"]) fun _ _ _ _ _ _ us hl => match us, hl with | [_], _ => rfl
  have g_law_made := PySem.W.mg_of X G a_law_made
  have D_law_made : Df K mg "_law_made" sMade ["_law_told"] f_law_made _ := ⟨F_law_made, b_law_made, g_law_made⟩
  have F_law_low := fun_mk (st := sLawLow) l_law_low c_law_low k_law_low
  have b_law_low := F_law_low.binds (ps := ["_law_top", "_law_bottom"]) fun _ _ _ _ _ _ us hl => match us, hl with | [_, _], _ => rfl
  have g_law_low := PySem.W.mg_of X G a_law_low
  have D_law_low : Df K mg "_law_low" sLawLow ["_law_top", "_law_bottom"] f_law_low _ := ⟨F_law_low, b_law_low, g_law_low⟩
  have F_law_add := fun_mk (st := sLawAdd) l_law_add c_law_add k_law_add
  have b_law_add := F_law_add.binds (ps := ["_law_one", "_law_other"]) fun _ _ _ _ _ _ us hl => match us, hl with | [_, _], _ => rfl
  have g_law_add := PySem.W.mg_of X G a_law_add
  have D_law_add : Df K mg "_law_add" sLawAdd ["_law_one", "_law_other"] f_law_add _ := ⟨F_law_add, b_law_add, g_law_add⟩
  have F_law_sum := fun_mk (st := sLawSum) l_law_sum c_law_sum k_law_sum
  have b_law_sum := F_law_sum.binds (ps := ["_law_some"]) fun _ _ _ _ _ _ us hl => match us, hl with | [_], _ => rfl
  have g_law_sum := PySem.W.mg_of X G a_law_sum
  have D_law_sum : Df K mg "_law_sum" sLawSum ["_law_some"] f_law_sum _ := ⟨F_law_sum, b_law_sum, g_law_sum⟩
  have F_law_is_share := fun_mk (st := sLawIsShare) l_law_is_share c_law_is_share k_law_is_share
  have b_law_is_share := F_law_is_share.binds (ps := ["_law_found"]) fun _ _ _ _ _ _ us hl => match us, hl with | [_], _ => rfl
  have g_law_is_share := PySem.W.mg_of X G a_law_is_share
  have D_law_is_share : Df K mg "_law_is_share" sLawIsShare ["_law_found"] f_law_is_share _ := ⟨F_law_is_share, b_law_is_share, g_law_is_share⟩
  have F_law_are_shares := fun_mk (st := sLawAreShares) l_law_are_shares c_law_are_shares k_law_are_shares
  have b_law_are_shares := F_law_are_shares.binds (ps := ["_law_found", "_law_many"]) fun _ _ _ _ _ _ us hl => match us, hl with | [_, _], _ => rfl
  have g_law_are_shares := PySem.W.mg_of X G a_law_are_shares
  have D_law_are_shares : Df K mg "_law_are_shares" sLawAreShares ["_law_found", "_law_many"] f_law_are_shares _ := ⟨F_law_are_shares, b_law_are_shares, g_law_are_shares⟩
  have F_law_ends := fun_mk (st := sLawEnds) l_law_ends c_law_ends k_law_ends
  have b_law_ends := F_law_ends.binds (ps := ["_law_told", "_law_numbers_here"]) fun _ _ _ _ _ _ us hl => match us, hl with | [_, _], _ => rfl
  have g_law_ends := PySem.W.mg_of X G a_law_ends
  have D_law_ends : Df K mg "_law_ends" sLawEnds ["_law_told", "_law_numbers_here"] f_law_ends _ := ⟨F_law_ends, b_law_ends, g_law_ends⟩
  have F_law_drawn := fun_mk (st := sLawDrawn) l_law_drawn c_law_drawn k_law_drawn
  have b_law_drawn := F_law_drawn.binds (ps := ["_law_told", "_law_numbers_here"]) fun _ _ _ _ _ _ us hl => match us, hl with | [_, _], _ => rfl
  have g_law_drawn := PySem.W.mg_of X G a_law_drawn
  have D_law_drawn : Df K mg "_law_drawn" sLawDrawn ["_law_told", "_law_numbers_here"] f_law_drawn _ := ⟨F_law_drawn, b_law_drawn, g_law_drawn⟩
  have F_law_rows := fun_mk (st := sLawRows) l_law_rows c_law_rows k_law_rows
  have b_law_rows := F_law_rows.binds (ps := ["_law_told", "_law_far"]) fun _ _ _ _ _ _ us hl => match us, hl with | [_, _], _ => rfl
  have g_law_rows := PySem.W.mg_of X G a_law_rows
  have D_law_rows : Df K mg "_law_rows" sLawRows ["_law_told", "_law_far"] f_law_rows _ := ⟨F_law_rows, b_law_rows, g_law_rows⟩
  have F_law_is_by_maps := fun_mk (st := sLawIsByMaps) l_law_is_by_maps c_law_is_by_maps k_law_is_by_maps
  have b_law_is_by_maps := F_law_is_by_maps.binds (ps := ["_law_told", "_law_far"]) fun _ _ _ _ _ _ us hl => match us, hl with | [_, _], _ => rfl
  have g_law_is_by_maps := PySem.W.mg_of X G a_law_is_by_maps
  have D_law_is_by_maps : Df K mg "_law_is_by_maps" sLawIsByMaps ["_law_told", "_law_far"] f_law_is_by_maps _ := ⟨F_law_is_by_maps, b_law_is_by_maps, g_law_is_by_maps⟩
  have F_law_refused := fun_mk (st := sLawRefused) l_law_refused c_law_refused k_law_refused
  have b_law_refused := F_law_refused.binds (ps := ["_law_chain_here", "_law_far"]) fun _ _ _ _ _ _ us hl => match us, hl with | [_, _], _ => rfl
  have g_law_refused := PySem.W.mg_of X G a_law_refused
  have D_law_refused : Df K mg "_law_refused" sLawRefused ["_law_chain_here", "_law_far"] f_law_refused _ := ⟨F_law_refused, b_law_refused, g_law_refused⟩
  have F_law := fun_mk (st := sLaw) l_law c_law k_law
  have g_law := PySem.W.mg_of X G a_law
  have F_minit := fun_mk (st := inClass cChain 0) l_minit c_minit k_minit
  have b_minit := F_minit.binds (ps := ["self", "many", "moves"]) fun _ _ _ _ _ _ us hl => match us, hl with | [_, _, _], _ => rfl
  have F_mplaces := fun_mk (st := inClass cChain 1) l_mplaces c_mplaces k_mplaces
  have b_mplaces := F_mplaces.binds (ps := ["self"]) fun _ _ _ _ _ _ us hl => match us, hl with | [_], _ => rfl
  have F_mtold := fun_mk (st := inClass cChain 2) l_mtold c_mtold k_mtold
  have b_mtold := F_mtold.binds (ps := ["self"]) fun _ _ _ _ _ _ us hl => match us, hl with | [_], _ => rfl
  have gC := PySem.W.mg_of X G aC
  have GMOST_PLACES := PySem.W.mg_of X G gMOST_PLACES
  have GMOST_MOVES := PySem.W.mg_of X G gMOST_MOVES
  have GMOST_WEIGHT := PySem.W.mg_of X G gMOST_WEIGHT
  have GMOST_FAR := PySem.W.mg_of X G gMOST_FAR
  have Zlen := PySem.W.mg_none_of X G zlen
  have Zabs := PySem.W.mg_none_of X G zabs
  have Zmax := PySem.W.mg_none_of X G zmax
  have Zmin := PySem.W.mg_none_of X G zmin
  have Zint := PySem.W.mg_none_of X G zint
  have Zrange := PySem.W.mg_none_of X G zrange
  have Zsorted := PySem.W.mg_none_of X G zsorted
  have Ztuple := PySem.W.mg_none_of X G ztuple
  have Zisinstance := PySem.W.mg_none_of X G zisinstance
  have Zall := PySem.W.mg_none_of X G zall
  have Zenumerate := PySem.W.mg_none_of X G zenumerate
  have Zlist := PySem.W.mg_none_of X G zlist
  have Zset := PySem.W.mg_none_of X G zset
  have Zreversed := PySem.W.mg_none_of X G zreversed
  have Zsum := PySem.W.mg_none_of X G zsum
  have Zbool := PySem.W.mg_none_of X G zbool
  have ZValueError := PySem.W.mg_none_of X G zValueError
  have tabE_is_move : h.get? tM_is_move = some { cls := .none, data := .fields #[] } := by
    obtain ⟨a', o', fd', c', P', oc, vc, g1, g2, g3, g4, e1, e3, e4, e5⟩ := TO_is_move
    rw [g_is_move] at g1
    cases g1
    have q1 := X _ _ l_is_move
    rw [q1] at g2
    cases g2
    cases g3
    cases g4
    have q2 := X _ _ lM_is_move
    rw [q2] at e1
    cases e1
    cases e3
    rw [vM_is_move] at e4
    cases e4
    exact e5
  have LT : LawTxt K mg f_law_cell f_law_dice f_law_off _ _ _ := ⟨F_law_cell, b_law_cell, g_law_cell, F_law_dice, b_law_dice, g_law_dice, F_law_off, b_law_off, g_law_off, Zlen, Zabs, Zmax, Zmin, Zint, Zrange, Zsorted, Ztuple⟩
  have CL' : Cls K C := ⟨pg, hd, po, sa⟩
  have CH : ChTxt K mg f_is_move cM_is_move tM_is_move _ C f_minit _ := ⟨FM_is_move, b_is_move, g_is_move, F_minit, b_minit, ⟨mk, a_minit, i_minit, kc⟩, CL', nM, nV, gC, ⟨_, GMOST_PLACES⟩, ⟨_, GMOST_MOVES⟩, ⟨_, GMOST_WEIGHT⟩, Zlen, Zisinstance, Ztuple, Zrange, Zall, Zenumerate, Zlist⟩
  have CM : ChM K C f_mplaces f_mtold _ _ := ⟨F_mplaces, b_mplaces, ⟨a_mplaces, i_mplaces, k_mplaces⟩, F_mtold, b_mtold, ⟨a_mtold, i_mtold, k_mtold⟩, CL', nM, nV⟩
  have N_NoSuch : OwnE K mg "NoSuch" ANoSuch := ⟨PySem.W.mg_of X G eNoSuch, xkNoSuch, xxNoSuch, xbNoSuch, xtNoSuch⟩
  have R : RefG K mg "NoSuch" "BadChain" "BadText" "NeverOne" "NotOne" "NotOrdered" "TooMany" ALongError ANoSuch ABadChain ABadText ANeverOne ANotOne ANotOrdered ATooMany := ⟨PySem.W.mg_of X G eLongError, xex, N_NoSuch, ⟨xg, xh, xbNoSuch, xd, xa, xn, xs, xm⟩, PySem.W.mg_of X G eBadChain, PySem.W.mg_of X G eBadText, PySem.W.mg_of X G eNeverOne, PySem.W.mg_of X G eNotOne, PySem.W.mg_of X G eNotOrdered, PySem.W.mg_of X G eTooMany, xno, xy, xv, Zisinstance, ZValueError⟩
  refine ⟨PySem.W.fnOf "law" "law" (defArgs sLaw) (defBody sLaw) (defScope sLaw) .none kV_law dc_law pm_law an_law cd_law ct_law, [(cM_is_move, tM_is_move)], spLaw K tM_is_move, fun p hp => ?_, fun p hp => ?_, fun p hp => ?_, fun s v => .of_eq rfl, fun H a ns hl hbits hT hS => ?_, fun base hK hG hTB => ?_⟩
  · have e : p = (cM_is_move, tM_is_move) := by simpa using hp
    rw [e]
    exact tabE_is_move
  · have e : p = (cM_is_move, tM_is_move) := by simpa using hp
    rw [e]
    exact nT_is_move
  · have e : p = (cM_is_move, tM_is_move) := by simpa using hp
    rw [e]
    exact PySem.W.codeHd_of_K X hM_is_move
  · exact ⟨a, ns, rfl, hS, hl, ⟨#[], hT (cM_is_move, tM_is_move) (by simp), by simp [TriplesOk]⟩, fun _ => rfl⟩
  · have TBx := hTB (cM_is_move, tM_is_move) (by simp)
    have TB : GxR.TabB base mg cM_is_move tM_is_move := ⟨TBx.code, TBx.bm, TBx.gP⟩
    have GEv : FnOk l.prog w K mg base CX0 2 f_everywhere _ ["chain"] (spEv C) := ok_ev F_everywhere CM Ztuple Zrange
    have GSh : FnOk l.prog w K mg base CX0 3 f_shares _ ["chain", "far"] (spSh C) := ok_shares F_shares CM D_everywhere GEv D_behind_a_step D_led_to D_fraction (PySem.W.mg_of X G ggcd) GMOST_FAR Ztuple Zsorted Zrange Zsum Zlist
    have GM : FnOk l.prog w K mg base CX0 4 f_law_made _ ["_law_told"] (spMade C tM_is_move) := ok_made F_law_made CH TB
    have GLd : FnOk l.prog w K mg base CX0 2 f_law_drawn _ ["_law_told", "_law_numbers_here"] spLd := ok_ldrawn F_law_drawn F_law_ends b_law_ends g_law_ends Zrange Zlist Zlen Zset Zreversed
    have GAr : FnOk l.prog w K mg base CX0 4 f_law_are_shares _ ["_law_found", "_law_many"] spAre := ok_are F_law_are_shares F_law_is_share b_law_is_share g_law_is_share F_law_sum b_law_sum g_law_sum F_law_add b_law_add g_law_add F_law_low b_law_low g_law_low Zabs Zisinstance Ztuple Zlist Zbool Zint Zlen
    have GMp : FnOk l.prog w K mg base CX0 5 f_law_is_by_maps _ ["_law_told", "_law_far"] (spMp tM_is_move) := ok_bymaps F_law_is_by_maps LT D_law_low D_law_made D_shares GM GSh Zsum Zlist
    have GSx : FnOk l.prog w K mg base (L2.CX l.prog w) 3 f_shares _ ["chain", "far"] (spShX C ANoSuch) := ok_sharesX F_shares N_NoSuch GMOST_FAR Zrange
    have GRf : FnOk l.prog w K mg base CX0 4 f_law_refused _ ["_law_chain_here", "_law_far"] spRf := ok_refused F_law_refused R D_shares GSx
    exact ok_law F_law LT D_law_chain D_law_made D_law_rows D_law_drawn D_shares D_law_are_shares D_law_low D_law_is_by_maps D_law_refused GM GLd GSh GAr GMp GRf Zisinstance Zsum
end Lg
open PySem PySem.W PyProof.Rows
set_option maxRecDepth 100000 in
set_option maxHeartbeats 0 in
theorem PySem.Challenge.cw_longago_k12_shares_of_a_length_holds : PySem.Challenge.rw_longago_k12_shares_of_a_length.Holds := by
  w_on; o_law; k_head; (case hw => w_witness2)
  k_fill
  refine Lg.walk_tab (l := PySem.Challenge.rw_longago_k12_shares_of_a_length) (n := 63) (k := 6) (x := "_law_script") (CX := fun _ => L2.CX0) "_is_move" rfl (by decide) rfl ⟨rfl, by decide, by decide⟩ (by decide +kernel) (fun w h Y => PySem.W.kIn_of Y) ?F (fun _ _ _ _ _ z => z)
  case F =>
    intro w mg fa h KX G hmg TO0
    refine' Lg.all_mk KX G hmg TO0 ?a_fraction ?l_fraction ?c_fraction ?k_fraction ?a_everywhere ?l_everywhere ?c_everywhere ?k_everywhere ?a_led_to ?l_led_to ?c_led_to ?k_led_to ?a_is_move ?l_is_move ?c_is_move ?k_is_move ?a_shares ?l_shares ?c_shares ?k_shares ?a_behind_a_step ?l_behind_a_step ?c_behind_a_step ?k_behind_a_step ?a_law_cell ?l_law_cell ?c_law_cell ?k_law_cell ?a_law_dice ?l_law_dice ?c_law_dice ?k_law_dice ?a_law_off ?l_law_off ?c_law_off ?k_law_off ?a_law_chain ?l_law_chain ?c_law_chain ?k_law_chain ?a_law_made ?l_law_made ?c_law_made ?k_law_made ?a_law_low ?l_law_low ?c_law_low ?k_law_low ?a_law_add ?l_law_add ?c_law_add ?k_law_add ?a_law_sum ?l_law_sum ?c_law_sum ?k_law_sum ?a_law_is_share ?l_law_is_share ?c_law_is_share ?k_law_is_share ?a_law_are_shares ?l_law_are_shares ?c_law_are_shares ?k_law_are_shares ?a_law_ends ?l_law_ends ?c_law_ends ?k_law_ends ?a_law_drawn ?l_law_drawn ?c_law_drawn ?k_law_drawn ?a_law_rows ?l_law_rows ?c_law_rows ?k_law_rows ?a_law_is_by_maps ?l_law_is_by_maps ?c_law_is_by_maps ?k_law_is_by_maps ?a_law_refused ?l_law_refused ?c_law_refused ?k_law_refused ?a_law ?l_law ?c_law ?k_law ?aC ?a_minit ?i_minit ?l_minit ?c_minit ?k_minit ?a_mplaces ?i_mplaces ?l_mplaces ?c_mplaces ?k_mplaces ?a_mtold ?i_mtold ?l_mtold ?c_mtold ?k_mtold ?pg ?hd ?po ?sa ?mk ?kc ?nM ?nV ?gMOST_PLACES ?gMOST_MOVES ?gMOST_WEIGHT ?gMOST_FAR ?zlen ?zabs ?zmax ?zmin ?zint ?zrange ?zsorted ?ztuple ?zisinstance ?zall ?zenumerate ?zlist ?zset ?zreversed ?zsum ?zbool ?zValueError ?eLongError ?eBadChain ?eBadText ?eNoSuch ?eNotOne ?eNeverOne ?eNotOrdered ?eTooMany ?xkNoSuch ?xxNoSuch ?xbNoSuch ?xtNoSuch ?xex ?xg ?xh ?xd ?xa ?xn ?xs ?xm ?xno ?xy ?xv ?ggcd ?lM_is_move ?vM_is_move ?hM_is_move ?nT_is_move
    (case a_fraction => k_is)
    (case l_fraction => k_is)
    (case c_fraction => k_is)
    (case k_fraction => k_is)
    (case a_everywhere => k_is)
    (case l_everywhere => k_is)
    (case c_everywhere => k_is)
    (case k_everywhere => k_is)
    (case a_led_to => k_is)
    (case l_led_to => k_is)
    (case c_led_to => k_is)
    (case k_led_to => k_is)
    (case a_is_move => k_is)
    (case l_is_move => k_is)
    (case c_is_move => k_is)
    (case k_is_move => k_is)
    (case a_shares => k_is)
    (case l_shares => k_is)
    (case c_shares => k_is)
    (case k_shares => k_is)
    (case a_behind_a_step => k_is)
    (case l_behind_a_step => k_is)
    (case c_behind_a_step => k_is)
    (case k_behind_a_step => k_is)
    (case a_law_cell => k_is)
    (case l_law_cell => k_is)
    (case c_law_cell => k_is)
    (case k_law_cell => k_is)
    (case a_law_dice => k_is)
    (case l_law_dice => k_is)
    (case c_law_dice => k_is)
    (case k_law_dice => k_is)
    (case a_law_off => k_is)
    (case l_law_off => k_is)
    (case c_law_off => k_is)
    (case k_law_off => k_is)
    (case a_law_chain => k_is)
    (case l_law_chain => k_is)
    (case c_law_chain => k_is)
    (case k_law_chain => k_is)
    (case a_law_made => k_is)
    (case l_law_made => k_is)
    (case c_law_made => k_is)
    (case k_law_made => k_is)
    (case a_law_low => k_is)
    (case l_law_low => k_is)
    (case c_law_low => k_is)
    (case k_law_low => k_is)
    (case a_law_add => k_is)
    (case l_law_add => k_is)
    (case c_law_add => k_is)
    (case k_law_add => k_is)
    (case a_law_sum => k_is)
    (case l_law_sum => k_is)
    (case c_law_sum => k_is)
    (case k_law_sum => k_is)
    (case a_law_is_share => k_is)
    (case l_law_is_share => k_is)
    (case c_law_is_share => k_is)
    (case k_law_is_share => k_is)
    (case a_law_are_shares => k_is)
    (case l_law_are_shares => k_is)
    (case c_law_are_shares => k_is)
    (case k_law_are_shares => k_is)
    (case a_law_ends => k_is)
    (case l_law_ends => k_is)
    (case c_law_ends => k_is)
    (case k_law_ends => k_is)
    (case a_law_drawn => k_is)
    (case l_law_drawn => k_is)
    (case c_law_drawn => k_is)
    (case k_law_drawn => k_is)
    (case a_law_rows => k_is)
    (case l_law_rows => k_is)
    (case c_law_rows => k_is)
    (case k_law_rows => k_is)
    (case a_law_is_by_maps => k_is)
    (case l_law_is_by_maps => k_is)
    (case c_law_is_by_maps => k_is)
    (case k_law_is_by_maps => k_is)
    (case a_law_refused => k_is)
    (case l_law_refused => k_is)
    (case c_law_refused => k_is)
    (case k_law_refused => k_is)
    (case a_law => k_is)
    (case l_law => k_is)
    (case c_law => k_is)
    (case k_law => k_is)
    (case aC => k_is)
    (case a_minit => k_is)
    (case i_minit => k_is)
    (case l_minit => k_is)
    (case c_minit => k_is)
    (case k_minit => k_is)
    (case a_mplaces => k_is)
    (case i_mplaces => k_is)
    (case l_mplaces => k_is)
    (case c_mplaces => k_is)
    (case k_mplaces => k_is)
    (case a_mtold => k_is)
    (case i_mtold => k_is)
    (case l_mtold => k_is)
    (case c_mtold => k_is)
    (case k_mtold => k_is)
    (case pg => k_is)
    (case hd => k_is)
    (case po => k_is)
    (case sa => k_is)
    (case mk => k_is)
    (case kc => k_is)
    (case nM => k_is)
    (case nV => k_is)
    (case gMOST_PLACES => k_is)
    (case gMOST_MOVES => k_is)
    (case gMOST_WEIGHT => k_is)
    (case gMOST_FAR => k_is)
    (case zlen => k_is)
    (case zabs => k_is)
    (case zmax => k_is)
    (case zmin => k_is)
    (case zint => k_is)
    (case zrange => k_is)
    (case zsorted => k_is)
    (case ztuple => k_is)
    (case zisinstance => k_is)
    (case zall => k_is)
    (case zenumerate => k_is)
    (case zlist => k_is)
    (case zset => k_is)
    (case zreversed => k_is)
    (case zsum => k_is)
    (case zbool => k_is)
    (case zValueError => k_is)
    (case eLongError => first | k_is | rfl | decide +kernel)
    (case eBadChain => first | k_is | rfl | decide +kernel)
    (case eBadText => first | k_is | rfl | decide +kernel)
    (case eNoSuch => first | k_is | rfl | decide +kernel)
    (case eNotOne => first | k_is | rfl | decide +kernel)
    (case eNeverOne => first | k_is | rfl | decide +kernel)
    (case eNotOrdered => first | k_is | rfl | decide +kernel)
    (case eTooMany => first | k_is | rfl | decide +kernel)
    (case xkNoSuch => first | k_is | rfl | decide +kernel)
    (case xxNoSuch => k_exc)
    (case xbNoSuch => first | k_is | rfl | decide +kernel)
    (case xtNoSuch => first | k_is | rfl | decide +kernel)
    (case xex => first | k_is | rfl | decide +kernel)
    (case xg => first | k_is | rfl | decide +kernel)
    (case xh => first | k_is | rfl | decide +kernel)
    (case xd => first | k_is | rfl | decide +kernel)
    (case xa => first | k_is | rfl | decide +kernel)
    (case xn => first | k_is | rfl | decide +kernel)
    (case xs => first | k_is | rfl | decide +kernel)
    (case xm => first | k_is | rfl | decide +kernel)
    (case xno => first | k_is | rfl | decide +kernel)
    (case xy => first | k_is | rfl | decide +kernel)
    (case xv => first | k_is | rfl | decide +kernel)
    (case ggcd => k_is)
    (case lM_is_move => k_is)
    (case vM_is_move => first | rfl | k_is)
    (case hM_is_move => first | k_is | rfl | decide +kernel)
    (case nT_is_move => first | k_is | rfl | decide +kernel)

